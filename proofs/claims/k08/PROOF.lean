import PyProof.Rows.All
import Wide.All
import OpenK.AllK
import Wide.FinOn
import HandS.ForMost
import HandS.Wide
import HandS.IsInst
import HandS.Replace
import HandS.Codes
import HandS.StrMore
import HandS.More
import HandS.FStr
import HandS.Star
import HandS.CallLocal
import PySem.Challenge.RW_lineworks_k08_sources_are_read_back
set_option Elab.async false
set_option linter.all false
set_option maxRecDepth 100000
namespace Lw
open PySem PySem.Spec PyProof.Rows L2
def topS (i : Nat) : Stmt := PySem.Challenge.pw_lineworks_k08_sources_are_read_back.main.body.getD i (.Pass ⟨0, 0, 0, 0⟩)
abbrev s_read_expression : Stmt := topS 6
abbrev N_read_expression : List Str := ["reader", "tree", "height"]
theorem sc_read_expression : FnScope N_read_expression ["reader"] (defScope s_read_expression) := ⟨rfl, rfl, rfl, by decide +kernel, rfl, by decide +kernel, by decide +kernel⟩
abbrev s_read_or : Stmt := topS 7
abbrev N_read_or : List Str := ["reader", "level"]
theorem sc_read_or : FnScope N_read_or ["reader", "level"] (defScope s_read_or) := ⟨rfl, rfl, rfl, by decide +kernel, rfl, by decide +kernel, by decide +kernel⟩
abbrev s_read_and : Stmt := topS 8
abbrev N_read_and : List Str := ["reader", "level"]
theorem sc_read_and : FnScope N_read_and ["reader", "level"] (defScope s_read_and) := ⟨rfl, rfl, rfl, by decide +kernel, rfl, by decide +kernel, by decide +kernel⟩
abbrev s_read_not : Stmt := topS 9
abbrev N_read_not : List Str := ["reader", "level", "inner", "tree", "height"]
theorem sc_read_not : FnScope N_read_not ["reader", "level"] (defScope s_read_not) := ⟨rfl, rfl, rfl, by decide +kernel, rfl, by decide +kernel, by decide +kernel⟩
abbrev s_read_comparison : Stmt := topS 10
abbrev N_read_comparison : List Str := ["reader", "level", "left", "left_height", "word", "right", "right_height"]
theorem sc_read_comparison : FnScope N_read_comparison ["reader", "level"] (defScope s_read_comparison) := ⟨rfl, rfl, rfl, by decide +kernel, rfl, by decide +kernel, by decide +kernel⟩
abbrev s_read_sum : Stmt := topS 11
abbrev N_read_sum : List Str := ["reader", "level"]
theorem sc_read_sum : FnScope N_read_sum ["reader", "level"] (defScope s_read_sum) := ⟨rfl, rfl, rfl, by decide +kernel, rfl, by decide +kernel, by decide +kernel⟩
abbrev s_read_product : Stmt := topS 12
abbrev N_read_product : List Str := ["reader", "level"]
theorem sc_read_product : FnScope N_read_product ["reader", "level"] (defScope s_read_product) := ⟨rfl, rfl, rfl, by decide +kernel, rfl, by decide +kernel, by decide +kernel⟩
abbrev s_read_negation : Stmt := topS 13
abbrev N_read_negation : List Str := ["reader", "level", "inner", "tree", "height"]
theorem sc_read_negation : FnScope N_read_negation ["reader", "level"] (defScope s_read_negation) := ⟨rfl, rfl, rfl, by decide +kernel, rfl, by decide +kernel, by decide +kernel⟩
abbrev s_read_left_to_right : Stmt := topS 14
abbrev N_read_left_to_right : List Str := ["reader", "level", "words", "read_operand", "tree", "height", "word", "right", "right_height"]
theorem sc_read_left_to_right : FnScope N_read_left_to_right ["reader", "level", "words", "read_operand"] (defScope s_read_left_to_right) := ⟨rfl, rfl, rfl, by decide +kernel, rfl, by decide +kernel, by decide +kernel⟩
abbrev s_read_atom : Stmt := topS 15
abbrev N_read_atom : List Str := ["reader", "level"]
theorem sc_read_atom : FnScope N_read_atom ["reader", "level"] (defScope s_read_atom) := ⟨rfl, rfl, rfl, by decide +kernel, rfl, by decide +kernel, by decide +kernel⟩
abbrev s_read_parenthesis : Stmt := topS 16
abbrev N_read_parenthesis : List Str := ["reader", "level", "inner", "tree", "height"]
theorem sc_read_parenthesis : FnScope N_read_parenthesis ["reader", "level"] (defScope s_read_parenthesis) := ⟨rfl, rfl, rfl, by decide +kernel, rfl, by decide +kernel, by decide +kernel⟩
abbrev s_read_call : Stmt := topS 17
abbrev N_read_call : List Str := ["reader", "level", "inner", "word", "tree", "greatest", "arguments", "height"]
theorem sc_read_call : FnScope N_read_call ["reader", "level"] (defScope s_read_call) := ⟨rfl, rfl, rfl, by decide +kernel, rfl, by decide +kernel, by decide +kernel⟩
abbrev s_read_leaf : Stmt := topS 18
abbrev N_read_leaf : List Str := ["reader", "kind", "word"]
theorem sc_read_leaf : FnScope N_read_leaf ["reader"] (defScope s_read_leaf) := ⟨rfl, rfl, rfl, by decide +kernel, rfl, by decide +kernel, by decide +kernel⟩
abbrev s_read_named : Stmt := topS 19
abbrev N_read_named : List Str := ["reader", "name"]
theorem sc_read_named : FnScope N_read_named ["reader"] (defScope s_read_named) := ⟨rfl, rfl, rfl, by decide +kernel, rfl, by decide +kernel, by decide +kernel⟩
abbrev s_deeper : Stmt := topS 20
abbrev N_deeper : List Str := ["reader", "level"]
theorem sc_deeper : FnScope N_deeper ["reader", "level"] (defScope s_deeper) := ⟨rfl, rfl, rfl, by decide +kernel, rfl, by decide +kernel, by decide +kernel⟩
abbrev s_SourceError___init__ : Stmt := inClass (topS 23) 0
abbrev s_tokens : Stmt := topS 32
abbrev N_tokens : List Str := ["source", "found", "offset", "kind", "value", "end"]
theorem sc_tokens : FnScope N_tokens ["source"] (defScope s_tokens) := ⟨rfl, rfl, rfl, by decide +kernel, rfl, by decide +kernel, by decide +kernel⟩
abbrev s_place : Stmt := topS 33
abbrev s_behind_gap : Stmt := topS 34
abbrev N_behind_gap : List Str := ["source", "start", "end"]
theorem sc_behind_gap : FnScope N_behind_gap ["source", "start"] (defScope s_behind_gap) := ⟨rfl, rfl, rfl, by decide +kernel, rfl, by decide +kernel, by decide +kernel⟩
abbrev s_behind_comment : Stmt := topS 35
abbrev N_behind_comment : List Str := ["source", "start", "newline"]
theorem sc_behind_comment : FnScope N_behind_comment ["source", "start"] (defScope s_behind_comment) := ⟨rfl, rfl, rfl, by decide +kernel, rfl, by decide +kernel, by decide +kernel⟩
abbrev s_read_token : Stmt := topS 36
abbrev N_read_token : List Str := ["source", "start", "first"]
theorem sc_read_token : FnScope N_read_token ["source", "start"] (defScope s_read_token) := ⟨rfl, rfl, rfl, by decide +kernel, rfl, by decide +kernel, by decide +kernel⟩
abbrev s_read_word : Stmt := topS 37
abbrev N_read_word : List Str := ["source", "start", "end"]
theorem sc_read_word : FnScope N_read_word ["source", "start"] (defScope s_read_word) := ⟨rfl, rfl, rfl, by decide +kernel, rfl, by decide +kernel, by decide +kernel⟩
abbrev s_read_number : Stmt := topS 38
abbrev N_read_number : List Str := ["source", "start", "end"]
theorem sc_read_number : FnScope N_read_number ["source", "start"] (defScope s_read_number) := ⟨rfl, rfl, rfl, by decide +kernel, rfl, by decide +kernel, by decide +kernel⟩
abbrev s_read_text : Stmt := topS 39
abbrev N_read_text : List Str := ["source", "start", "end", "value"]
theorem sc_read_text : FnScope N_read_text ["source", "start"] (defScope s_read_text) := ⟨rfl, rfl, rfl, by decide +kernel, rfl, by decide +kernel, by decide +kernel⟩
abbrev s_read_sign : Stmt := topS 40
abbrev N_read_sign : List Str := ["source", "start", "begun", "sign"]
theorem sc_read_sign : FnScope N_read_sign ["source", "start"] (defScope s_read_sign) := ⟨rfl, rfl, rfl, by decide +kernel, rfl, by decide +kernel, by decide +kernel⟩
abbrev s_behind_run : Stmt := topS 41
abbrev N_behind_run : List Str := ["source", "start", "members", "end"]
theorem sc_behind_run : FnScope N_behind_run ["source", "start", "members"] (defScope s_behind_run) := ⟨rfl, rfl, rfl, by decide +kernel, rfl, by decide +kernel, by decide +kernel⟩
abbrev s_behind_text : Stmt := topS 42
abbrev N_behind_text : List Str := ["source", "start", "end"]
theorem sc_behind_text : FnScope N_behind_text ["source", "start"] (defScope s_behind_text) := ⟨rfl, rfl, rfl, by decide +kernel, rfl, by decide +kernel, by decide +kernel⟩
abbrev s_refuse : Stmt := topS 43
abbrev s_Reader___init__ : Stmt := inClass (topS 46) 0
abbrev N_Reader___init__ : List Str := ["self", "source"]
theorem sc_Reader___init__ : FnScope N_Reader___init__ ["self", "source"] (defScope s_Reader___init__) := ⟨rfl, rfl, rfl, by decide +kernel, rfl, by decide +kernel, by decide +kernel⟩
abbrev s_Reader_kind : Stmt := inClass (topS 46) 1
abbrev N_Reader_kind : List Str := ["self", "kind", "value", "_"]
theorem sc_Reader_kind : FnScope N_Reader_kind ["self"] (defScope s_Reader_kind) := ⟨rfl, rfl, rfl, by decide +kernel, rfl, by decide +kernel, by decide +kernel⟩
abbrev s_Reader_ahead : Stmt := inClass (topS 46) 2
abbrev N_Reader_ahead : List Str := ["self"]
theorem sc_Reader_ahead : FnScope N_Reader_ahead ["self"] (defScope s_Reader_ahead) := ⟨rfl, rfl, rfl, by decide +kernel, rfl, by decide +kernel, by decide +kernel⟩
abbrev s_Reader_offset : Stmt := inClass (topS 46) 3
abbrev N_Reader_offset : List Str := ["self"]
theorem sc_Reader_offset : FnScope N_Reader_offset ["self"] (defScope s_Reader_offset) := ⟨rfl, rfl, rfl, by decide +kernel, rfl, by decide +kernel, by decide +kernel⟩
abbrev s_Reader_take : Stmt := inClass (topS 46) 4
abbrev N_Reader_take : List Str := ["self", "value"]
theorem sc_Reader_take : FnScope N_Reader_take ["self"] (defScope s_Reader_take) := ⟨rfl, rfl, rfl, by decide +kernel, rfl, by decide +kernel, by decide +kernel⟩
abbrev s_Reader_expect : Stmt := inClass (topS 46) 5
abbrev N_Reader_expect : List Str := ["self", "word"]
theorem sc_Reader_expect : FnScope N_Reader_expect ["self", "word"] (defScope s_Reader_expect) := ⟨rfl, rfl, rfl, by decide +kernel, rfl, by decide +kernel, by decide +kernel⟩
abbrev s_Reader_take_name : Stmt := inClass (topS 46) 6
abbrev N_Reader_take_name : List Str := ["self"]
theorem sc_Reader_take_name : FnScope N_Reader_take_name ["self"] (defScope s_Reader_take_name) := ⟨rfl, rfl, rfl, by decide +kernel, rfl, by decide +kernel, by decide +kernel⟩
abbrev s_Reader_expect_end : Stmt := inClass (topS 46) 7
abbrev N_Reader_expect_end : List Str := ["self"]
theorem sc_Reader_expect_end : FnScope N_Reader_expect_end ["self"] (defScope s_Reader_expect_end) := ⟨rfl, rfl, rfl, by decide +kernel, rfl, by decide +kernel, by decide +kernel⟩
abbrev s_Reader_fail : Stmt := inClass (topS 46) 8
abbrev s_parse_source : Stmt := topS 54
abbrev N_parse_source : List Str := ["source", "reader", "items", "offset"]
theorem sc_parse_source : FnScope N_parse_source ["source"] (defScope s_parse_source) := ⟨rfl, rfl, rfl, by decide +kernel, rfl, by decide +kernel, by decide +kernel⟩
abbrev s_parse_item : Stmt := topS 55
abbrev N_parse_item : List Str := ["source", "reader", "item"]
theorem sc_parse_item : FnScope N_parse_item ["source"] (defScope s_parse_item) := ⟨rfl, rfl, rfl, by decide +kernel, rfl, by decide +kernel, by decide +kernel⟩
abbrev s_read_item : Stmt := topS 56
abbrev N_read_item : List Str := ["reader", "word", "item"]
theorem sc_read_item : FnScope N_read_item ["reader"] (defScope s_read_item) := ⟨rfl, rfl, rfl, by decide +kernel, rfl, by decide +kernel, by decide +kernel⟩
abbrev s_read_table : Stmt := topS 57
abbrev N_read_table : List Str := ["reader", "name", "columns"]
theorem sc_read_table : FnScope N_read_table ["reader"] (defScope s_read_table) := ⟨rfl, rfl, rfl, by decide +kernel, rfl, by decide +kernel, by decide +kernel⟩
abbrev s_read_list : Stmt := topS 58
abbrev N_read_list : List Str := ["reader", "read_part", "parts"]
theorem sc_read_list : FnScope N_read_list ["reader", "read_part"] (defScope s_read_list) := ⟨rfl, rfl, rfl, by decide +kernel, rfl, by decide +kernel, by decide +kernel⟩
abbrev s_read_column : Stmt := topS 59
abbrev N_read_column : List Str := ["reader", "name"]
theorem sc_read_column : FnScope N_read_column ["reader"] (defScope s_read_column) := ⟨rfl, rfl, rfl, by decide +kernel, rfl, by decide +kernel, by decide +kernel⟩
abbrev s_read_step : Stmt := topS 60
abbrev N_read_step : List Str := ["reader", "name"]
theorem sc_read_step : FnScope N_read_step ["reader"] (defScope s_read_step) := ⟨rfl, rfl, rfl, by decide +kernel, rfl, by decide +kernel, by decide +kernel⟩
abbrev s_read_query : Stmt := topS 61
abbrev N_read_query : List Str := ["reader", "level", "chains", "how"]
theorem sc_read_query : FnScope N_read_query ["reader", "level"] (defScope s_read_query) := ⟨rfl, rfl, rfl, by decide +kernel, rfl, by decide +kernel, by decide +kernel⟩
abbrev s_read_chain : Stmt := topS 62
abbrev N_read_chain : List Str := ["reader", "level", "operand", "stages"]
theorem sc_read_chain : FnScope N_read_chain ["reader", "level"] (defScope s_read_chain) := ⟨rfl, rfl, rfl, by decide +kernel, rfl, by decide +kernel, by decide +kernel⟩
abbrev s_read_operand : Stmt := topS 63
abbrev N_read_operand : List Str := ["reader", "level", "name"]
theorem sc_read_operand : FnScope N_read_operand ["reader", "level"] (defScope s_read_operand) := ⟨rfl, rfl, rfl, by decide +kernel, rfl, by decide +kernel, by decide +kernel⟩
abbrev s_read_inside : Stmt := topS 64
abbrev N_read_inside : List Str := ["reader", "level", "query"]
theorem sc_read_inside : FnScope N_read_inside ["reader", "level"] (defScope s_read_inside) := ⟨rfl, rfl, rfl, by decide +kernel, rfl, by decide +kernel, by decide +kernel⟩
abbrev s_read_stage : Stmt := topS 65
abbrev N_read_stage : List Str := ["reader", "level", "word"]
theorem sc_read_stage : FnScope N_read_stage ["reader", "level"] (defScope s_read_stage) := ⟨rfl, rfl, rfl, by decide +kernel, rfl, by decide +kernel, by decide +kernel⟩
abbrev s_read_join : Stmt := topS 66
abbrev N_read_join : List Str := ["reader", "level", "how", "operand"]
theorem sc_read_join : FnScope N_read_join ["reader", "level", "how"] (defScope s_read_join) := ⟨rfl, rfl, rfl, by decide +kernel, rfl, by decide +kernel, by decide +kernel⟩
abbrev s_read_group : Stmt := topS 67
abbrev N_read_group : List Str := ["reader", "outputs", "totals"]
theorem sc_read_group : FnScope N_read_group ["reader"] (defScope s_read_group) := ⟨rfl, rfl, rfl, by decide +kernel, rfl, by decide +kernel, by decide +kernel⟩
abbrev s_read_output : Stmt := topS 68
abbrev N_read_output : List Str := ["reader", "expression"]
theorem sc_read_output : FnScope N_read_output ["reader"] (defScope s_read_output) := ⟨rfl, rfl, rfl, by decide +kernel, rfl, by decide +kernel, by decide +kernel⟩
abbrev s_read_total : Stmt := topS 69
abbrev N_read_total : List Str := ["reader", "form"]
theorem sc_read_total : FnScope N_read_total ["reader"] (defScope s_read_total) := ⟨rfl, rfl, rfl, by decide +kernel, rfl, by decide +kernel, by decide +kernel⟩
abbrev s_read_form : Stmt := topS 70
abbrev N_read_form : List Str := ["reader", "word", "expression"]
theorem sc_read_form : FnScope N_read_form ["reader"] (defScope s_read_form) := ⟨rfl, rfl, rfl, by decide +kernel, rfl, by decide +kernel, by decide +kernel⟩
abbrev s__law_draw : Stmt := topS 72
abbrev N__law_draw : List Str := ["script"]
theorem sc__law_draw : FnScope N__law_draw ["script"] (defScope s__law_draw) := ⟨rfl, rfl, rfl, by decide +kernel, rfl, by decide +kernel, by decide +kernel⟩
abbrev s__law_next : Stmt := topS 73
abbrev N__law_next : List Str := ["draw", "many", "found", "cell"]
theorem sc__law_next : FnScope N__law_next ["draw", "many"] (defScope s__law_next) := ⟨rfl, rfl, rfl, by decide +kernel, rfl, by decide +kernel, by decide +kernel⟩
abbrev s__law_reserved : Stmt := topS 74
abbrev N__law_reserved : List Str := ["words"]
theorem sc__law_reserved : FnScope N__law_reserved [] (defScope s__law_reserved) := ⟨rfl, rfl, rfl, by decide +kernel, rfl, by decide +kernel, by decide +kernel⟩
abbrev s__law_name : Stmt := topS 75
abbrev N__law_name : List Str := ["draw", "letters", "size", "word", "k"]
theorem sc__law_name : FnScope N__law_name ["draw"] (defScope s__law_name) := ⟨rfl, rfl, rfl, by decide +kernel, rfl, by decide +kernel, by decide +kernel⟩
abbrev s__law_string : Stmt := topS 76
abbrev N__law_string : List Str := ["draw", "chars", "size", "k"]
theorem sc__law_string : FnScope N__law_string ["draw"] (defScope s__law_string) := ⟨rfl, rfl, rfl, by decide +kernel, rfl, by decide +kernel, by decide +kernel⟩
abbrev s__law_quoted : Stmt := topS 77
abbrev N__law_quoted : List Str := ["value"]
theorem sc__law_quoted : FnScope N__law_quoted ["value"] (defScope s__law_quoted) := ⟨rfl, rfl, rfl, by decide +kernel, rfl, by decide +kernel, by decide +kernel⟩
abbrev s__law_number : Stmt := topS 78
abbrev N__law_number : List Str := ["draw", "number", "k"]
theorem sc__law_number : FnScope N__law_number ["draw"] (defScope s__law_number) := ⟨rfl, rfl, rfl, by decide +kernel, rfl, by decide +kernel, by decide +kernel⟩
abbrev s__law_signs : Stmt := topS 79
abbrev N__law_signs : List Str := []
theorem sc__law_signs : FnScope N__law_signs [] (defScope s__law_signs) := ⟨rfl, rfl, rfl, by decide +kernel, rfl, by decide +kernel, by decide +kernel⟩
abbrev s__law_leaf : Stmt := topS 80
abbrev N__law_leaf : List Str := ["draw", "form"]
theorem sc__law_leaf : FnScope N__law_leaf ["draw"] (defScope s__law_leaf) := ⟨rfl, rfl, rfl, by decide +kernel, rfl, by decide +kernel, by decide +kernel⟩
abbrev s__law_expression : Stmt := topS 81
abbrev N__law_expression : List Str := ["draw", "depth", "form", "first", "second"]
theorem sc__law_expression : FnScope N__law_expression ["draw", "depth"] (defScope s__law_expression) := ⟨rfl, rfl, rfl, by decide +kernel, rfl, by decide +kernel, by decide +kernel⟩
abbrev s__law_level : Stmt := topS 82
abbrev N__law_level : List Str := ["expression", "levels"]
theorem sc__law_level : FnScope N__law_level ["expression"] (defScope s__law_level) := ⟨rfl, rfl, rfl, by decide +kernel, rfl, by decide +kernel, by decide +kernel⟩
abbrev s__law_print_atom : Stmt := topS 83
abbrev N__law_print_atom : List Str := ["expression", "form", "part"]
theorem sc__law_print_atom : FnScope N__law_print_atom ["expression"] (defScope s__law_print_atom) := ⟨rfl, rfl, rfl, by decide +kernel, rfl, by decide +kernel, by decide +kernel⟩
abbrev s__law_print : Stmt := topS 84
abbrev N__law_print : List Str := ["expression", "wanted", "level", "written", "first"]
theorem sc__law_print : FnScope N__law_print ["expression", "wanted"] (defScope s__law_print) := ⟨rfl, rfl, rfl, by decide +kernel, rfl, by decide +kernel, by decide +kernel⟩
abbrev s__law_outputs : Stmt := topS 85
abbrev N__law_outputs : List Str := ["draw", "depth", "outputs", "k", "expression", "name"]
theorem sc__law_outputs : FnScope N__law_outputs ["draw", "depth"] (defScope s__law_outputs) := ⟨rfl, rfl, rfl, by decide +kernel, rfl, by decide +kernel, by decide +kernel⟩
abbrev s__law_totals : Stmt := topS 86
abbrev N__law_totals : List Str := ["draw", "depth", "totals", "k", "form", "expression"]
theorem sc__law_totals : FnScope N__law_totals ["draw", "depth"] (defScope s__law_totals) := ⟨rfl, rfl, rfl, by decide +kernel, rfl, by decide +kernel, by decide +kernel⟩
abbrev s__law_operand : Stmt := topS 87
abbrev N__law_operand : List Str := ["draw", "inside", "depth", "name"]
theorem sc__law_operand : FnScope N__law_operand ["draw", "inside", "depth"] (defScope s__law_operand) := ⟨rfl, rfl, rfl, by decide +kernel, rfl, by decide +kernel, by decide +kernel⟩
abbrev s__law_stage : Stmt := topS 88
abbrev N__law_stage : List Str := ["draw", "inside", "depth", "form", "how", "operand", "outputs"]
theorem sc__law_stage : FnScope N__law_stage ["draw", "inside", "depth"] (defScope s__law_stage) := ⟨rfl, rfl, rfl, by decide +kernel, rfl, by decide +kernel, by decide +kernel⟩
abbrev s__law_query : Stmt := topS 89
abbrev N__law_query : List Str := ["draw", "inside", "depth", "query", "k", "how", "operand", "stages", "j"]
theorem sc__law_query : FnScope N__law_query ["draw", "inside", "depth"] (defScope s__law_query) := ⟨rfl, rfl, rfl, by decide +kernel, rfl, by decide +kernel, by decide +kernel⟩
abbrev s__law_print_output : Stmt := topS 90
abbrev N__law_print_output : List Str := ["output", "expression", "written"]
theorem sc__law_print_output : FnScope N__law_print_output ["output"] (defScope s__law_print_output) := ⟨rfl, rfl, rfl, by decide +kernel, rfl, by decide +kernel, by decide +kernel⟩
abbrev s__law_print_total : Stmt := topS 91
abbrev N__law_print_total : List Str := ["total", "form"]
theorem sc__law_print_total : FnScope N__law_print_total ["total"] (defScope s__law_print_total) := ⟨rfl, rfl, rfl, by decide +kernel, rfl, by decide +kernel, by decide +kernel⟩
abbrev s__law_print_operand : Stmt := topS 92
abbrev N__law_print_operand : List Str := ["operand"]
theorem sc__law_print_operand : FnScope N__law_print_operand ["operand"] (defScope s__law_print_operand) := ⟨rfl, rfl, rfl, by decide +kernel, rfl, by decide +kernel, by decide +kernel⟩
abbrev s__law_print_stage : Stmt := topS 93
abbrev N__law_print_stage : List Str := ["stage", "word", "written", "parts", "output", "total"]
theorem sc__law_print_stage : FnScope N__law_print_stage ["stage"] (defScope s__law_print_stage) := ⟨rfl, rfl, rfl, by decide +kernel, rfl, by decide +kernel, by decide +kernel⟩
abbrev s__law_print_query : Stmt := topS 94
abbrev N__law_print_query : List Str := ["query", "gap", "parts", "how", "chain", "begin", "stage"]
theorem sc__law_print_query : FnScope N__law_print_query ["query", "gap"] (defScope s__law_print_query) := ⟨rfl, rfl, rfl, by decide +kernel, rfl, by decide +kernel, by decide +kernel⟩
abbrev s__law_items : Stmt := topS 95
abbrev N__law_items : List Str := ["draw", "inside", "depth", "items", "k", "name", "columns", "j"]
theorem sc__law_items : FnScope N__law_items ["draw", "inside", "depth"] (defScope s__law_items) := ⟨rfl, rfl, rfl, by decide +kernel, rfl, by decide +kernel, by decide +kernel⟩
abbrev s__law_print_item : Stmt := topS 96
abbrev N__law_print_item : List Str := ["item", "columns", "name", "kind"]
theorem sc__law_print_item : FnScope N__law_print_item ["item"] (defScope s__law_print_item) := ⟨rfl, rfl, rfl, by decide +kernel, rfl, by decide +kernel, by decide +kernel⟩
abbrev s__law_same : Stmt := topS 97
abbrev N__law_same : List Str := ["actual", "due", "k"]
theorem sc__law_same : FnScope N__law_same ["actual", "due"] (defScope s__law_same) := ⟨rfl, rfl, rfl, by decide +kernel, rfl, by decide +kernel, by decide +kernel⟩
abbrev s_law : Stmt := topS 98
abbrev N_law : List Str := ["script", "draw", "items", "gap", "source", "due", "item"]
theorem sc_law : FnScope N_law ["script"] (defScope s_law) := ⟨rfl, rfl, rfl, by decide +kernel, rfl, by decide +kernel, by decide +kernel⟩
/-! ### heaps and calls -/
theorem same_upd {H : Hp} {p : Addr} {o : HO} (h : H p = none) : Same H (upd H p o) := fun b x e => by
  rw [upd_ne (ne_of_none e h)]
  exact e
/-- what stood stands, but for the object at d -/
def Fd (d : Addr) (H H' : Hp) : Prop := ∀ b o, b ≠ d → H b = some o → H' b = some o
theorem Fd.refl (d : Addr) (H : Hp) : Fd d H H := fun _ _ _ e => e
theorem Fd.trans {d : Addr} {H H1 H2 : Hp} (a : Fd d H H1) (b : Fd d H1 H2) : Fd d H H2 := fun c o n e => b c o n (a c o n e)
theorem Fd.of {d : Addr} {H H' : Hp} (a : Same H H') : Fd d H H' := fun b o _ e => a b o e
theorem Fd.new {d : Addr} {H : Hp} {p : Addr} {o : HO} (h : H p = none) : Fd d H (upd H p o) := Fd.of (same_upd h)
theorem Fd.at {d : Addr} {H : Hp} {o : HO} : Fd d H (upd H d o) := fun b x n e => by
  rw [upd_ne n]
  exact e
/-- a def that may be called by its name -/
structure Cl (P : Program) (w : World) (K : PySem.W.Frag) (mg : Str → Option Value) (base : Heap) (k : Nat) (x : Str) (sp : Sp) : Prop where
  ex : ∃ (f : Addr) (fd : FuncData) (ps : List Str), FnOk P w K mg base CX0 k f fd ps sp ∧ mg x = some (.ref f) ∧ PySem.W.keepIn K (.ref f) = true ∧ Binds K fd ps []
section
variable {X : Cx} {k j : Nat} {x : Str} {sp : Sp} {p pos : Pos} {e : Expr} {es : List Expr} {t : TA}
theorem pe_u (c : Cl X.prog X.w X.K X.mg X.base k x sp) (hr : Room j X.A) (hk : k ≤ j) (hg : Gl X x) (ha : PA X (e :: es) t)
    (hdb : (x == ("__debug__" : Str)) = false := by decide) (he : starEach (e :: es) X.env = (false, eval e X.env) :: starEach es X.env := by rfl) (hpl : (backTo pos (starEach es X.env)).any (·.1) = false := by rfl) :
    PE X (.Call (.Name x p) (e :: es) [] pos) (tCall sp [] E0 t) := by
  obtain ⟨f, fd, ps, F, hm, kp, b⟩ := c.ex
  exact pe_call F (hr.mono hk) hg hm kp b .nil pass0 ha hdb he hpl
theorem pe_u0 (c : Cl X.prog X.w X.K X.mg X.base k x sp) (hr : Room j X.A) (hk : k ≤ j) (hg : Gl X x) (hdb : (x == ("__debug__" : Str)) = false := by decide) : PE X (.Call (.Name x p) [] [] pos) (tCall sp [] E0 tNil) := by
  obtain ⟨f, fd, ps, F, hm, kp, b⟩ := c.ex
  exact pe_call0 F (hr.mono hk) hg hm kp b .nil pass0 hdb
end
theorem FnOk.cl {P : Program} {w : World} {K : PySem.W.Frag} {mg : Str → Option Value} {base : Heap} {k : Nat} {x q : Str} {st : Stmt} {f : Addr} {fd : FuncData} {ps : List Str} {sp : Sp} (h : FnOk P w K mg base CX0 k f fd ps sp) (F : Fun K x q st f fd) (g : mg x = some (.ref f)) (b : Binds K fd ps []) : Cl P w K mg base k x sp := ⟨f, fd, ps, h, g, F.kp, b⟩
/-! ### rules with the written part named (within a comprehension) -/
section
variable {X : Cx} (K : PySem.W.Frag)
theorem ix_listK (h : X.K = K := by rfl) : IxR X (rIxL K) := by subst h; exact ix_list
theorem ix_tupK (h : X.K = K := by rfl) : IxR X (rIxT K) := by subst h; exact ix_tup
theorem ix_seqK (h : X.K = K := by rfl) : IxR X (rIx K) := by subst h; exact ix_seq
theorem len_seqK (h : X.K = K := by rfl) : CallR X (.builtin "len") (fun xs H Q => ∃ p ys, xs = [.ref p] ∧ (SqL K H p ys ∨ SqT K H p ys) ∧ Q (.int ys.length) H) := by subst h; exact call_len_seq
theorem isiK (h : X.K = K := by rfl) : CallR X (.builtin "isinstance") (rIsi K) := by subst h; exact call_isi
theorem isiTK (h : X.K = K := by rfl) : CallR X (.builtin "isinstance") (rIsiT K) := by subst h; exact call_isiT
theorem allK (hc : X.calm = true) (h : X.K = K := by rfl) : CallR X (.builtin "all") (rAll K) := by subst h; exact cr_all hc
theorem listK (h : X.K = K := by rfl) : CallR X (.type "list") (fun xs H Q => ∃ p ys, xs = [.ref p] ∧ (SqL K H p ys ∨ SqT K H p ys) ∧ ∀ l, H l = none → Q (.ref l) (upd H l (.lst ys))) := by subst h; exact call_list_of
theorem tupleK (h : X.K = K := by rfl) : CallR X (.type "tuple") (fun xs H Q => ∃ p ys, xs = [.ref p] ∧ ((SqL K H p ys ∧ ∀ l, H l = none → Q (.ref l) (upd H l (.tup ys))) ∨ (SqT K H p ys ∧ Q (.ref p) H))) := by subst h; exact call_tuple_of
theorem inK (h : X.K = K := by rfl) : OpR X (compareOp .In) (rIn K false) := by subst h; exact op_in_seq
theorem notInK (h : X.K = K := by rfl) : OpR X (compareOp .NotIn) (rIn K true) := by subst h; exact op_notIn_seq
theorem pe_bmK {T : String} {name : Str} {id : String} {r : V → List V → Hp → VK → Prop} {o e : Expr} {es : List Expr} {to : TE} {t : TA} {apos cpos : Pos} (pa : PlainAttrs T) (slot : Slot T name id) (hty : typeOf (.builtin id) = pure (.type "method_descriptor")) (hm : MtR X id r) (ho : PE X o to) (ha : PA X (e :: es) t) (hK : X.K = K := by rfl)
    (hbase : attributeBase o name X.env (eval o X.env) = eval o X.env := by rfl)
    (hfew : ((backTo cpos (starEach (e :: es) X.env)).all (fun x => !x.1) && (backToKw cpos (keywordEach [] X.env)).all (fun x => x.1.isSome)
      && decide ((e :: es).length + ([] : List Keyword).length + (if ([] : List Keyword).isEmpty then 0 else 1) < 30)) = true := by rfl)
    (hline : (apos.endLine == cpos.line) = true := by rfl) (hs : starEach (e :: es) X.env = (false, eval e X.env) :: starEach es X.env := by rfl) (hplain : (backTo cpos (starEach es X.env)).any (·.1) = false := by rfl) :
    PE X (.Call (.Attribute o name apos) (e :: es) [] cpos) (tBM K T r to t) := by subst hK; exact pe_bm pa slot hty hm ho ha hbase hfew hline hs hplain
theorem pt_truthK {a : Expr} {ta : TE} (ha : PE X a ta) (he : ∀ whole, isTrue a X.env whole = (do let v ← whole; standAt a.pos; holding [v] (truthy v))) (h : X.K = K := by rfl) : PT X a (fun σ H Q => ta σ H fun x H' => ∃ k, TruV K x H' k ∧ Q k H') := by subst h; exact pt_truth ha he
theorem eqDK (hu : X.A.units + 64 < cLine) (h : X.K = K := by rfl) : OpR X (compareOp .Eq) (rEqD K) := by subst h; exact op_eqD hu
theorem neDK (hu : X.A.units + 64 < cLine) (h : X.K = K := by rfl) : OpR X (compareOp .NotEq) (rNeD K) := by subst h; exact op_neD hu
end
/-- over the signs of a text -/
theorem for_strs {x : Str} {g : TG} {tb : TS} {D : Ends} {σ : L2.St} {H : Hp} (Pv : Nat → L2.St → Hp → Prop) (h0 : Pv 0 σ H)
    (hs : ∀ i c σ H, x.cps.toList[i]? = some c → Pv i σ H → g (.str ⟨#[c]⟩) σ H fun σ2 H2 => tb { D with nx := Pv (i + 1), ct := Pv (i + 1), bk := D.nx } σ2 H2) (hd : ∀ σ H, Pv x.cps.toList.length σ H → D.nx σ H) :
    ∃ W : Nat → Nat → L2.St → Hp → Prop, (∃ m, W 0 m σ H) ∧ ∀ i m σ H, W i m σ H →
      ((Its x).stop i H ∧ D.nx σ H) ∨ ((Its x).go i H ∧ ∃ N : L2.St → Hp → Prop, (∀ σ' H', N σ' H' → ∃ m', m' < m ∧ W (i + 1) m' σ' H') ∧ ∀ v H', (Its x).yld i H v H' → g v σ H' fun σ2 H2 => tb { D with nx := N, ct := N, bk := D.nx } σ2 H2) := by
  have es : x.cps.toList.length = x.cps.size := by simp
  refine ⟨fun i m σ H => m = x.cps.size - i ∧ i ≤ x.cps.size ∧ Pv i σ H, ⟨x.cps.size, by simp, Nat.zero_le _, h0⟩, ?_⟩
  rintro i m σ H ⟨rfl, hi, p⟩
  by_cases hlt : i < x.cps.size
  · refine .inr ⟨hlt, Pv (i + 1), fun σ' H' p' => ⟨x.cps.size - (i + 1), by omega, rfl, hlt, p'⟩, fun v H' y => ?_⟩
    obtain ⟨e, c, hc, rfl⟩ := y
    subst e
    exact hs i c σ _ (by rw [Array.getElem?_toList]; exact hc) p
  · have e : i = x.cps.size := by omega
    subst e
    exact .inl ⟨Nat.le_refl _, hd σ H (by rw [es]; exact p)⟩
theorem joinL0 : ∀ ps : List (List Nat), TL.joinL [] ps = ps.flatten
  | [] => rfl
  | [p] => by
    show p = p ++ []
    rw [List.append_nil]
  | p :: q :: r => by
    show p ++ ([] ++ TL.joinL [] (q :: r)) = p ++ (q :: r).flatten
    rw [joinL0 (q :: r), List.nil_append]
theorem join0 (ys : List Str) : Txt.join ⟨#[]⟩ ys = ⟨((ys.map TL.tl).flatten).toArray⟩ := by
  refine TL.ext_tl ?_
  rw [TL.join_eq, TL.tl_join]
  show TL.joinL [] _ = _
  rw [joinL0]
theorem flat_len : ∀ ys : List Str, ((ys.map TL.tl).flatten).length = (ys.map (·.length)).sum
  | [] => rfl
  | y :: ys => by
    rw [List.map_cons, List.flatten_cons, List.length_append, flat_len ys, List.map_cons, List.sum_cons]
    show y.cps.toList.length + _ = _
    rw [Array.length_toList]
    rfl
theorem S_len' (l : List Nat) : (⟨l.toArray⟩ : Str).length = l.length := by simp [Str.length]
theorem cut_to (l : List Nat) {o : Nat} (h : o ≤ l.length) : cutS ⟨l.toArray⟩ none (some (o : Int)) = ⟨(l.take o).toArray⟩ := by
  unfold cutS
  rw [HT.sIx_none, HT.sIx_nat, S_len', Nat.sub_zero, Nat.min_eq_left h]
  show (⟨((l.drop 0).take o).toArray⟩ : Str) = _
  rw [List.drop_zero]
theorem str1 (c : Nat) (d : Nat) : decide (V.str ⟨#[c]⟩ = V.str ⟨#[d]⟩) = decide (c = d) := by
  by_cases h : c = d
  · subst h
    rw [decide_eq_true rfl, decide_eq_true rfl]
  · rw [decide_eq_false h, decide_eq_false]
    intro e
    have e1 := V.str.inj e
    have e2 := Array.toList_inj.mpr (Str.mk.inj e1)
    exact h (by simpa using e2)
def tx (l : List Nat) : V := .str ⟨l.toArray⟩

structure Mg (mg : Str → Option Value) : Prop where
  abs : mg "abs" = none
  all : mg "all" = none
  bool : mg "bool" = none
  int : mg "int" = none
  isinstance : mg "isinstance" = none
  len : mg "len" = none
  list : mg "list" = none
  max : mg "max" = none
  range : mg "range" = none
  str : mg "str" = none
  tuple : mg "tuple" = none
/-! ### the law's draws: a list of the script's copy, a place in it, what is left of a great number, a seed -/
def Dr (H : Hp) (d c : Addr) : Prop := c ≠ d ∧ ∃ (ns : List Int) (pos rest seed : Int), H d = some (.lst [.ref c, .int pos, .int rest, .int seed]) ∧ H c = some (.lst (ns.map V.int)) ∧ 0 ≤ pos ∧ 0 ≤ rest ∧ 0 ≤ seed ∧ seed < 2147483647
theorem Dr.ext {H H' : Hp} {d c : Addr} (h : Dr H d c) (e : Same H H') : Dr H' d c := by
  obtain ⟨n, ns, pos, rest, seed, h1, h2, r⟩ := h
  exact ⟨n, ns, pos, rest, seed, e _ _ h1, e _ _ h2, r⟩
theorem Dr.upd {H : Hp} {d c p : Addr} {o : HO} (h : Dr H d c) (n1 : p ≠ d) (n2 : p ≠ c) : Dr (upd H p o) d c := by
  obtain ⟨n, ns, pos, rest, seed, h1, h2, r⟩ := h
  exact ⟨n, ns, pos, rest, seed, by rw [upd_ne n1.symm]; exact h1, by rw [upd_ne n2.symm]; exact h2, r⟩
theorem Dr.nd {H : Hp} {d c p : Addr} (h : Dr H d c) (n : H p = none) : p ≠ d := by
  obtain ⟨_, ns, pos, rest, seed, h1, _⟩ := h
  exact (ne_of_none h1 n).symm
theorem Dr.nc {H : Hp} {d c p : Addr} (h : Dr H d c) (n : H p = none) : p ≠ c := by
  obtain ⟨_, ns, pos, rest, seed, _, h2, _⟩ := h
  exact (ne_of_none h2 n).symm
theorem Dr.lst {H : Hp} {d c : Addr} (h : Dr H d c) : ∃ zs, H d = some (.lst zs) := by
  obtain ⟨_, ns, pos, rest, seed, h1, _⟩ := h
  exact ⟨_, h1⟩
theorem Dr.lift {H H' : Hp} {d c d' c' : Addr} (_h : Dr H d c) (h' : Dr H' d' c') : Dr H' d' c' := h'
def sp_draw (K : PySem.W.Frag) : Sp := fun vs H Q _ => ∃ (a : Addr) (ns : List Int), vs = [.ref a] ∧ SqL K H a (ns.map V.int) ∧ ∀ H' d c, Same H H' → H d = none → Dr H' d c → Q (.ref d) H'
/-- a draw: some number below many -/
def sp_next : Sp := fun vs H Q _ => ∃ (d c : Addr) (many : Int), vs = [.ref d, .int many] ∧ Dr H d c ∧ 1 ≤ many ∧ many < 2 ^ 64 ∧ ∀ H' r, Fd d H H' → (∀ p, p ≠ d → H' p = H p) → Dr H' d c → 0 ≤ r → r < many → Q (.int r) H'
section
variable {P : Program} {w : World} {K : PySem.W.Frag} {mg : Str → Option Value} {base : Heap}
theorem ok_draw {f : Addr} {fd : FuncData} (F : Fun K "_law_draw" "_law_draw" s__law_draw f fd) (M : Mg mg) : FnOk P w K mg base CX0 1 f fd ["script"] (sp_draw K) := by
  refine F.ok sc__law_draw (fun vs H Q E h => ?_) (fun cdv A outer s H vs Q E hr h => ?_)
  · obtain ⟨a, ns, rfl, _⟩ := h
    rfl
  · obtain ⟨a, ns, rfl, hS, q⟩ := h
    refine ⟨_, (pss_one (ps_ret (pe_lst (pa_cons (pe_callTy (listK K) (by rfl) M.list (by decide +kernel) (pa_cons (pv 0) pa_nil)) (pa_cons pe_int (pa_cons pe_int (pa_cons pe_int pa_nil))))))), ?_⟩
    refine ⟨_, rfl, a, _, rfl, .inl hS, fun c nc => ?_⟩
    refine ⟨by show 4 ≤ sizeLine; decide, fun d nd => ?_⟩
    have hc : (upd H c (.lst (ns.map V.int))) c = some (.lst (ns.map V.int)) := upd_same
    have ncd : c ≠ d := ne_of_none hc nd
    have s1 := (same_upd nc (o := .lst (ns.map V.int))).trans (same_upd nd (o := .lst [.ref c, .int 0, .int 0, .int 17]))
    refine q _ d c s1 ((same_upd nc).free nd) ⟨ncd, ns, 0, 0, 17, upd_same, ?_, by decide, by decide, by decide, by decide⟩
    rw [upd_ne ncd]
    exact hc
theorem next_aux {H : Hp} {d c : Addr} {xs' : List V} {pos rest seed : Int} {ns : List Int} (hn : c ≠ d) (h2 : H c = some (.lst (ns.map V.int))) (hx : xs' = [.ref c, .int pos, .int rest, .int seed]) (h0 : 0 ≤ pos) (h1 : 0 ≤ rest) (h3 : 0 ≤ seed) (h4 : seed < 2147483647) : Dr (upd H d (.lst xs')) d c := by
  subst hx
  refine ⟨hn, ns, pos, rest, seed, upd_same, ?_, h0, h1, h3, h4⟩
  rw [upd_ne hn]
  exact h2
theorem ok_next {f : Addr} {fd : FuncData} (F : Fun K "_law_next" "_law_next" s__law_next f fd) (M : Mg mg) : FnOk P w K mg base CX0 1 f fd ["draw", "many"] sp_next := by
  refine F.ok sc__law_next (fun vs H Q E h => ?_) (fun cdv A outer s H vs Q E hr h => ?_)
  · obtain ⟨d, c, many, rfl, _⟩ := h
    rfl
  · obtain ⟨d, c, many, rfl, ⟨ncd, ns, pos, rest, seed, h1, h2, h0, h3, h4, h5⟩, hm1, hm2, q⟩ := h
    have hdv : ∀ x : Int, CDivW x many := fun x => wide_div (b := 64) (by omega) (by omega) (by decide) (by decide)
    have hcd : d ≠ c := ncd.symm
    have L0 : SqL K H d [.ref c, .int pos, .int rest, .int seed] := .of h1
    have at0 : ∀ (a b e g : V), atI [a, b, e, g] (0 : Int) = some a := fun a b e g => atI_nat (j := 0) rfl
    have at1 : ∀ (a b e g : V), atI [a, b, e, g] (1 : Int) = some b := fun a b e g => atI_nat (j := 1) rfl
    have at2 : ∀ (a b e g : V), atI [a, b, e, g] (2 : Int) = some e := fun a b e g => atI_nat (j := 2) rfl
    have at3 : ∀ (a b e g : V), atI [a, b, e, g] (3 : Int) = some g := fun a b e g => atI_nat (j := 3) rfl
    have fr : ∀ (H0 : Hp) (o : HO), (∀ p, p ≠ d → H0 p = H p) → (∀ p, p ≠ d → (upd H0 d o) p = H p) := fun H0 o e p n => by rw [upd_ne n]; exact e p n
    have fF : ∀ (H0 : Hp), (∀ p, p ≠ d → H0 p = H p) → Fd d H H0 := fun H0 e b o n h => by rw [e b n]; exact h
    -- the last row's value
    have last : ∀ (seed' : Int), 0 ≤ seed' → seed' < 2147483647 → ∀ H0 : Hp, (∀ p, p ≠ d → H0 p = H p) → (∃ pos rest, H0 d = some (.lst [.ref c, .int pos, .int rest, .int seed']) ∧ 0 ≤ pos ∧ 0 ≤ rest) → Q (.int ((seed' * 69621 % 2147483629 / 7) % many)) H0 := by
      intro seed' g0 g1 H0 e ⟨pos', rest', g2, g3, g4⟩
      exact q H0 _ (fF _ e) e ⟨ncd, ns, pos', rest', seed', g2, by rw [e c ncd]; exact h2, g3, g4, g0, g1⟩ (Int.emod_nonneg _ (by omega)) (Int.emod_lt_of_pos _ (by omega))
    refine ⟨_, (pss_cons (ps_if (pt_cmpR op_gt (pe_ix (ix_listK K) (pv 0) pe_int (fun _ _ => rfl)) pe_int (nomark _)) (pss_cons (ps_set (i := 2) sc__law_next.nd rfl (.inl rfl) (pe_op op_mod (pe_callTy call_int1 (by rfl) M.int (by decide +kernel) (pa_cons (pe_ix (ix_listK K) (pv 0) pe_int (fun _ _ => rfl)) pa_nil)) (pv 1)))
      (pss_cons (ps_asg (pe_op op_fdivW (pe_ix (ix_listK K) (pv 0) pe_int (fun _ _ => rfl)) (pv 1)) (pg_sub (pv 0) pe_int set_list))
      (pss_one (ps_ret (pv 2))))) pss_nil)
      (pss_cons (ps_if (pt_cmpR op_lt (pe_ix (ix_listK K) (pv 0) pe_int (fun _ _ => rfl)) (pe_callB (len_seqK K) (by rfl) M.len PySem.boot_len (pa_cons (pe_ix (ix_listK K) (pv 0) pe_int (fun _ _ => rfl)) pa_nil)) (nomark _)) (pss_cons (ps_set (i := 3) sc__law_next.nd rfl (.inl rfl) (pe_callB call_abs (by rfl) M.abs (by decide +kernel) (pa_cons (pe_ix (ix_listK K) (pe_ix (ix_listK K) (pv 0) pe_int (fun _ _ => rfl)) (pe_ix (ix_listK K) (pv 0) pe_int (fun _ _ => rfl)) (fun _ _ => rfl)) pa_nil)))
      (pss_cons (ps_asg (pe_op op_add (pe_ix (ix_listK K) (pv 0) pe_int (fun _ _ => rfl)) pe_int) (pg_sub (pv 0) pe_int set_list))
      (pss_cons (ps_if (pt_cmpR op_ge (pv 3) (pe_op op_pow pe_int pe_int) (nomark _)) (pss_cons (ps_asg (pe_op op_fdivW (pv 3) (pv 1)) (pg_sub (pv 0) pe_int set_list))
      (pss_one (ps_ret (pe_op op_mod (pe_callTy call_int1 (by rfl) M.int (by decide +kernel) (pa_cons (pv 3) pa_nil)) (pv 1))))) pss_nil)
      (pss_one (ps_asg (pe_op op_mod (pe_callTy call_int1 (by rfl) M.int (by decide +kernel) (pa_cons (pe_op op_add (pe_op op_add (pe_op op_mul (pe_ix (ix_listK K) (pv 0) pe_int (fun _ _ => rfl)) pe_int) (pv 3)) pe_int) pa_nil)) pe_int) (pg_sub (pv 0) pe_int set_list)))))) (pss_one (ps_asg (pe_op op_mod (pe_callTy call_int1 (by rfl) M.int (by decide +kernel) (pa_cons (pe_op op_add (pe_op op_mul (pe_ix (ix_listK K) (pv 0) pe_int (fun _ _ => rfl)) pe_int) pe_int) pa_nil)) pe_int) (pg_sub (pv 0) pe_int set_list))))
      (pss_one (ps_ret (pe_op op_mod (pe_op op_fdivW (pe_callTy call_int1 (by rfl) M.int (by decide +kernel) (pa_cons (pe_op op_mod (pe_op op_mul (pe_ix (ix_listK K) (pv 0) pe_int (fun _ _ => rfl)) pe_int) pe_int) pa_nil)) pe_int) (pv 1)))))), ?_⟩
    refine ⟨_, rfl, d, _, 2, .int rest, rfl, rfl, L0, at2 .., ?_⟩
    refine ⟨_, _, rfl, rfl, _, rfl, ite2 (fun e => ?_) (fun e => ?_)⟩
    · -- draw[2] > 0
      have hr0 : 0 < rest := of_decide_eq_true e
      refine ⟨_, rfl, d, _, 2, .int rest, rfl, rfl, L0, at2 .., .inl ⟨_, rfl, ?_⟩⟩
      refine ⟨_, rfl, _, _, rfl, rfl, by omega, ?_⟩
      refine ⟨_, rfl, d, _, 2, .int rest, rfl, rfl, L0, at2 .., ?_⟩
      refine ⟨_, rfl, _, _, rfl, rfl, hdv _, ?_⟩
      refine ⟨_, rfl, d, _, 2, 2, rfl, rfl, h1, rfl, ?_⟩
      refine ⟨_, rfl, ?_⟩
      have e1 := fr H (.lst ([.ref c, .int pos, .int rest, .int seed].set 2 (.int (rest / many)))) (fun _ _ => rfl)
      exact q _ _ (fF _ e1) e1 (next_aux ncd h2 rfl h0 (Int.ediv_nonneg h3 (by omega)) h4 h5) (Int.emod_nonneg _ (by omega)) (Int.emod_lt_of_pos _ (by omega))
    · refine ⟨_, rfl, d, _, 1, .int pos, rfl, rfl, L0, at1 .., ?_⟩
      refine ⟨_, rfl, d, _, 0, .ref c, rfl, rfl, L0, at0 .., ?_⟩
      refine ⟨c, _, rfl, .inl (.of h2), ?_⟩
      refine ⟨_, _, rfl, rfl, _, rfl, ite2 (fun e2 => ?_) (fun e2 => ?_)⟩
      · have hp : pos < ((ns.map V.int).length : Int) := of_decide_eq_true e2
        rw [List.length_map] at hp
        obtain ⟨i, rfl⟩ := Int.eq_ofNat_of_zero_le h0
        have hi : i < ns.length := by omega
        have hat : atI (ns.map V.int) ((i : Nat) : Int) = some (.int ns[i]) := atI_nat (by rw [List.getElem?_map, List.getElem?_eq_getElem hi]; rfl)
        -- cell = abs(..)
        refine ⟨_, rfl, d, _, 0, .ref c, rfl, rfl, L0, at0 .., ?_⟩
        refine ⟨_, rfl, d, _, 1, _, rfl, rfl, L0, at1 .., ?_⟩
        refine ⟨c, _, _, _, rfl, rfl, .of h2, hat, ?_⟩
        refine ⟨_, rfl, ?_⟩
        have hcell : (0 : Int) ≤ (if ns[i] < 0 then -ns[i] else ns[i]) := by split <;> omega
        generalize (if ns[i] < 0 then -ns[i] else ns[i]) = cell at hcell
        -- draw[1] = draw[1] + 1
        refine ⟨_, rfl, d, _, 1, _, rfl, rfl, L0, at1 .., ?_⟩
        refine ⟨_, _, rfl, rfl, ?_⟩
        refine ⟨_, rfl, d, _, 1, 1, rfl, rfl, h1, rfl, ?_⟩
        have hd1 : (upd H d (.lst ([.ref c, .int ((i : Nat) : Int), .int rest, .int seed].set 1 (.int ((i : Nat) + 1))))) d = some (.lst [.ref c, .int ((i : Nat) + 1), .int rest, .int seed]) := upd_same
        have e1 := fr H (.lst ([.ref c, .int ((i : Nat) : Int), .int rest, .int seed].set 1 (.int ((i : Nat) + 1)))) (fun _ _ => rfl)
        generalize upd H d (.lst ([.ref c, .int ((i : Nat) : Int), .int rest, .int seed].set 1 (.int ((i : Nat) + 1)))) = H1 at hd1 e1
        have h2' : H1 c = some (.lst (ns.map V.int)) := by rw [e1 c ncd]; exact h2
        -- cell >= 10 ** 18
        refine ⟨_, rfl, _, _, rfl, rfl, ⟨by decide, by decide, by decide⟩, ?_⟩
        refine ⟨_, _, rfl, rfl, _, rfl, ite2 (fun e3 => ?_) (fun e3 => ?_)⟩
        · refine ⟨_, rfl, _, rfl, _, _, rfl, rfl, hdv _, ?_⟩
          refine ⟨_, rfl, d, _, 2, 2, rfl, rfl, hd1, rfl, ?_⟩
          refine ⟨_, rfl, .inl ⟨_, rfl, ?_⟩⟩
          refine ⟨_, rfl, _, _, rfl, rfl, by omega, ?_⟩
          have e5 := fr H1 (.lst ([.ref c, .int ((i : Nat) + 1), .int rest, .int seed].set 2 (.int (cell / many)))) e1
          exact q _ _ (fF _ e5) e5 (next_aux ncd h2' rfl (by omega) (Int.ediv_nonneg hcell (by omega)) h4 h5) (Int.emod_nonneg _ (by omega)) (Int.emod_lt_of_pos _ (by omega))
        · -- draw[3] = ..
          refine ⟨_, rfl, d, _, 3, .int seed, rfl, rfl, .of hd1, at3 .., ?_⟩
          refine ⟨_, _, rfl, rfl, .inl ⟨by omega, by omega⟩, ?_⟩
          refine ⟨_, rfl, _, _, rfl, rfl, ?_⟩
          refine ⟨_, _, rfl, rfl, .inl ⟨_, rfl, ?_⟩⟩
          refine ⟨_, _, rfl, rfl, by show (0 : Int) < 2147483647; decide, ?_⟩
          refine ⟨_, rfl, d, _, 3, 3, rfl, rfl, hd1, rfl, ?_⟩
          have hs0 : 0 ≤ (seed * 48271 + cell + 11) % 2147483647 := Int.emod_nonneg _ (by decide)
          have hs1 : (seed * 48271 + cell + 11) % 2147483647 < 2147483647 := Int.emod_lt_of_pos _ (by decide)
          have e5 := fr H1 (.lst ([.ref c, .int ((i : Nat) + 1), .int rest, .int seed].set 3 (.int ((seed * 48271 + cell + 11) % 2147483647)))) e1
          have hd5 : (upd H1 d (.lst ([.ref c, .int ((i : Nat) + 1), .int rest, .int seed].set 3 (.int ((seed * 48271 + cell + 11) % 2147483647))))) d = some (.lst [.ref c, .int ((i : Nat) + 1), .int rest, .int ((seed * 48271 + cell + 11) % 2147483647)]) := upd_same
          dsimp only
          generalize (seed * 48271 + cell + 11) % 2147483647 = seed' at hs0 hs1 e5 hd5 ⊢
          refine ⟨_, rfl, d, _, 3, .int seed', rfl, rfl, .of hd5, at3 .., ?_⟩
          refine ⟨_, _, rfl, rfl, .inl ⟨by omega, by omega⟩, ?_⟩
          refine ⟨_, _, rfl, rfl, by show (0 : Int) < 2147483629; decide, .inl ⟨_, rfl, ?_⟩⟩
          refine ⟨_, _, rfl, rfl, ⟨by decide, by decide⟩, ?_⟩
          refine ⟨_, rfl, _, _, rfl, rfl, by omega, ?_⟩
          exact last seed' hs0 hs1 _ e5 ⟨_, _, hd5, by omega, h3⟩
      · -- draw[3] = ..
        refine ⟨_, rfl, d, _, 3, .int seed, rfl, rfl, L0, at3 .., ?_⟩
        refine ⟨_, _, rfl, rfl, .inl ⟨by omega, by omega⟩, ?_⟩
        refine ⟨_, _, rfl, rfl, .inl ⟨_, rfl, ?_⟩⟩
        refine ⟨_, _, rfl, rfl, by show (0 : Int) < 2147483647; decide, ?_⟩
        refine ⟨_, rfl, d, _, 3, 3, rfl, rfl, h1, rfl, ?_⟩
        have hs0 : 0 ≤ (seed * 48271 + 12345) % 2147483647 := Int.emod_nonneg _ (by decide)
        have hs1 : (seed * 48271 + 12345) % 2147483647 < 2147483647 := Int.emod_lt_of_pos _ (by decide)
        have e5 := fr H (.lst ([.ref c, .int pos, .int rest, .int seed].set 3 (.int ((seed * 48271 + 12345) % 2147483647)))) (fun _ _ => rfl)
        have hd5 : (upd H d (.lst ([.ref c, .int pos, .int rest, .int seed].set 3 (.int ((seed * 48271 + 12345) % 2147483647))))) d = some (.lst [.ref c, .int pos, .int rest, .int ((seed * 48271 + 12345) % 2147483647)]) := upd_same
        dsimp only
        generalize (seed * 48271 + 12345) % 2147483647 = seed' at hs0 hs1 e5 hd5 ⊢
        refine ⟨_, rfl, d, _, 3, .int seed', rfl, rfl, .of hd5, at3 .., ?_⟩
        refine ⟨_, _, rfl, rfl, .inl ⟨by omega, by omega⟩, ?_⟩
        refine ⟨_, _, rfl, rfl, by show (0 : Int) < 2147483629; decide, .inl ⟨_, rfl, ?_⟩⟩
        refine ⟨_, _, rfl, rfl, ⟨by decide, by decide⟩, ?_⟩
        refine ⟨_, rfl, _, _, rfl, rfl, by omega, ?_⟩
        exact last seed' hs0 hs1 _ e5 ⟨_, _, hd5, h0, h3⟩
end

/-! ### data in the heap -/
theorem SqT.ext {K : PySem.W.Frag} {H H' : Hp} {a : Addr} {xs : List V} (e : Same H H') (h : SqT K H a xs) : SqT K H' a xs := by
  rcases h with (h | ⟨o, h⟩) | h
  · exact .inl (.inl (e _ _ h))
  · exact .inl (.inr ⟨o, e _ _ h⟩)
  · exact .inr h
mutual
theorem Dp.ext {K : PySem.W.Frag} {H H' : Hp} (e : Same H H') : ∀ (d : PyData) (v : V), Dp K H v d → Dp K H' v d
  | .none, _, h => by cases h; exact .non
  | .bool b, _, h => by cases h; exact .bl b
  | .int i, _, h => by cases h; exact .int i
  | .str x, _, h => by cases h; exact .str x
  | .list ds, _, h => by
    cases h with
    | lst hs ha => exact .lst (e.seq hs) (DpAll.ext e ds _ ha)
  | .tuple ds, _, h => by
    cases h with
    | tup hs ha => exact .tup (SqT.ext e hs) (DpAll.ext e ds _ ha)
  | .dict _, _, h => by cases h
theorem DpAll.ext {K : PySem.W.Frag} {H H' : Hp} (e : Same H H') : ∀ (ds : List PyData) (vs : List V), DpAll K H vs ds → DpAll K H' vs ds
  | [], _, h => by cases h; exact .nil
  | d :: ds, _, h => by
    cases h with
    | cons h1 h2 => exact .cons (Dp.ext e d _ h1) (DpAll.ext e ds _ h2)
end
theorem DpAll.len {K : PySem.W.Frag} {H : Hp} : ∀ {ds : List PyData} {vs : List V}, DpAll K H vs ds → vs.length = ds.length
  | [], _, h => by cases h; rfl
  | d :: ds, _, h => by
    cases h with
    | cons h1 h2 => exact congrArg (· + 1) (DpAll.len h2)
theorem DpAll.get {K : PySem.W.Frag} {H : Hp} : ∀ {ds : List PyData} {vs : List V} {i : Nat} {d : PyData}, DpAll K H vs ds → ds[i]? = some d → ∃ v, vs[i]? = some v ∧ Dp K H v d
  | [], _, _, _, _, e => by simp at e
  | x :: ds, _, 0, d, h, e => by
    cases h with
    | cons h1 h2 =>
      have e1 : x = d := Option.some.inj e
      subst e1
      exact ⟨_, rfl, h1⟩
  | x :: ds, _, i + 1, d, h, e => by
    cases h with
    | cons h1 h2 =>
      obtain ⟨v, hv, hd⟩ := DpAll.get (i := i) h2 (by simpa using e)
      exact ⟨v, by simpa using hv, hd⟩
theorem tyL {K : PySem.W.Frag} {H : Hp} {a : Addr} {xs : List V} (h : SqL K H a xs) : TyX K H (.ref a) (.type "list") := by
  rcases h with (h | ⟨o, h⟩) | ⟨o, its, n, h, c, _⟩
  · exact .base (.lst h)
  · exact .base (.frz h)
  · exact .kList h c
theorem tyT {K : PySem.W.Frag} {H : Hp} {a : Addr} {xs : List V} (h : SqT K H a xs) : TyX K H (.ref a) (.type "tuple") := by
  rcases h with (h | ⟨o, h⟩) | ⟨o, its, n, h, c, _⟩
  · exact .base (.tup h)
  · exact .fTuple h
  · exact .kTuple h c
mutual
/-- no list within -/
def tupOnly : PyData → Bool
  | .list _ => false
  | .dict _ => false
  | .tuple ds => tupOnlys ds
  | _ => true
def tupOnlys : List PyData → Bool
  | [] => true
  | d :: ds => tupOnly d && tupOnlys ds
end
mutual
theorem Dp.away {K : PySem.W.Frag} {H : Hp} {D : Addr} {zs : List V} {o : HO} (hD : H D = some (.lst zs)) : ∀ (d : PyData) (v : V), tupOnly d = true → Dp K H v d → Dp K (upd H D o) v d
  | .none, _, _, h => by cases h; exact .non
  | .bool b, _, _, h => by cases h; exact .bl b
  | .int i, _, _, h => by cases h; exact .int i
  | .str x, _, _, h => by cases h; exact .str x
  | .list ds, _, e, _ => by unfold tupOnly at e; cases e
  | .tuple ds, _, e, h => by
    unfold tupOnly at e
    cases h with
    | @tup a _ _ hs ha =>
      refine .tup ?_ (DpAll.away hD ds _ e ha)
      rcases hs with (hs | ⟨o', hs⟩) | hs
      · exact .inl (.inl (by rw [upd_ne (ne_of hs hD (fun z => nomatch z))]; exact hs))
      · exact .inl (.inr ⟨o', by rw [upd_ne (ne_of hs hD (fun z => nomatch z))]; exact hs⟩)
      · exact .inr hs
  | .dict _, _, _, h => by cases h
theorem DpAll.away {K : PySem.W.Frag} {H : Hp} {D : Addr} {zs : List V} {o : HO} (hD : H D = some (.lst zs)) : ∀ (ds : List PyData) (vs : List V), tupOnlys ds = true → DpAll K H vs ds → DpAll K (upd H D o) vs ds
  | [], _, _, h => by cases h; exact .nil
  | d :: ds, _, e, h => by
    unfold tupOnlys at e
    rw [Bool.and_eq_true] at e
    cases h with
    | cons h1 h2 => exact .cons (Dp.away hD d _ e.1 h1) (DpAll.away hD ds _ e.2 h2)
end
theorem DpAll.snoc {K : PySem.W.Frag} {H : Hp} : ∀ {ds : List PyData} {xs : List V} {v : V} {d : PyData}, DpAll K H xs ds → Dp K H v d → DpAll K H (xs ++ [v]) (ds ++ [d])
  | [], _, _, _, h, h2 => by cases h; exact .cons h2 .nil
  | _ :: ds, _, _, _, h, h2 => by
    cases h with
    | cons a b => exact .cons a (DpAll.snoc b h2)
theorem at_0 {α : Type} {xs : List α} {i : Nat} {v : α} (h : xs[i]? = some v) : atI xs (0 + (i : Int)) = some v := by
  rw [Int.zero_add]
  exact atI_nat h
mutual
/-- what is made of tuples stands when another list is changed -/
theorem Dp.fd {K : PySem.W.Frag} {H H' : Hp} {D : Addr} (hD : ∃ zs, H D = some (.lst zs)) (e : Fd D H H') : ∀ (d : PyData) (v : V), tupOnly d = true → Dp K H v d → Dp K H' v d
  | .none, _, _, h => by cases h; exact .non
  | .bool b, _, _, h => by cases h; exact .bl b
  | .int i, _, _, h => by cases h; exact .int i
  | .str x, _, _, h => by cases h; exact .str x
  | .list ds, _, e, _ => by unfold tupOnly at e; cases e
  | .tuple ds, _, e', h => by
    unfold tupOnly at e'
    obtain ⟨zs, hz⟩ := hD
    cases h with
    | @tup a _ _ hs ha =>
      refine .tup ?_ (DpAll.fd ⟨zs, hz⟩ e ds _ e' ha)
      rcases hs with (hs | ⟨o', hs⟩) | hs
      · exact .inl (.inl (e _ _ (ne_of hs hz (fun z => nomatch z)) hs))
      · exact .inl (.inr ⟨o', e _ _ (ne_of hs hz (fun z => nomatch z)) hs⟩)
      · exact .inr hs
  | .dict _, _, _, h => by cases h
theorem DpAll.fd {K : PySem.W.Frag} {H H' : Hp} {D : Addr} (hD : ∃ zs, H D = some (.lst zs)) (e : Fd D H H') : ∀ (ds : List PyData) (vs : List V), tupOnlys ds = true → DpAll K H vs ds → DpAll K H' vs ds
  | [], _, _, h => by cases h; exact .nil
  | d :: ds, _, e', h => by
    unfold tupOnlys at e'
    rw [Bool.and_eq_true] at e'
    cases h with
    | cons h1 h2 => exact .cons (Dp.fd hD e d _ e'.1 h1) (DpAll.fd hD e ds _ e'.2 h2)
end

/-! ### two data that are the same -/
/-- data of some depth, their lists not too long -/
inductive Sh : Nat → PyData → Prop
  | non {n : Nat} : Sh n .none
  | bl {n : Nat} (b : Bool) : Sh n (.bool b)
  | int {n : Nat} (i : Int) : Sh n (.int i)
  | str {n : Nat} (x : Str) : Sh n (.str x)
  | lst {n : Nat} {ds : List PyData} (l : ds.length ≤ 100000) (h : ∀ d ∈ ds, Sh n d) : Sh (n + 1) (.list ds)
  | tup {n : Nat} {ds : List PyData} (l : ds.length ≤ 100000) (h : ∀ d ∈ ds, Sh n d) : Sh (n + 1) (.tuple ds)
def tnm : PyData → String
  | .none => "NoneType"
  | .bool _ => "bool"
  | .int _ => "int"
  | .str _ => "str"
  | .list _ => "list"
  | .tuple _ => "tuple"
  | .dict _ => "dict"
theorem tyD {K : PySem.W.Frag} {H : Hp} {v : V} {d : PyData} (h : Dp K H v d) : TyX K H v (.type (tnm d)) := by
  cases h with
  | non => exact .base .non
  | bl b => exact .base (.bl b)
  | int i => exact .base (.int i)
  | str x => exact .base (.str x)
  | lst hs _ => exact tyL hs
  | tup hs _ => exact tyT hs
theorem k_any2 {K : PySem.W.Frag} {tn c1 c2 : String} {r1 r2 : Bool} (h1 : kitB tn c1 = some r1) (h2 : kitB tn c2 = some r2) : PySem.W.kitAny K (.type tn) [.type c1, .type c2] = some (r1 || r2) :=
  kitAny_cons (kit_ty h1) (fun e => by
    rw [e, Bool.false_or]
    exact kitAny_cons (b := r2) (kit_ty h2) (fun e2 => by rw [e2]; exact kitAny_nil) (fun e2 => e2)) (fun e => by rw [e, Bool.true_or])
theorem rep_bl (n : Nat) : (List.replicate n true).all id = true := by
  rw [List.all_replicate]
  simp
def sp_same (K : PySem.W.Frag) (n : Nat) : Sp := fun vs H Q _ => ∃ (x y : V) (D : PyData) (m : Nat), n = m + 1 ∧ vs = [x, y] ∧ Sh m D ∧ Dp K H x D ∧ Dp K H y D ∧ ∀ H', Same H H' → Q (.bl true) H'
section
variable {P : Program} {w : World} {K : PySem.W.Frag} {mg : Str → Option Value} {base : Heap}
theorem ok_same {f : Addr} {fd : FuncData} {n l : Nat} (F : Fun K "_law_same" "_law_same" s__law_same f fd) (M : Mg mg) (c__law_same : Cl P w K mg base l "_law_same" (sp_same K n)) : FnOk P w K mg base CX0 (l + 1) f fd ["actual", "due"] (sp_same K (n + 1)) := by
  refine F.ok sc__law_same (fun vs H Q E h => ?_) (fun cdv A outer s H vs Q E hr h => ?_)
  · obtain ⟨x, y, D, m, _, rfl, _⟩ := h
    rfl
  · obtain ⟨x, y, D, m, em, rfl, sh, hx, hy, q⟩ := h
    refine ⟨_, (pss_cons (ps_if (pt_val (pe_callB (isiTK K) (by rfl) M.isinstance (by decide +kernel) (pa_cons (pv 1) (pa_cons (pe_tup (pa_cons (pe_bltn (v := .ty "list") (by rfl) M.list (by decide +kernel) rfl) (pa_cons (pe_bltn (v := .ty "tuple") (by rfl) M.tuple (by decide +kernel) rfl) pa_nil))) pa_nil)))) (pss_cons (ps_if (PW.pt (pw_or (pt_cmpR op_ne (pe_callB (isiK K) (by rfl) M.isinstance (by decide +kernel) (pa_cons (pv 1) (pa_cons (pe_bltn (v := .ty "list") (by rfl) M.list (by decide +kernel) rfl) pa_nil))) (pe_callB (isiK K) (by rfl) M.isinstance (by decide +kernel) (pa_cons (pv 0) (pa_cons (pe_bltn (v := .ty "list") (by rfl) M.list (by decide +kernel) rfl) pa_nil))) (nomark _)) (pw_or1 (pt_cmpR op_ne (pe_callB (isiK K) (by rfl) M.isinstance (by decide +kernel) (pa_cons (pv 1) (pa_cons (pe_bltn (v := .ty "tuple") (by rfl) M.tuple (by decide +kernel) rfl) pa_nil))) (pe_callB (isiK K) (by rfl) M.isinstance (by decide +kernel) (pa_cons (pv 0) (pa_cons (pe_bltn (v := .ty "tuple") (by rfl) M.tuple (by decide +kernel) rfl) pa_nil))) (nomark _))))) (pss_one (ps_ret pe_bl)) pss_nil)
      (pss_cons (ps_if (pt_cmpR op_ne (pe_callB (len_seqK K) (by rfl) M.len PySem.boot_len (pa_cons (pv 0) pa_nil)) (pe_callB (len_seqK K) (by rfl) M.len PySem.boot_len (pa_cons (pv 1) pa_nil)) (nomark _)) (pss_one (ps_ret pe_bl)) pss_nil)
      (pss_one (ps_ret (pe_callB (allK K rfl) (by rfl) M.all (by decide +kernel) (pa_cons (pe_lc (own := [("k", 2)]) (g := gName 2) (tt := tYes) rfl sc__law_same.nd (pi_range1 (by rfl) M.range (pa_cons (pe_callB (len_seqK K) (by rfl) M.len PySem.boot_len (pa_cons (pv 1) pa_nil)) pa_nil)) (blkOk_by (N := N__law_same) (sc := defScope s__law_same) (by decide +kernel)) (fun _ _ _ _ _ => (pg_name (i := 2) sc__law_same.nd rfl (.inl rfl))) (fun _ _ _ _ _ => pts_nil) (fun _ _ _ _ _ => (pe_u c__law_same hr (by first | decide | omega) (by rfl) (pa_cons (pe_ix (ix_seqK K) (pv 0) (pv 2) (fun _ _ => rfl)) (pa_cons (pe_ix (ix_seqK K) (pv 1) (pv 2) (fun _ _ => rfl)) pa_nil))))) pa_nil)))))) pss_nil)
      (pss_cons (ps_if (pt_cmpR op_isN (pv 1) pe_non (nomark _)) (pss_one (ps_ret (pe_cmpR op_isN (pv 0) pe_non (nomark _)))) pss_nil)
      (pss_cons (ps_if (pt_cmpR op_ne (pe_callB (isiK K) (by rfl) M.isinstance (by decide +kernel) (pa_cons (pv 1) (pa_cons (pe_bltn (v := .ty "bool") (by rfl) M.bool (by decide +kernel) rfl) pa_nil))) (pe_callB (isiK K) (by rfl) M.isinstance (by decide +kernel) (pa_cons (pv 0) (pa_cons (pe_bltn (v := .ty "bool") (by rfl) M.bool (by decide +kernel) rfl) pa_nil))) (nomark _)) (pss_one (ps_ret pe_bl)) pss_nil)
      (pss_cons (ps_if (pt_val (pe_callB (isiK K) (by rfl) M.isinstance (by decide +kernel) (pa_cons (pv 1) (pa_cons (pe_bltn (v := .ty "str") (by rfl) M.str (by decide +kernel) rfl) pa_nil)))) (pss_one (ps_ret (pe_and (pe_callB (isiK K) (by rfl) M.isinstance (by decide +kernel) (pa_cons (pv 0) (pa_cons (pe_bltn (v := .ty "str") (by rfl) M.str (by decide +kernel) rfl) pa_nil))) (pe_one (pe_cmpR op_eq (pv 0) (pv 1) (nomark _)))))) pss_nil)
      (pss_one (ps_ret (pe_and (pe_callB (isiK K) (by rfl) M.isinstance (by decide +kernel) (pa_cons (pv 0) (pa_cons (pe_bltn (v := .ty "int") (by rfl) M.int (by decide +kernel) rfl) pa_nil))) (pe_one (pe_cmpR op_eq (pv 0) (pv 1) (nomark _)))))))))), ?_⟩
    refine ⟨_, rfl, by show 2 ≤ sizeLine; decide, fun p np => ?_⟩
    have s1 : Same H (upd H p (.tup [.ty "list", .ty "tuple"])) := same_upd np
    have h1 : (upd H p (.tup [.ty "list", .ty "tuple"])) p = some (.tup [.ty "list", .ty "tuple"]) := upd_same
    generalize upd H p (.tup [.ty "list", .ty "tuple"]) = H1 at s1 h1
    have hx1 := Dp.ext s1 D x hx
    have hy1 := Dp.ext s1 D y hy
    have key : (∃ (a b : Addr) (xs ys : List V) (ds : List PyData) (k : Nat) (tn : String) (r1 r2 : Bool), x = .ref a ∧ y = .ref b ∧ (SqL K H1 a xs ∧ SqL K H1 b ys ∨ SqT K H1 a xs ∧ SqT K H1 b ys) ∧ DpAll K H1 xs ds ∧ DpAll K H1 ys ds ∧ ds.length ≤ 100000 ∧ m = k + 1 ∧ (∀ d ∈ ds, Sh k d) ∧
        TyX K H1 x (.type tn) ∧ TyX K H1 y (.type tn) ∧ kitB tn "list" = some r1 ∧ kitB tn "tuple" = some r2 ∧ (r1 || r2) = true) ∨
        (∃ (tn : String), TyX K H1 x (.type tn) ∧ TyX K H1 y (.type tn) ∧ kitB tn "list" = some false ∧ kitB tn "tuple" = some false ∧ (x = .non ∧ y = .non ∨ (∃ b, x = .bl b ∧ y = .bl b ∧ tn = "bool") ∨ (∃ i, x = .int i ∧ y = .int i ∧ tn = "int") ∨ (∃ z, x = .str z ∧ y = .str z ∧ tn = "str"))) := by
      cases sh with
      | non => cases hx1; cases hy1; exact .inr ⟨"NoneType", .base .non, .base .non, by decide +kernel, by decide +kernel, .inl ⟨rfl, rfl⟩⟩
      | bl b => cases hx1; cases hy1; exact .inr ⟨"bool", .base (.bl b), .base (.bl b), by decide +kernel, by decide +kernel, .inr (.inl ⟨b, rfl, rfl, rfl⟩)⟩
      | int i => cases hx1; cases hy1; exact .inr ⟨"int", .base (.int i), .base (.int i), by decide +kernel, by decide +kernel, .inr (.inr (.inl ⟨i, rfl, rfl, rfl⟩))⟩
      | str z => cases hx1; cases hy1; exact .inr ⟨"str", .base (.str z), .base (.str z), by decide +kernel, by decide +kernel, .inr (.inr (.inr ⟨z, rfl, rfl, rfl⟩))⟩
      | lst l h =>
        cases hx1 with
        | lst hs ha =>
          cases hy1 with
          | lst hs' ha' => exact .inl ⟨_, _, _, _, _, _, "list", true, false, rfl, rfl, .inl ⟨hs, hs'⟩, ha, ha', l, rfl, h, tyL hs, tyL hs', by decide +kernel, by decide +kernel, rfl⟩
      | tup l h =>
        cases hx1 with
        | tup hs ha =>
          cases hy1 with
          | tup hs' ha' => exact .inl ⟨_, _, _, _, _, _, "tuple", false, true, rfl, rfl, .inr ⟨hs, hs'⟩, ha, ha', l, rfl, h, tyT hs, tyT hs', by decide +kernel, by decide +kernel, rfl⟩
    rcases key with ⟨a, b, xs, ys, ds, k, tn, r1, r2, rfl, rfl, hq, ha, hb, hl, ek, hk, tx, ty, k1, k2, kr⟩ | ⟨tn, tx, ty, k1, k2, hs⟩
    · -- a list or a tuple
      have ex := DpAll.len ha
      have ey := DpAll.len hb
      have hqa : SqL K H1 a xs ∨ SqT K H1 a xs := hq.elim (fun z => .inl z.1) (fun z => .inr z.1)
      have hqb : SqL K H1 b ys ∨ SqT K H1 b ys := hq.elim (fun z => .inl z.2) (fun z => .inr z.2)
      refine ⟨_, _, _, _, _, _, rfl, h1, .cons (.ty _) (.cons (.ty _) .nil), ty, k_any2 k1 k2, ?_⟩
      refine ⟨_, rfl, ?_⟩
      rw [kr]
      refine iteT ?_
      -- the kinds
      refine ⟨_, rfl, ⟨_, _, _, _, _, rfl, .ty _, ty, kit_ty k1, _, rfl, ⟨_, _, _, _, _, rfl, .ty _, tx, kit_ty k1, rfl, _, rfl, ?_⟩⟩⟩
      rw [decide_eq_true (rfl : V.bl r1 = V.bl r1)]
      refine iteF ?_
      refine ⟨_, rfl, ⟨_, _, _, _, _, rfl, .ty _, ty, kit_ty k2, _, rfl, ⟨_, _, _, _, _, rfl, .ty _, tx, kit_ty k2, rfl, _, rfl, ?_⟩⟩⟩
      rw [decide_eq_true (rfl : V.bl r2 = V.bl r2)]
      refine iteF ?_
      -- the lengths
      refine ⟨_, rfl, a, xs, rfl, hqa, ⟨_, rfl, b, ys, rfl, hqb, rfl, _, rfl, ?_⟩⟩
      rw [ex, ey, decide_eq_true (rfl : V.int (ds.length : Int) = V.int (ds.length : Int))]
      refine iteF ?_
      -- by places
      refine ⟨_, rfl, b, ys, rfl, hqb, _, rfl, by omega, by omega, fun D nD => ?_⟩
      rw [ey]
      refine lc_range (lo := 0) (n := ((ds.length : Nat) : Int).toNat) (fun i Hi => Same H1 Hi ∧ Hi D = some (.lst ((List.replicate i true).map V.bl))) ⟨same_upd nD, upd_same⟩ (fun i Hi hi hp => ?_) (fun Hn hp => ?_)
      · obtain ⟨si, eD⟩ := hp
        have hi2 : i < ds.length := by omega
        obtain ⟨va, hva, da⟩ := DpAll.get (DpAll.ext si ds xs ha) (List.getElem?_eq_getElem hi2)
        obtain ⟨vb, hvb, db⟩ := DpAll.get (DpAll.ext si ds ys hb) (List.getElem?_eq_getElem hi2)
        have ia : rIx K (.ref a) (.int (0 + (i : Int))) Hi = rIx K (.ref a) (.int (0 + (i : Int))) Hi := rfl
        refine ⟨rfl, ?_⟩
        have go : ∀ (c : Addr) (zs : List V) (v : V) (Q : VK), (SqL K H1 c zs ∨ SqT K H1 c zs) → zs[i]? = some v → Q v Hi → rIx K (.ref c) (.int (0 + (i : Int))) Hi Q := fun c zs v Q hz hv hQ => by
          rcases hz with hz | hz
          · exact .inl ⟨c, zs, _, v, rfl, rfl, si.seq hz, at_0 hv, hQ⟩
          · exact .inr (.inl ⟨c, zs, _, v, rfl, rfl, SqT.ext si hz, at_0 hv, hQ⟩)
        refine ⟨_, rfl, _, rfl, go a xs va _ hqa hva ⟨_, rfl, _, rfl, go b ys vb _ hqb hvb ?_⟩⟩
        refine ⟨va, vb, ds[i], k, by omega, rfl, hk _ (List.getElem_mem hi2), da, db, fun H' s' => ?_⟩
        refine ⟨_, s' _ _ eD, ?_, fun b o e => ?_, ?_⟩
        · rw [List.length_map, List.length_replicate]
          exact Nat.lt_of_lt_of_le (m := 100000) (by omega) (by decide)
        · have nb : b ≠ D := ne_of_none e nD
          rw [upd_ne nb]
          exact s' _ _ (si _ _ e)
        · rw [upd_same, List.replicate_succ', List.map_append]
          rfl
      · obtain ⟨si, eD⟩ := hp
        refine ⟨D, _, rfl, .of eD, ?_⟩
        rw [rep_bl]
        exact q _ (s1.trans si)
    · -- neither
      refine ⟨_, _, _, _, _, _, rfl, h1, .cons (.ty _) (.cons (.ty _) .nil), ty, k_any2 k1 k2, ?_⟩
      refine ⟨_, rfl, iteF ?_⟩
      rcases hs with ⟨rfl, rfl⟩ | ⟨b, rfl, rfl, rfl⟩ | ⟨i, rfl, rfl, rfl⟩ | ⟨z, rfl, rfl, rfl⟩
      · -- None
        refine ⟨_, rfl, rfl, _, rfl, iteT ?_⟩
        refine ⟨_, rfl, rfl, ?_⟩
        exact q _ s1
      · refine ⟨_, rfl, rfl, _, rfl, iteF ?_⟩
        refine ⟨_, rfl, ⟨_, _, _, _, _, rfl, .ty _, ty, kit_ty (show kitB _ _ = some true by decide +kernel), _, rfl, ⟨_, _, _, _, _, rfl, .ty _, tx, kit_ty (show kitB _ _ = some true by decide +kernel), rfl, _, rfl, iteF ?_⟩⟩⟩
        refine ⟨_, rfl, ⟨_, _, _, _, _, rfl, .ty _, ty, kit_ty (show kitB _ _ = some false by decide +kernel), _, rfl, iteF ?_⟩⟩
        refine ⟨_, rfl, ⟨_, _, _, _, _, rfl, .ty _, tx, kit_ty (show kitB _ _ = some true by decide +kernel), _, rfl, iteT ?_⟩⟩
        refine ⟨_, rfl, _, rfl, by cases b <;> rfl, ?_⟩
        rw [decide_eq_true (rfl : V.bl b = V.bl b)]
        exact q _ s1
      · refine ⟨_, rfl, rfl, _, rfl, iteF ?_⟩
        refine ⟨_, rfl, ⟨_, _, _, _, _, rfl, .ty _, ty, kit_ty (show kitB _ _ = some false by decide +kernel), _, rfl, ⟨_, _, _, _, _, rfl, .ty _, tx, kit_ty (show kitB _ _ = some false by decide +kernel), rfl, _, rfl, iteF ?_⟩⟩⟩
        refine ⟨_, rfl, ⟨_, _, _, _, _, rfl, .ty _, ty, kit_ty (show kitB _ _ = some false by decide +kernel), _, rfl, iteF ?_⟩⟩
        refine ⟨_, rfl, ⟨_, _, _, _, _, rfl, .ty _, tx, kit_ty (show kitB _ _ = some true by decide +kernel), _, rfl, iteT ?_⟩⟩
        refine ⟨_, rfl, _, rfl, rfl, ?_⟩
        rw [decide_eq_true (rfl : V.int i = V.int i)]
        exact q _ s1
      · refine ⟨_, rfl, rfl, _, rfl, iteF ?_⟩
        refine ⟨_, rfl, ⟨_, _, _, _, _, rfl, .ty _, ty, kit_ty (show kitB _ _ = some false by decide +kernel), _, rfl, ⟨_, _, _, _, _, rfl, .ty _, tx, kit_ty (show kitB _ _ = some false by decide +kernel), rfl, _, rfl, iteF ?_⟩⟩⟩
        refine ⟨_, rfl, ⟨_, _, _, _, _, rfl, .ty _, ty, kit_ty (show kitB _ _ = some true by decide +kernel), _, rfl, iteT ?_⟩⟩
        refine ⟨_, rfl, ⟨_, _, _, _, _, rfl, .ty _, tx, kit_ty (show kitB _ _ = some true by decide +kernel), _, rfl, iteT ?_⟩⟩
        refine ⟨_, rfl, _, rfl, rfl, ?_⟩
        rw [decide_eq_true (rfl : V.str z = V.str z)]
        exact q _ s1
/-- no data at all: where the recursion ends -/
theorem ok_same0 {f : Addr} {fd : FuncData} (F : Fun K "_law_same" "_law_same" s__law_same f fd) : FnOk P w K mg base CX0 1 f fd ["actual", "due"] (sp_same K 0) := by
  refine F.ok sc__law_same (fun vs H Q E h => ?_) (fun cdv A outer s H vs Q E hr h => ?_)
  · obtain ⟨x, y, D, m, e, _⟩ := h
    exact absurd e (by omega)
  · obtain ⟨x, y, D, m, e, _⟩ := h
    exact absurd e (by omega)
/-- of any depth -/
theorem cl_same {f : Addr} {fd : FuncData} (F : Fun K "_law_same" "_law_same" s__law_same f fd) (M : Mg mg) (g : mg "_law_same" = some (.ref f)) (b : Binds K fd ["actual", "due"] []) : ∀ n : Nat, Cl P w K mg base (n + 1) "_law_same" (sp_same K n)
  | 0 => FnOk.cl (ok_same0 F) F g b
  | n + 1 => FnOk.cl (ok_same F M (cl_same F M g b n)) F g b
end

/-! ### x.replace('a', 'b') of two written texts: behind something that gave a token out -/
section
variable {X : Cx}
def EPG (X : Cx) (pins : List (Addr × Obj)) (σ : L2.St) (Q : VK) (u : Value) (s' : Shared) : Prop := 1 ≤ s'.toks ∧ EP X pins σ Q u s'
def PEG (X : Cx) (e : Expr) (t : TE) : Prop :=
  ∀ (pins : List (Addr × Obj)) (s : Shared) (σ : L2.St) (H : Hp) (Q : VK), Inv X pins σ H s → t σ H Q → wpAny (model X.prog X.w) X.A (eval e X.env) (EPG X pins σ Q) X.xe s
theorem peg_str {c : Str} {j : Nat} {pos : Pos} : PEG X (.Constant (.str c) j pos) (tC (.str c)) := fun pins s σ H Q I h =>
  Calls.Constant_str ⟨by show 1 ≤ s.toks + 1; omega, .str c, H, I.tok (s.toks + 1), ⟨_, rfl⟩, h⟩
theorem peg_add {a b : Expr} {ta tb : TE} {pos : Pos} (ha : PE X a ta) (hb : PE X b tb) : PEG X (.BinOp a .Add b pos) (tOp (rI0 fun i j => .int (i + j)) ta tb) := by
  intro pins s σ H Q I h
  refine wpAny_BinOp (thn (ha.run pins s σ H _ I h) fun v s1 ⟨x, H1, I1, r1, q1⟩ => thn (hb.run pins s1 σ H1 _ I1 q1) fun u s2 ⟨y, H2, I2, r2, q2⟩ => ?_)
  obtain ⟨i, j, rfl, rfl, q⟩ := q2
  obtain ⟨t1, rfl⟩ := r1
  obtain ⟨t2, rfl⟩ := r2
  exact PyProof.Rows.add_int ⟨by show 1 ≤ s2.toks + 1; omega, .int (i + j), H2, I2.tok (s2.toks + 1), ⟨_, rfl⟩, q⟩
theorem peg_slice {r : V → Option Int → Option Int → Hp → VK → Prop} {e lo hi : Expr} {te tl th : TE} {p2 pos : Pos} (hr : SlR X r) (he : PE X e te) (hl : PEG X lo tl) (hu : PE X hi th) :
    PEG X (.Subscript e (.Slice (some lo) (some hi) none p2) pos) (tSl r te (tPart tl) (tPart th)) := by
  intro pins s σ H Q I h
  refine Subscript_ (thn (he.run pins s σ H _ I h) fun v s1 ⟨x, H1, I1, r1, q1⟩ => ?_)
  refine wpAny_Slice ?_
  rw [evalPart_some]
  refine thn (hl pins s1 σ H1 _ I1 q1) fun vl s2 ⟨g2, yl, H2, I2, r2, q2⟩ => ?_
  obtain ⟨l, rfl, q2⟩ := q2
  obtain ⟨tl', rfl⟩ := r2
  rw [evalPart_some]
  refine wpAny_mono (PySem.wpAny_toks_of g2 (hu.run pins s2 σ H2 _ I2 q2)) (fun vu s3 z => ?_) fun _ _ z => z.2
  obtain ⟨g3, yu, H3, I3, r3, q3⟩ := z
  obtain ⟨u, rfl, q3⟩ := q3
  obtain ⟨tu', rfl⟩ := r3
  rw [evalPart_none]
  refine wpAny_pure ?_
  have I4 : Inv X pins σ H3 { s3 with heap := s3.heap.push { cls := .type "slice", data := .fields #[.int l tl', .int u tu', .none] } } := I3.kept (t' := s3.toks) fun b ob q => Heap.get?_push_of_some _ q
  obtain ⟨T, id, hT, ht, hg⟩ := hr pins { s3 with heap := s3.heap.push { cls := .type "slice", data := .fields #[.int l tl', .int u tu', .none] } } σ H3 x v (.int l tl') (.int u tu') (some l) (some u) s3.heap.objs.size Q I4 r1 (Heap.IsSliceOf.new ..) (.int l tl') (.int u tu') q3
  show wpAny (model X.prog X.w) X.A (subscriptTail e (.Slice (some lo) (some hi) none p2) v (.ref s3.heap.objs.size)) (EPG X pins σ Q) X.xe { s3 with heap := s3.heap.push { cls := .type "slice", data := .fields #[.int l tl', .int u tu', .none] } }
  refine tail_any (ops := [.ref s3.heap.objs.size, v]) ht hT ?_ (by with_unfolding_all rfl)
  exact wpAny_mono (PySem.wpAny_toks_of (n := 1) (show 1 ≤ s3.toks from g3) hg) (fun _ _ z => z) fun _ _ z => z.2
def tRpl (y z : Str) (to : TE) : TE := fun σ H Q => to σ H fun v H1 => ∃ x : Str, v = .str x ∧ x.length + (x.length + 1) * z.length ≤ 16777216 ∧ Q (.str (Txt.replace x y z)) H1
theorem pet_rpl {o : Expr} {to : TE} {y z : Str} {j0 j1 : Nat} {c0 c1 apos cpos : Pos} (ho : PE X o to) (hyz : (y == z) = false)
    (hbase : attributeBase o "replace" X.env (eval o X.env) = eval o X.env := by rfl)
    (hfew : ((backTo cpos (starEach [.Constant (.str y) j0 c0, .Constant (.str z) j1 c1] X.env)).all (fun x => !x.1) && (backToKw cpos (keywordEach [] X.env)).all (fun x => x.1.isSome)
      && decide ([Expr.Constant (.str y) j0 c0, .Constant (.str z) j1 c1].length + ([] : List Keyword).length + (if ([] : List Keyword).isEmpty then 0 else 1) < 30)) = true := by rfl)
    (hline : (apos.endLine == cpos.line) = true := by rfl) :
    PET X (.Call (.Attribute o "replace" apos) [.Constant (.str y) j0 c0, .Constant (.str z) j1 c1] [] cpos) (tRpl y z to) := by
  intro pins s σ H Q g I h
  refine wpAny_Call_method_late hbase hfew hline rfl (wpAny_mono (PySem.wpAny_toks_of g (ho.run pins s σ H _ I h)) (fun v s1 w => ?_) fun _ _ w => w.2)
  obtain ⟨g1, xv, H1, I1, r1, x, rfl, hb, q⟩ := w
  obtain ⟨tx, rfl⟩ := r1
  refine ⟨"str", "str.replace", F.plainAttrs_str, F.slot_str_replace, F.type_str_replace, typeIs_str _ _ _, (fun _ e => nomatch e), ?_⟩
  refine Calls.callWith_builtin rfl (Calls.evalArgs_plain ?_)
  show wpAny _ _ (spliced ((false, eval (.Constant (.str y) j0 c0) X.env) :: backTo cpos (starEach [.Constant (.str z) j1 c1] X.env))) _ _ s1
  refine Calls.spliced_cons (Calls.Constant_str ?_)
  show wpAny _ _ (spliced ((false, eval (.Constant (.str z) j1 c1) X.env) :: backTo cpos (starEach [] X.env))) _ _ _
  refine Calls.spliced_cons (Calls.Constant_str (Calls.spliced_nil ?_))
  have g1' : 1 ≤ s1.toks := g1
  exact PySem.SC.replace (show s1.toks ≠ 0 by omega) (show s1.toks + 1 ≠ 0 by omega) (show s1.toks ≠ s1.toks + 1 by omega) hyz hb fun t' k => ⟨.str (Txt.replace x y z), H1, I1.tok k, ⟨t', rfl⟩, q⟩
theorem pe_rplG {o : Expr} {to : TE} {y z : Str} {j0 j1 : Nat} {c0 c1 apos cpos : Pos} (ho : PEG X o to) (hyz : (y == z) = false)
    (hbase : attributeBase o "replace" X.env (eval o X.env) = eval o X.env := by rfl)
    (hfew : ((backTo cpos (starEach [.Constant (.str y) j0 c0, .Constant (.str z) j1 c1] X.env)).all (fun x => !x.1) && (backToKw cpos (keywordEach [] X.env)).all (fun x => x.1.isSome)
      && decide ([Expr.Constant (.str y) j0 c0, .Constant (.str z) j1 c1].length + ([] : List Keyword).length + (if ([] : List Keyword).isEmpty then 0 else 1) < 30)) = true := by rfl)
    (hline : (apos.endLine == cpos.line) = true := by rfl) :
    PE X (.Call (.Attribute o "replace" apos) [.Constant (.str y) j0 c0, .Constant (.str z) j1 c1] [] cpos) (tRpl y z to) := by
  refine ⟨fun pins s σ H Q I h => ?_⟩
  refine wpAny_Call_method_late hbase hfew hline rfl (wpAny_mono (ho pins s σ H _ I h) (fun v s1 w => ?_) fun _ _ w => w)
  obtain ⟨g1, xv, H1, I1, r1, x, rfl, hb, q⟩ := w
  obtain ⟨tx, rfl⟩ := r1
  refine ⟨"str", "str.replace", F.plainAttrs_str, F.slot_str_replace, F.type_str_replace, typeIs_str _ _ _, (fun _ e => nomatch e), ?_⟩
  refine Calls.callWith_builtin rfl (Calls.evalArgs_plain ?_)
  show wpAny _ _ (spliced ((false, eval (.Constant (.str y) j0 c0) X.env) :: backTo cpos (starEach [.Constant (.str z) j1 c1] X.env))) _ _ s1
  refine Calls.spliced_cons (Calls.Constant_str ?_)
  show wpAny _ _ (spliced ((false, eval (.Constant (.str z) j1 c1) X.env) :: backTo cpos (starEach [] X.env))) _ _ _
  refine Calls.spliced_cons (Calls.Constant_str (Calls.spliced_nil ?_))
  have g1' : 1 ≤ s1.toks := g1
  exact PySem.SC.replace (show s1.toks ≠ 0 by omega) (show s1.toks + 1 ≠ 0 by omega) (show s1.toks ≠ s1.toks + 1 by omega) hyz hb fun t' k => ⟨.str (Txt.replace x y z), H1, I1.tok k, ⟨t', rfl⟩, q⟩
theorem pe_opG {a b : Expr} {op : Operator} {r : R2} {ta tb : TE} {pos : Pos} (ho : OpR X (binaryOp op) r) (ha : PEG X a ta) (hb : PET X b tb) : PE X (.BinOp a op b pos) (tOp r ta tb) := by
  refine ⟨fun pins s σ H Q I h => ?_⟩
  refine wpAny_BinOp (thn (ha pins s σ H _ I h) fun v s1 ⟨g1, x, H1, I1, r1, q1⟩ => thn (hb pins s1 σ H1 _ g1 I1 q1) fun u s2 ⟨y, H2, I2, r2, q2⟩ => ?_)
  exact ho pins s2 σ H2 x y v u Q I2 r1 r2 q2
/-- a test that gives a token out -/
def PTG (X : Cx) (e : Expr) (t : TT) : Prop :=
  ∀ (pins : List (Addr × Obj)) (s : Shared) (σ : L2.St) (H : Hp) (Q : Bool → Hp → Prop), Inv X pins σ H s → t σ H Q → wpAny (model X.prog X.w) X.A (isTrue e X.env (eval e X.env)) (fun b s' => 1 ≤ s'.toks ∧ TP X pins σ Q b s') X.xe s
theorem ptg_cmp {a b : Expr} {op : CmpOp} {r : R2} {ta tb : TE} {pos : Pos} (ho : OpR X (compareOp op) r) (ha : PE X a ta) (hb : PEG X b tb) (hm : behindInMarks op b = false) : PTG X (.Compare a [op] [b] pos) (tTest (tOp r ta tb)) := by
  intro pins s σ H Q I h
  refine wpAny_isTrue_Compare1 (thn (ha.run pins s σ H _ I h) fun v s1 ⟨x, H1, I1, r1, q1⟩ => thn (hb pins s1 σ H1 _ I1 q1) fun u s2 ⟨g2, y, H2, I2, r2, q2⟩ => ?_) hm
  refine wpAny_mono (PySem.wpAny_toks_of g2 (ho pins s2 σ H2 x y v u _ I2 r1 r2 q2)) (fun c s3 z => ?_) fun _ _ z => z.2
  obtain ⟨g3, z, H3, I3, r3, k, e, q3⟩ := z
  subst e
  cases r3
  exact wpAny_truthy_bool ⟨g3, H3, I3, q3⟩
def PSG (X : Cx) (st : Stmt) (t : TS) : Prop :=
  ∀ (pins : List (Addr × Obj)) (s : Shared) (σ : L2.St) (H : Hp) (D : Ends), Inv X pins σ H s → t D σ H → wpAny (model X.prog X.w) X.A (exec st X.env) (fun f s' => 1 ≤ s'.toks ∧ SP X pins D f s') X.xe s
theorem psg_if {c : Expr} {a b : List Stmt} {tc : TT} {t u : TS} {pos : Pos} (hc : PTG X c tc) (ha : PSs X a t) (hb : PSs X b u) : PSG X (.If c a b pos) (tIfS tc t u) := by
  intro pins s σ H D I h
  refine wpAny_If (thn (hc pins s σ H _ I h) fun d s1 ⟨g1, H1, I1, q1⟩ => ?_)
  cases d with
  | true => exact wpAny_mono (PySem.wpAny_toks_of g1 (ha.run pins s1 σ H1 D I1 q1)) (fun _ _ z => z) fun _ _ z => z.2
  | false => exact wpAny_mono (PySem.wpAny_toks_of g1 (hb.run pins s1 σ H1 D I1 q1)) (fun _ _ z => z) fun _ _ z => z.2
theorem pss_consG {st : Stmt} {rest : List Stmt} {t u : TS} (h1 : PSG X st t) (h2 : PSsT X rest u) : PSs X (st :: rest) (tSeq t u) := by
  refine ⟨fun pins s σ H D I h => ?_⟩
  refine wpAny_execs_cons (thn (h1 pins s σ H { D with nx := u D } I h) fun f s1 z => ?_)
  obtain ⟨g1, q⟩ := z
  cases f with
  | next =>
    obtain ⟨σ', H', I', q⟩ := q
    exact h2 pins s1 σ' H' D g1 I' q
  | ret v => exact q
  | brk => exact q
  | cont => exact q
theorem pst_if {c : Expr} {a b : List Stmt} {tc : TT} {t u : TS} {pos : Pos} (hc : PT X c tc) (ha : PSsT X a t) (hb : PSsT X b u) : PST X (.If c a b pos) (tIfS tc t u) := by
  intro pins s σ H D g I h
  refine wpAny_If (wpAny_mono (PySem.wpAny_toks_of g (hc.run pins s σ H _ I h)) (fun d s1 z => ?_) fun _ _ z => z.2)
  obtain ⟨g1, H1, I1, q1⟩ := z
  cases d with
  | true => exact ha pins s1 σ H1 D g1 I1 q1
  | false => exact hb pins s1 σ H1 D g1 I1 q1
theorem pst_set {i : Nat} {x : Str} {e : Expr} {te : TE} {pos' pos : Pos} (hN : X.N.Nodup) (hi : X.N[i]? = some x) (hx : Loc X.env.scope x) (he : PET X e te) (hs : swapsWith e (some (.Name x pos')) pos.line X.env = pure false := by rfl) (hf : X.fn x = true ∨ X.env.scope.names.lookup x = some .local := by first | exact .inl rfl | exact .inr rfl | assumption) :
    PST X (.Assign [.Name x pos'] e pos) (tAsg te (gName i)) := by
  intro pins s σ H D g I h
  refine wpAny_Assign_Name (thn (he pins s σ H _ g I h) fun v s1 ⟨y, H1, I1, r1, q1⟩ => ?_) hs
  exact store_ok I1 hN hi hx r1 (fun s2 I2 => ⟨_, H1, I2, q1⟩) hf
end

/-! ### the tokens of a list of codes -/
def LET : List Nat := (Str.ofString "abcdefghijklmnopqrstuvwxyz_ABCDEFGHIJKLMNOPQRSTUVWXYZ").cps.toList
def DIG : List Nat := (Str.ofString "0123456789").cps.toList
def SGN : List (List Nat) := [[60, 61], [62, 61], [33, 61], [40], [41], [59], [44], [46], [60], [62], [61], [43], [45], [42]]
def toNl (s : List Nat) : List Nat := s.dropWhile (fun c => c != 10)
theorem toNl_len (s : List Nat) : (toNl s).length ≤ s.length := by
  unfold toNl
  exact (List.dropWhile_sublist _).length_le
def isBl (c : Nat) : Bool := c == 32 || c == 9 || c == 10
def skipF : Nat → List Nat → List Nat
  | 0, s => s
  | _ + 1, [] => []
  | n + 1, c :: r => if isBl c = true then skipF n r else if c = 35 then skipF n (toNl r) else c :: r
theorem skipF_more : ∀ (n m : Nat) (s : List Nat), s.length ≤ n → s.length ≤ m → skipF n s = skipF m s
  | 0, 0, _, _, _ => rfl
  | 0, m + 1, [], _, _ => rfl
  | 0, _ + 1, _ :: _, h, _ => absurd h (Nat.not_succ_le_zero _)
  | n + 1, 0, [], _, _ => rfl
  | _ + 1, 0, _ :: _, _, h => absurd h (Nat.not_succ_le_zero _)
  | n + 1, m + 1, [], _, _ => rfl
  | n + 1, m + 1, c :: r, h1, h2 => by
    have l1 : r.length ≤ n := Nat.le_of_succ_le_succ h1
    have l2 : r.length ≤ m := Nat.le_of_succ_le_succ h2
    have l3 := toNl_len r
    unfold skipF
    rw [skipF_more n m r l1 l2, skipF_more n m (toNl r) (by omega) (by omega)]
def skip (s : List Nat) : List Nat := skipF s.length s
theorem skip_nil : skip [] = [] := rfl
theorem skip_cons (c : Nat) (r : List Nat) : skip (c :: r) = if isBl c = true then skip r else if c = 35 then skip (toNl r) else c :: r := by
  unfold skip
  rw [List.length_cons]
  have e : skipF (r.length + 1) (c :: r) = if isBl c = true then skipF r.length r else if c = 35 then skipF r.length (toNl r) else c :: r := by
    rw [skipF]
  rw [e, skipF_more r.length (toNl r).length (toNl r) (toNl_len r) (Nat.le_refl _)]
theorem skip_len : ∀ (n : Nat) (s : List Nat), s.length ≤ n → (skip s).length ≤ s.length
  | _, [], _ => Nat.le_refl _
  | 0, _ :: _, h => absurd h (Nat.not_succ_le_zero _)
  | n + 1, c :: r, h => by
    have l1 : r.length ≤ n := Nat.le_of_succ_le_succ h
    have l3 := toNl_len r
    rw [skip_cons]
    split
    · have := skip_len n r l1
      rw [List.length_cons]
      omega
    · split
      · have := skip_len n (toNl r) (by omega)
        rw [List.length_cons]
        omega
      · exact Nat.le_refl _
/-- where a text ends, behind its first quote -/
def te : List Nat → Option (List Nat)
  | [] => none
  | c :: r => if c = 10 then none else if c = 39 then (match r with | 39 :: r' => te r' | _ => some r) else te r
def und (l : List Nat) : List Nat := TL.joinL [39] (TL.spl [39, 39] 0 [] l)
def dbl : List Nat → List Nat
  | [] => []
  | c :: r => if c = 39 then 39 :: 39 :: dbl r else c :: dbl r
inductive Kv where
  | word (l : List Nat)
  | num (n : Nat)
  | text (l : List Nat)
  | sign (l : List Nat)
def Kv.kd : Kv → Str
  | .word _ => "word"
  | .num _ => "number"
  | .text _ => "text"
  | .sign _ => "sign"
def Kv.val : Kv → PyData
  | .word l => .str ⟨l.toArray⟩
  | .num n => .int n
  | .text l => .str ⟨l.toArray⟩
  | .sign l => .str ⟨l.toArray⟩
def runOf (m s : List Nat) : List Nat := s.takeWhile (fun c => decide (c ∈ m))
def tokC (c : Nat) (r : List Nat) : Option (Kv × List Nat) :=
    if c ∈ LET then (if (runOf (LET ++ DIG) (c :: r)).length ≤ 20 then some (.word (runOf (LET ++ DIG) (c :: r)), (c :: r).drop (runOf (LET ++ DIG) (c :: r)).length) else none)
    else if c ∈ DIG then (if (runOf DIG (c :: r)).length ≤ 15 then some (.num (NumText.digitsVal (runOf DIG (c :: r))), (c :: r).drop (runOf DIG (c :: r)).length) else none)
    else if c = 39 then (match te r with
      | none => none
      | some rest => if (und (r.take (r.length - rest.length - 1))).length ≤ 100 then some (.text (und (r.take (r.length - rest.length - 1))), rest) else none)
    else match SGN.find? (fun g => g.isPrefixOf (c :: r)) with
      | none => none
      | some g => some (.sign g, (c :: r).drop g.length)
def tok : List Nat → Option (Kv × List Nat)
  | [] => none
  | c :: r => tokC c r
/-- what the loop over a source of n signs gives, where s is left -/
inductive Lx (n : Nat) : List Nat → List (Kv × Nat) → Prop
  | nil : Lx n [] []
  | cons {s : List Nat} {kv : Kv} {rest : List Nat} {ts : List (Kv × Nat)} : tok s = some (kv, rest) → Lx n (skip rest) ts → Lx n s ((kv, n - s.length) :: ts)
def tokD (t : Kv × Nat) : PyData := .tuple [.str t.1.kd, t.1.val, .int t.2]
theorem te_len : ∀ (n : Nat) (s r : List Nat), s.length ≤ n → te s = some r → r.length < s.length
  | _, [], _, _, h => by cases h
  | 0, _ :: _, _, h, _ => absurd h (Nat.not_succ_le_zero _)
  | n + 1, c :: s, r, hn, h => by
    have l1 : s.length ≤ n := Nat.le_of_succ_le_succ hn
    unfold te at h
    rw [List.length_cons]
    by_cases h10 : c = 10
    · rw [if_pos h10] at h
      cases h
    · rw [if_neg h10] at h
      by_cases h39 : c = 39
      · rw [if_pos h39] at h
        split at h
        · rename_i r'
          have := te_len n r' r (by rw [List.length_cons] at l1; omega) h
          rw [List.length_cons]
          omega
        · cases h
          omega
      · rw [if_neg h39] at h
        have := te_len n s r l1 h
        omega
theorem sgn_pos : ∀ g ∈ SGN, 0 < g.length := by decide
theorem run_head {m : List Nat} {c : Nat} {r : List Nat} (h : c ∈ m) : 0 < (runOf m (c :: r)).length := by
  unfold runOf
  rw [List.takeWhile_cons_of_pos (by simpa using h)]
  exact Nat.succ_pos _
theorem tok_len {s : List Nat} {kv : Kv} {rest : List Nat} (h : tok s = some (kv, rest)) : rest.length < s.length := by
  cases s with
  | nil => cases h
  | cons c r =>
    have h : tokC c r = some (kv, rest) := h
    unfold tokC at h
    by_cases h1 : c ∈ LET
    · rw [if_pos h1] at h
      split at h
      · cases h
        have := run_head (m := LET ++ DIG) (r := r) (List.mem_append_left DIG h1)
        rw [List.length_drop]
        have l : 0 < (c :: r).length := Nat.succ_pos _
        omega
      · cases h
    · rw [if_neg h1] at h
      by_cases h2 : c ∈ DIG
      · rw [if_pos h2] at h
        split at h
        · cases h
          have := run_head (m := DIG) (r := r) h2
          rw [List.length_drop]
          have l : 0 < (c :: r).length := Nat.succ_pos _
          omega
        · cases h
      · rw [if_neg h2] at h
        by_cases h3 : c = 39
        · rw [if_pos h3] at h
          split at h
          · cases h
          · rename_i rest' e
            split at h
            · cases h
              have := te_len _ r _ (Nat.le_refl _) e
              rw [List.length_cons]
              omega
            · cases h
        · rw [if_neg h3] at h
          split at h
          · cases h
          · rename_i g e
            cases h
            have := sgn_pos g (List.mem_of_find?_eq_some e)
            rw [List.length_drop]
            have l : 0 < (c :: r).length := Nat.succ_pos _
            omega
/-! quotes -/
theorem und_dbl : ∀ (v acc : List Nat), TL.joinL [39] (TL.spl [39, 39] 0 acc (dbl v)) = acc ++ v
  | [], acc => by
    show TL.joinL [39] [acc] = _
    rw [List.append_nil]
    rfl
  | c :: v, acc => by
    unfold dbl
    by_cases h : c = 39
    · rw [if_pos h, TL.spl_hit (by rfl)]
      show TL.joinL [39] (acc :: TL.spl [39, 39] 1 [] (39 :: dbl v)) = _
      have e : TL.spl [39, 39] 1 [] (39 :: dbl v) = TL.spl [39, 39] 0 [] (dbl v) := rfl
      rw [e]
      have ih := und_dbl v []
      have ne : TL.spl [39, 39] 0 [] (dbl v) ≠ [] := spl_ne _ _ _ _
      cases es : TL.spl [39, 39] 0 [] (dbl v) with
      | nil => exact absurd es ne
      | cons q r =>
        rw [es] at ih
        show acc ++ ([39] ++ TL.joinL [39] (q :: r)) = _
        rw [ih, h]
        rfl
    · rw [if_neg h, TL.spl_miss (by
        unfold TL.pre
        cases dbl v with
        | nil => simp
        | cons d r => simp [h])]
      rw [und_dbl v (acc ++ [c]), List.append_assoc]
      rfl
where
  spl_ne : ∀ (S : List Nat) (k : Nat) (acc l : List Nat), TL.spl S k acc l ≠ []
    | S, k, acc, [] => by rw [TL.spl_nil]; simp
    | S, 0, acc, c :: r => by
      unfold TL.spl
      split
      · simp
      · exact spl_ne S 0 _ r
    | S, k + 1, acc, c :: r => spl_ne S k acc r
theorem und_dbl' (v : List Nat) : und (dbl v) = v := und_dbl v []
theorem dbl_rpl : ∀ (v acc : List Nat), TL.joinL [39, 39] (TL.spl [39] 0 acc v) = acc ++ dbl v
  | [], acc => by
    show TL.joinL [39, 39] [acc] = _
    rw [show dbl [] = [] from rfl, List.append_nil]
    rfl
  | c :: v, acc => by
    unfold dbl
    by_cases h : c = 39
    · rw [if_pos h, TL.spl_hit (by rw [h]; rfl)]
      have e : TL.spl [39] ([39].length - 1) [] v = TL.spl [39] 0 [] v := rfl
      rw [e]
      have ih := dbl_rpl v []
      cases es : TL.spl [39] 0 [] v with
      | nil => exact absurd es (und_dbl.spl_ne _ _ _ _)
      | cons q r =>
        rw [es] at ih
        show acc ++ ([39, 39] ++ TL.joinL [39, 39] (q :: r)) = _
        rw [ih]
        rfl
    · rw [if_neg h, TL.spl_miss (by
        unfold TL.pre
        simp [h])]
      rw [dbl_rpl v (acc ++ [c]), List.append_assoc]
      rfl
theorem rpl_S (x y z : List Nat) (hy : y ≠ []) (hk : y.all (· < 256) = true) : Txt.replace ⟨x.toArray⟩ ⟨y.toArray⟩ ⟨z.toArray⟩ = ⟨(TL.joinL z (TL.spl y 0 [] x)).toArray⟩ := by
  have hs : Txt.split (SX.S x) (SX.S y) = (TL.spl y 0 [] x).map SX.S := SX.split_S hy hk
  have hkd := TL.kind_ok (x := SX.S x) (SX.all256 hk)
  have hyl : (SX.S y).length = y.length := SX.S_len y
  have hyp : 0 < y.length := List.length_pos_iff.mpr hy
  have hj := SX.join_S z (TL.spl y 0 [] x)
  rw [← hs] at hj
  refine Eq.trans ?_ hj
  show Txt.replace (SX.S x) (SX.S y) (SX.S z) = Txt.join (SX.S z) (Txt.split (SX.S x) (SX.S y))
  unfold Txt.replace Txt.split
  have one : ∀ w : Str, Txt.join w [SX.S x] = SX.S x := fun w => by
    have := SX.join_S (TL.tl w) [x]
    rw [SX.S_tl] at this
    exact this
  have hz0 : ((SX.S y).length == 0 && (SX.S z).length == 0) = false := by
    rw [hyl]
    cases y with
    | nil => exact absurd rfl hy
    | cons a b => rfl
  rw [hz0, Bool.or_false]
  cases ho : (Builtin.Str.occurrences (SX.S x) (SX.S y) 0 (SX.S x).length ((SX.S x).length + 1)).isEmpty with
  | true =>
    rw [if_pos rfl, if_pos rfl, ite_self, one]
  | false =>
    rw [if_neg Bool.false_ne_true, if_neg Bool.false_ne_true]
    have hl : decide ((SX.S x).length < (SX.S y).length) = false := by
      refine decide_eq_false fun hlt => ?_
      cases hoc : Builtin.Str.occurrences (SX.S x) (SX.S y) 0 (SX.S x).length ((SX.S x).length + 1) with
      | nil =>
        rw [hoc] at ho
        cases ho
      | cons i r =>
        have := (PySem.StrLaws.occ_spec (SX.S x) (SX.S y) 0 (SX.S x).length ((SX.S x).length + 1) i (by rw [hoc]; exact List.mem_cons_self ..)).1
        omega
    rw [hl, decide_eq_false hkd]
    rfl

/-! ### texts by their places -/
theorem in_text (m : List Nat) (c : Nat) : (!(Builtin.Str.occurrences ⟨m.toArray⟩ ⟨#[c]⟩ 0 (⟨m.toArray⟩ : Str).length 1).isEmpty) = decide (c ∈ m) := StrLaws.found_one ⟨m.toArray⟩ c
theorem run_step {m l : List Nat} {e : Nat} (h : e < l.length) (hm : l[e] ∈ m) : (runOf m (l.drop e)).length = 1 + (runOf m (l.drop (e + 1))).length := by
  unfold runOf
  rw [List.drop_eq_getElem_cons h, List.takeWhile_cons_of_pos (by simpa using hm), List.length_cons]
  omega
theorem run_stop {m l : List Nat} {e : Nat} (h : e < l.length) (hm : l[e] ∉ m) : runOf m (l.drop e) = [] := by
  unfold runOf
  rw [List.drop_eq_getElem_cons h, List.takeWhile_cons_of_neg (by simpa using hm)]
theorem run_le (m s : List Nat) : (runOf m s).length ≤ s.length := by
  unfold runOf
  exact (List.takeWhile_sublist _).length_le
theorem toNl_suf (s : List Nat) : toNl s <:+ s := List.dropWhile_suffix _
theorem skip_suf : ∀ (n : Nat) (s : List Nat), s.length ≤ n → skip s <:+ s
  | _, [], _ => List.suffix_refl _
  | 0, _ :: _, h => absurd h (Nat.not_succ_le_zero _)
  | n + 1, c :: r, h => by
    have l1 : r.length ≤ n := Nat.le_of_succ_le_succ h
    have l3 := toNl_len r
    rw [skip_cons]
    split
    · exact (skip_suf n r l1).trans (List.suffix_cons c r)
    · split
      · exact ((skip_suf n (toNl r) (by omega)).trans (toNl_suf r)).trans (List.suffix_cons c r)
      · exact List.suffix_refl _
theorem suf_at {l t : List Nat} {i : Nat} (hi : i ≤ l.length) (h : t <:+ l.drop i) : t = l.drop (l.length - t.length) ∧ t.length ≤ l.length - i := by
  have h2 : t <:+ l := h.trans (List.drop_suffix i l)
  refine ⟨(List.suffix_iff_eq_drop.mp h2), ?_⟩
  have := h.length_le
  rw [List.length_drop] at this
  exact this
theorem occ_foldL (s sub : Str) (hi limit : Nat) (L : List Nat) (b : Array Nat × Nat) : (forIn L b (StrLaws.occBody s sub hi limit)).run = L.foldl (fun st i => if ((st.fst.size < limit ∧ st.snd ≤ i) ∧ i + sub.length ≤ hi) ∧ Builtin.Str.subAt s sub i = true then (st.fst.push i, i + sub.length) else st) b := by
  have e : StrLaws.occBody s sub hi limit = fun i st => (pure (ForInStep.yield ((fun i st => if ((st.fst.size < limit ∧ st.snd ≤ i) ∧ i + sub.length ≤ hi) ∧ Builtin.Str.subAt s sub i = true then (st.fst.push i, i + sub.length) else st) i st)) : Id _) := by
    funext i st
    unfold StrLaws.occBody
    split <;> rename_i h
    · simp only [if_pos h]
    · simp only [if_neg h]
  rw [e, List.forIn_pure_yield_eq_foldl]
  rfl
theorem sub_at (l : List Nat) (c n : Nat) : Builtin.Str.subAt ⟨l.toArray⟩ ⟨#[c]⟩ n = decide (l[n]? = some c) := by
  unfold Builtin.Str.subAt
  have e : (⟨#[c]⟩ : Str).length = 1 := rfl
  rw [e]
  show (l.toArray.extract n (n + 1) == #[c]) = _
  rw [List.extract_toArray, List.extract_eq_take_drop, Nat.add_sub_cancel_left]
  by_cases h : n < l.length
  · rw [List.drop_eq_getElem_cons h, List.getElem?_eq_getElem h]
    rw [Bool.eq_iff_iff]
    simp [List.take]
  · rw [List.drop_eq_nil_of_le (by omega), List.getElem?_eq_none (by omega)]
    simp
theorem find_stay (l : List Nat) (hi : Nat) : ∀ (L : List Nat) (k f : Nat), L.foldl (fun (st : Array Nat × Nat) i => if ((st.fst.size < 1 ∧ st.snd ≤ i) ∧ i + 1 ≤ hi) ∧ Builtin.Str.subAt ⟨l.toArray⟩ ⟨#[10]⟩ i = true then (st.fst.push i, i + 1) else st) (#[k], f) = (#[k], f)
  | [], _, _ => rfl
  | i :: L, k, f => by
    rw [List.foldl_cons, if_neg (by simp)]
    exact find_stay l hi L k f
theorem find_go (l : List Nat) : ∀ (n lo f : Nat), lo + n = l.length + 1 → f ≤ lo →
    ((List.range' lo n).foldl (fun (st : Array Nat × Nat) i => if ((st.fst.size < 1 ∧ st.snd ≤ i) ∧ i + 1 ≤ l.length) ∧ Builtin.Str.subAt ⟨l.toArray⟩ ⟨#[10]⟩ i = true then (st.fst.push i, i + 1) else st) (#[], f)).1 = if toNl (l.drop lo) = [] then #[] else #[l.length - (toNl (l.drop lo)).length]
  | 0, lo, f, h, _ => by
    rw [List.drop_eq_nil_of_le (by omega)]
    rfl
  | n + 1, lo, f, h, hf => by
    rw [List.range'_succ, List.foldl_cons]
    by_cases hlo : lo < l.length
    · have es := sub_at l 10 lo
      rw [List.getElem?_eq_getElem hlo] at es
      by_cases hx : l[lo] = 10
      · rw [hx] at es
        rw [if_pos ⟨⟨⟨by simp, hf⟩, by omega⟩, by rw [es]; simp⟩, show (#[] : Array Nat).push lo = #[lo] from rfl, find_stay]
        have e1 : toNl (l.drop lo) = l.drop lo := by
          unfold toNl
          rw [List.drop_eq_getElem_cons hlo, List.dropWhile_cons_of_neg (by simp [hx])]
        have e2 : l.drop lo ≠ [] := fun z => by
          have := congrArg List.length z
          rw [List.length_drop, List.length_nil] at this
          omega
        rw [e1, if_neg e2, List.length_drop, Nat.sub_sub_self (by omega)]
      · rw [if_neg (by rw [es]; simp [hx]), find_go l n (lo + 1) f (by omega) (by omega)]
        have e1 : toNl (l.drop lo) = toNl (l.drop (lo + 1)) := by
          unfold toNl
          rw [List.drop_eq_getElem_cons hlo, List.dropWhile_cons_of_pos (by simp [hx])]
        rw [e1]
    · rw [if_neg (fun z => by omega), find_go l n (lo + 1) f (by omega) (by omega), List.drop_eq_nil_of_le (by omega), List.drop_eq_nil_of_le (by omega)]
theorem from_nat (n i : Nat) : fromIndex n (i : Int) = i := by
  unfold fromIndex
  rw [if_neg (by omega)]
  omega
theorem find_nl (l : List Nat) (i : Nat) (hi : i ≤ l.length) : Txt.find3 ⟨l.toArray⟩ ⟨#[10]⟩ (i : Int) = if toNl (l.drop i) = [] then -1 else ((l.length - (toNl (l.drop i)).length : Nat) : Int) := by
  unfold Txt.find3
  rw [S_len', from_nat, StrLaws.occ_eq, occ_foldL]
  have e1 : (⟨#[10]⟩ : Str).length = 1 := rfl
  rw [e1, find_go l (l.length + 1 - i) i i (by omega) (Nat.le_refl _)]
  by_cases e : toNl (l.drop i) = []
  · rw [if_pos e, if_pos e]
  · rw [if_neg e, if_neg e]
theorem starts_at (l g : List Nat) (i : Nat) (hi : i ≤ l.length) : Txt.startswith3 ⟨l.toArray⟩ ⟨g.toArray⟩ (i : Int) = g.isPrefixOf (l.drop i) := by
  unfold Txt.startswith3
  rw [S_len', S_len', from_nat]
  rw [Bool.eq_iff_iff, Bool.and_eq_true, decide_eq_true_eq, List.isPrefixOf_iff_prefix]
  refine Iff.trans ?_ (List.prefix_iff_eq_take (l₁ := g) (l₂ := l.drop i)).symm
  unfold Builtin.Str.subAt
  rw [S_len']
  show (i + g.length ≤ l.length ∧ (l.toArray.extract i (i + g.length) == g.toArray) = true) ↔ _
  rw [List.extract_toArray, List.extract_eq_take_drop, Nat.add_sub_cancel_left, beq_iff_eq]
  constructor
  · intro h
    have := congrArg Array.toList h.2
    simpa using this.symm
  · intro h
    refine ⟨?_, congrArg List.toArray h.symm⟩
    have := congrArg List.length h
    rw [List.length_take, List.length_drop] at this
    omega
theorem isBl_in (c : Nat) : inV (.str ⟨#[c]⟩) [.str " ", .str "\t", .str "\n"] = isBl c := by
  unfold inV isBl
  rw [List.any_cons, List.any_cons, List.any_cons, List.any_nil, Bool.or_false]
  show ((SX.S [32] == SX.S [c]) || ((SX.S [9] == SX.S [c]) || (SX.S [10] == SX.S [c]))) = _
  rw [SX.S_beq_eq, SX.S_beq_eq, SX.S_beq_eq]
  by_cases h1 : c = 32
  · subst h1; rfl
  · by_cases h2 : c = 9
    · subst h2; rfl
    · by_cases h3 : c = 10
      · subst h3; rfl
      · have e1 : ¬ [32] = [c] := fun z => h1 (List.cons.inj z).1.symm
        have e2 : ¬ [9] = [c] := fun z => h2 (List.cons.inj z).1.symm
        have e3 : ¬ [10] = [c] := fun z => h3 (List.cons.inj z).1.symm
        rw [decide_eq_false e1, decide_eq_false e2, decide_eq_false e3]
        simp [h1, h2, h3]
/-! ### the tokens, def by def -/
structure Gl (K : PySem.W.Frag) (mg : Str → Option Value) (bl sg : Addr) : Prop where
  BLANKS : ∃ u, mg "BLANKS" = some u ∧ RelV (.ref bl) u
  SIGNS : ∃ u, mg "SIGNS" = some u ∧ RelV (.ref sg) u
  DIGITS : ∃ u, mg "DIGITS" = some u ∧ RelV (.str "0123456789") u
  LETTERS : ∃ u, mg "LETTERS" = some u ∧ RelV (.str "abcdefghijklmnopqrstuvwxyz_ABCDEFGHIJKLMNOPQRSTUVWXYZ") u
  MOST_WORD : ∃ u, mg "MOST_WORD" = some u ∧ RelV (.int 20) u
  MOST_NUMBER : ∃ u, mg "MOST_NUMBER" = some u ∧ RelV (.int 15) u
  MOST_TEXT : ∃ u, mg "MOST_TEXT" = some u ∧ RelV (.int 100) u
  blT : ∀ H : Hp, SqT K H bl [.str " ", .str "\t", .str "\n"]
  sgT : ∀ H : Hp, SqT K H sg (SGN.map fun g => V.str ⟨g.toArray⟩)
def sp_run : Sp := fun vs H Q _ => ∃ (l m : List Nat) (i : Nat), vs = [.str ⟨l.toArray⟩, .int (i : Nat), .str ⟨m.toArray⟩] ∧ i ≤ l.length ∧ l.length ≤ 100000 ∧ Q (.int ((i + (runOf m (l.drop i)).length : Nat) : Int)) H
def sp_cmt : Sp := fun vs H Q _ => ∃ (l : List Nat) (i : Nat), vs = [.str ⟨l.toArray⟩, .int (i : Nat)] ∧ i ≤ l.length ∧ l.length ≤ 100000 ∧ Q (.int ((l.length - (toNl (l.drop i)).length : Nat) : Int)) H
def sp_gap : Sp := fun vs H Q _ => ∃ (l : List Nat) (i : Nat), vs = [.str ⟨l.toArray⟩, .int (i : Nat)] ∧ i ≤ l.length ∧ l.length ≤ 100000 ∧ Q (.int ((l.length - (skip (l.drop i)).length : Nat) : Int)) H
def sp_btx : Sp := fun vs H Q _ => ∃ (l : List Nat) (i : Nat) (r : List Nat), vs = [.str ⟨l.toArray⟩, .int (i : Nat)] ∧ i < l.length ∧ l.length ≤ 100000 ∧ te (l.drop (i + 1)) = some r ∧ Q (.int ((l.length - r.length : Nat) : Int)) H
def sp_rtok (K : PySem.W.Frag) (ok : Kv → Prop) : Sp := fun vs H Q _ => ∃ (l : List Nat) (i : Nat) (kv : Kv) (rest : List Nat), vs = [.str ⟨l.toArray⟩, .int (i : Nat)] ∧ i < l.length ∧ l.length ≤ 100000 ∧ tok (l.drop i) = some (kv, rest) ∧ ok kv ∧
  ∀ H' p, Same H H' → Dp K H' (.ref p) (.tuple [.str kv.kd, kv.val, .int ((l.length - rest.length : Nat) : Int)]) → Q (.ref p) H'
section
variable {P : Program} {w : World} {K : PySem.W.Frag} {mg : Str → Option Value} {base : Heap}
theorem ok_run {f : Addr} {fd : FuncData} (F : Fun K "behind_run" "behind_run" s_behind_run f fd) (M : Mg mg) : FnOk P w K mg base CX0 1 f fd ["source", "start", "members"] sp_run := by
  refine F.ok sc_behind_run (fun vs H Q E h => ?_) (fun cdv A outer s H vs Q E hr h => ?_)
  · obtain ⟨l, m, i, rfl, _⟩ := h
    rfl
  · obtain ⟨l, m, i, rfl, hi, hl, q⟩ := h
    have zl : (⟨l.toArray⟩ : Str).length ≤ sizeLine := by rw [S_len']; exact Nat.le_trans hl (by decide)
    refine ⟨_, (pss_cons (ps_set (i := 3) sc_behind_run.nd rfl (.inl rfl) (pv 1))
      (pss_cons (ps_while PassesOwn.never (PW.pt (pw_and (pt_cmpR op_lt (pv 3) (pe_callB call_len_str (by rfl) M.len PySem.boot_len (pa_cons (pv 0) pa_nil)) (nomark _)) (pw_and1 (pt_cmpR op_in_str (pe_ix ix_str (pv 0) (pv 3) (fun _ _ => rfl)) (pv 2) (by rfl))))) (pss_one (ps_aug (i := 3) sc_behind_run.nd rfl (.inl rfl) pe_int ip_add)))
      (pss_one (ps_ret (pv 3))))), ?_⟩
    refine ⟨_, rfl, fun k σ Hi => Hi = H ∧ ∃ e : Nat, σ = [some (.str ⟨l.toArray⟩), some (.int (i : Nat)), some (.str ⟨m.toArray⟩), some (.int (e : Nat))] ∧ e ≤ l.length ∧ k = l.length - e ∧ i + (runOf m (l.drop i)).length = e + (runOf m (l.drop e)).length, ⟨_, rfl, i, rfl, hi, rfl, rfl⟩, fun k σ Hi hW => ?_⟩
    obtain ⟨rfl, e, rfl, he, rfl, hk⟩ := hW
    refine ⟨_, rfl, _, rfl, _, rfl, zl, _, _, rfl, rfl, _, rfl, ite2 (fun e1 => ?_) (fun e1 => ?_)⟩
    · have e2 : (e : Int) < (((⟨l.toArray⟩ : Str).length : Nat) : Int) := of_decide_eq_true e1
      rw [S_len'] at e2
      have e3 : e < l.length := by omega
      have hat : atI (⟨l.toArray⟩ : Str).cps.toList ((e : Nat) : Int) = some l[e] := atI_nat (show l[e]? = _ from List.getElem?_eq_getElem e3)
      refine ⟨_, rfl, _, rfl, _, _, _, rfl, rfl, zl, hat, _, rfl, _, _, rfl, rfl, _, rfl, ?_⟩
      rw [in_text]
      refine ite2 (fun e4 => ?_) (fun e4 => ?_)
      · have e5 : l[e] ∈ m := of_decide_eq_true e4
        refine ⟨fun σ H' => H' = Hi ∧ σ = [some (.str ⟨l.toArray⟩), some (.int (i : Nat)), some (.str ⟨m.toArray⟩), some (.int ((e : Nat) + 1))], fun σ H' hN => ?_, ?_⟩
        · obtain ⟨rfl, rfl⟩ := hN
          exact ⟨l.length - (e + 1), by omega, rfl, e + 1, rfl, by omega, rfl, by rw [hk, run_step e3 e5]; omega⟩
        · exact ⟨_, rfl, _, _, rfl, rfl, rfl, rfl⟩
      · have e5 : l[e] ∉ m := fun z => e4 (decide_eq_true z)
        refine ⟨_, rfl, ?_⟩
        rw [hk, run_stop e3 e5] at q
        exact q
    · have e3 : e = l.length := by
        have : ¬ ((e : Int) < (((⟨l.toArray⟩ : Str).length : Nat) : Int)) := fun z => e1 (decide_eq_true z)
        rw [S_len'] at this
        omega
      subst e3
      refine iteF ?_
      refine ⟨_, rfl, ?_⟩
      rw [hk, List.drop_length] at q
      exact q
theorem ok_cmt {f : Addr} {fd : FuncData} (F : Fun K "behind_comment" "behind_comment" s_behind_comment f fd) (M : Mg mg) : FnOk P w K mg base CX0 1 f fd ["source", "start"] sp_cmt := by
  refine F.ok sc_behind_comment (fun vs H Q E h => ?_) (fun cdv A outer s H vs Q E hr h => ?_)
  · obtain ⟨l, i, rfl, _⟩ := h
    rfl
  · obtain ⟨l, i, rfl, hi, hl, q⟩ := h
    have zl : (⟨l.toArray⟩ : Str).length ≤ sizeLine := by rw [S_len']; exact Nat.le_trans hl (by decide)
    refine ⟨_, (pss_cons (ps_set (i := 2) sc_behind_comment.nd rfl (.inl rfl) (pe_bmK K PySem.F.plainAttrs_str PySem.F.slot_str_find PySem.F.type_str_find mt_find3 (pv 0) (pa_cons pe_str (pa_cons (pv 1) pa_nil))))
      (pss_cons (ps_if (pt_cmpR op_lt (pv 2) pe_int (nomark _)) (pss_one (ps_ret (pe_callB call_len_str (by rfl) M.len PySem.boot_len (pa_cons (pv 0) pa_nil)))) pss_nil)
      (pss_one (ps_ret (pv 2))))), ?_⟩
    refine ⟨_, rfl, rfl, _, rfl, ⟨l.toArray⟩, ⟨#[10]⟩, _, rfl, rfl, ?_⟩
    rw [find_nl l i hi]
    by_cases e : toNl (l.drop i) = []
    · rw [if_pos e]
      refine ⟨_, rfl, _, _, rfl, rfl, _, rfl, iteT ?_⟩
      refine ⟨_, rfl, _, rfl, zl, ?_⟩
      rw [e] at q
      rw [S_len']
      exact q
    · rw [if_neg e]
      refine ⟨_, rfl, _, _, rfl, rfl, _, rfl, ?_⟩
      rw [decide_eq_false (by omega)]
      refine iteF ?_
      exact ⟨_, rfl, q⟩
theorem ok_gap {f : Addr} {fd : FuncData} {bl sg : Addr} (F : Fun K "behind_gap" "behind_gap" s_behind_gap f fd) (M : Mg mg) (G : Gl K mg bl sg) (c_behind_comment : Cl P w K mg base 1 "behind_comment" sp_cmt) : FnOk P w K mg base CX0 2 f fd ["source", "start"] sp_gap := by
  refine F.ok sc_behind_gap (fun vs H Q E h => ?_) (fun cdv A outer s H vs Q E hr h => ?_)
  · obtain ⟨l, i, rfl, _⟩ := h
    rfl
  · obtain ⟨l, i, rfl, hi, hl, q⟩ := h
    have zl : (⟨l.toArray⟩ : Str).length ≤ sizeLine := by rw [S_len']; exact Nat.le_trans hl (by decide)
    refine ⟨_, (pss_cons (ps_set (i := 2) sc_behind_gap.nd rfl (.inl rfl) (pv 1))
      (pss_cons (ps_while PassesOwn.never (pt_cmpR op_lt (pv 2) (pe_callB call_len_str (by rfl) M.len PySem.boot_len (pa_cons (pv 0) pa_nil)) (nomark _)) (pss_one (ps_if (pt_cmpR (inK K) (pe_ix ix_str (pv 0) (pv 2) (fun _ _ => rfl)) (C8.pe_gc (by rfl) G.BLANKS) (by rfl)) (pss_one (ps_aug (i := 2) sc_behind_gap.nd rfl (.inl rfl) pe_int ip_add)) (pss_one (ps_if (pt_cmpR op_eq (pe_ix ix_str (pv 0) (pv 2) (fun _ _ => rfl)) pe_str (nomark _)) (pss_one (ps_set (i := 2) sc_behind_gap.nd rfl (.inl rfl) (pe_u c_behind_comment hr (by first | decide | omega) (by rfl) (pa_cons (pv 0) (pa_cons (pv 2) pa_nil))))) (pss_one (ps_ret (pv 2))))))))
      (pss_one (ps_ret (pv 2))))), ?_⟩
    refine ⟨_, rfl, fun k σ Hi => Hi = H ∧ ∃ e : Nat, σ = [some (.str ⟨l.toArray⟩), some (.int (i : Nat)), some (.int (e : Nat))] ∧ e ≤ l.length ∧ k = l.length - e ∧ skip (l.drop i) = skip (l.drop e), ⟨_, rfl, i, rfl, hi, rfl, rfl⟩, fun k σ Hi hW => ?_⟩
    obtain ⟨rfl, e, rfl, he, rfl, hk⟩ := hW
    refine ⟨_, rfl, _, rfl, _, rfl, zl, _, _, rfl, rfl, _, rfl, ite2 (fun e1 => ?_) (fun e1 => ?_)⟩
    · have e2 : (e : Int) < (((⟨l.toArray⟩ : Str).length : Nat) : Int) := of_decide_eq_true e1
      rw [S_len'] at e2
      have e3 : e < l.length := by omega
      have hat : atI (⟨l.toArray⟩ : Str).cps.toList ((e : Nat) : Int) = some l[e] := atI_nat (show l[e]? = _ from List.getElem?_eq_getElem e3)
      have hd : l.drop e = l[e] :: l.drop (e + 1) := List.drop_eq_getElem_cons e3
      have hsk := skip_cons l[e] (l.drop (e + 1))
      refine ⟨fun σ H' => H' = Hi ∧ ∃ e' : Nat, σ = [some (.str ⟨l.toArray⟩), some (.int (i : Nat)), some (.int (e' : Nat))] ∧ e < e' ∧ e' ≤ l.length ∧ skip (l.drop e) = skip (l.drop e'), fun σ H' hN => ?_, ?_⟩
      · obtain ⟨rfl, e', rfl, h1, h2, h3⟩ := hN
        exact ⟨l.length - e', by omega, rfl, e', rfl, h2, rfl, by rw [hk, h3]⟩
      · refine ⟨_, rfl, _, rfl, _, _, _, rfl, rfl, zl, hat, bl, _, rfl, .inr (G.blT _), rfl, rfl, _, rfl, ?_⟩
        show if (inV (.str ⟨#[l[e]]⟩) [.str " ", .str "\t", .str "\n"]) = true then _ else _
        rw [isBl_in]
        refine ite2 (fun e4 => ?_) (fun e4 => ?_)
        · rw [if_pos e4, ← hd] at hsk
          exact ⟨_, rfl, _, _, rfl, rfl, rfl, e + 1, rfl, by omega, by omega, hsk⟩
        · rw [if_neg e4, ← hd] at hsk
          refine ⟨_, rfl, _, rfl, _, _, _, rfl, rfl, zl, hat, rfl, _, rfl, ?_⟩
          have es : decide (V.str ⟨#[l[e]]⟩ = V.str (Str.ofString "#")) = decide (l[e] = 35) := str1 l[e] 35
          rw [es]
          refine ite2 (fun e5 => ?_) (fun e5 => ?_)
          · have e6 : l[e] = 35 := of_decide_eq_true e5
            rw [if_pos e6] at hsk
            have et : toNl (l.drop e) = toNl (l.drop (e + 1)) := by
              unfold toNl
              rw [hd, List.dropWhile_cons_of_pos (by simp [e6])]
            refine ⟨_, rfl, _, rfl, l, e, rfl, he, hl, ?_⟩
            rw [et]
            obtain ⟨s1, s2⟩ := suf_at (l := l) (i := e + 1) (by omega) (toNl_suf (l.drop (e + 1)))
            refine ⟨rfl, l.length - (toNl (l.drop (e + 1))).length, rfl, by omega, by omega, ?_⟩
            rw [hsk, ← s1]
          · have e6 : ¬ l[e] = 35 := fun z => e5 (decide_eq_true z)
            rw [if_neg e6] at hsk
            refine ⟨_, rfl, ?_⟩
            rw [hk, hsk, List.length_drop, Nat.sub_sub_self he] at q
            exact q
    · have e3 : e = l.length := by
        have : ¬ ((e : Int) < (((⟨l.toArray⟩ : Str).length : Nat) : Int)) := fun z => e1 (decide_eq_true z)
        rw [S_len'] at this
        omega
      subst e3
      refine ⟨_, rfl, ?_⟩
      rw [hk, List.drop_length] at q
      exact q
theorem te_step {l : List Nat} {e : Nat} {r : List Nat} (h : te (l.drop e) = some r) : ∃ he : e < l.length, l[e] ≠ 10 ∧ (l[e] ≠ 39 → te (l.drop (e + 1)) = some r) ∧ (l[e] = 39 → [39, 39].isPrefixOf (l.drop e) = true → te (l.drop (e + 2)) = some r) ∧ (l[e] = 39 → [39, 39].isPrefixOf (l.drop e) = false → r = l.drop (e + 1)) := by
  have he : e < l.length := by
    refine Nat.lt_of_not_le fun z => ?_
    rw [List.drop_eq_nil_of_le z] at h
    cases h
  have hd : l.drop e = l[e] :: l.drop (e + 1) := List.drop_eq_getElem_cons he
  refine ⟨he, ?_, fun hn => ?_, fun h39 hp => ?_, fun h39 hp => ?_⟩
  · intro z
    rw [hd] at h
    unfold te at h
    rw [if_pos z] at h
    cases h
  · rw [hd] at h
    unfold te at h
    split at h
    · cases h
    · first
        | exact h
        | (rw [if_neg hn] at h; exact h)
  · rw [hd] at h hp
    unfold te at h
    rw [if_neg (by rw [h39]; decide), if_pos h39] at h
    have e2 : l.drop (e + 2) = (l.drop (e + 1)).drop 1 := by rw [List.drop_drop]
    rw [e2]
    cases hr : l.drop (e + 1) with
    | nil =>
      rw [hr, h39] at hp
      cases hp
    | cons c r' =>
      rw [hr] at h hp
      rw [h39] at hp
      have hc : c = 39 := by
        simp [List.isPrefixOf] at hp
        exact hp.symm
      subst hc
      exact h
  · rw [hd] at h hp
    unfold te at h
    rw [if_neg (by rw [h39]; decide), if_pos h39] at h
    cases hr : l.drop (e + 1) with
    | nil =>
      rw [hr] at h
      exact (Option.some.inj h).symm
    | cons c r' =>
      rw [hr] at h hp
      rw [h39] at hp
      have hc : c ≠ 39 := fun z => by
        rw [z] at hp
        simp [List.isPrefixOf] at hp
      split at h
      · rename_i heq
        exact absurd (List.cons.inj heq).1 hc
      · exact (Option.some.inj h).symm
theorem ok_btx {f : Addr} {fd : FuncData} (F : Fun K "behind_text" "behind_text" s_behind_text f fd) (M : Mg mg) : FnOk P w K mg base CX0 1 f fd ["source", "start"] sp_btx := by
  refine F.ok sc_behind_text (fun vs H Q E h => ?_) (fun cdv A outer s H vs Q E hr h => ?_)
  · obtain ⟨l, i, r, rfl, _⟩ := h
    rfl
  · obtain ⟨l, i, r, rfl, hi, hl, ht, q⟩ := h
    have zl : (⟨l.toArray⟩ : Str).length ≤ sizeLine := by rw [S_len']; exact Nat.le_trans hl (by decide)
    refine ⟨_, (pss_cons (ps_set (i := 2) sc_behind_text.nd rfl (.inl rfl) (pe_op op_add (pv 1) pe_int))
      (pss_cons (ps_while PassesOwn.never (PW.pt (pw_and (pt_cmpR op_lt (pv 2) (pe_callB call_len_str (by rfl) M.len PySem.boot_len (pa_cons (pv 0) pa_nil)) (nomark _)) (pw_and1 (pt_cmpR op_ne (pe_ix ix_str (pv 0) (pv 2) (fun _ _ => rfl)) pe_str (nomark _))))) (pss_one (ps_if (pt_cmpR op_ne (pe_ix ix_str (pv 0) (pv 2) (fun _ _ => rfl)) pe_str (nomark _)) (pss_one (ps_aug (i := 2) sc_behind_text.nd rfl (.inl rfl) pe_int ip_add)) (pss_one (ps_if (pt_val (pe_bmK K PySem.F.plainAttrs_str PySem.F.slot_str_startswith PySem.F.type_str_startswith mt_startswith3 (pv 0) (pa_cons pe_str (pa_cons (pv 2) pa_nil)))) (pss_one (ps_aug (i := 2) sc_behind_text.nd rfl (.inl rfl) pe_int ip_add)) (pss_one (ps_ret (pe_op op_add (pv 2) pe_int))))))))
      (pss_one (ps_ret pe_non)))), ?_⟩
    refine ⟨_, rfl, _, _, rfl, rfl, fun k σ Hi => Hi = H ∧ ∃ e : Nat, σ = [some (.str ⟨l.toArray⟩), some (.int (i : Nat)), some (.int (e : Nat))] ∧ k = l.length - e ∧ te (l.drop e) = some r, ⟨_, rfl, i + 1, rfl, rfl, ht⟩, fun k σ Hi hW => ?_⟩
    obtain ⟨rfl, e, rfl, rfl, hk⟩ := hW
    obtain ⟨he, h10, hne, h2, h1⟩ := te_step hk
    have hat : atI (⟨l.toArray⟩ : Str).cps.toList ((e : Nat) : Int) = some l[e] := atI_nat (show l[e]? = _ from List.getElem?_eq_getElem he)
    have en : decide (V.str ⟨#[l[e]]⟩ = V.str (Str.ofString "\n")) = decide (l[e] = 10) := str1 l[e] 10
    have eq : decide (V.str ⟨#[l[e]]⟩ = V.str (Str.ofString "'")) = decide (l[e] = 39) := str1 l[e] 39
    refine ⟨_, rfl, _, rfl, _, rfl, zl, _, _, rfl, rfl, _, rfl, ?_⟩
    rw [S_len', decide_eq_true (show (e : Int) < ((l.length : Nat) : Int) by omega)]
    refine iteT ?_
    refine ⟨_, rfl, _, rfl, _, _, _, rfl, rfl, zl, hat, rfl, _, rfl, ?_⟩
    rw [en, decide_eq_false h10]
    refine iteT ?_
    refine ⟨fun σ H' => H' = Hi ∧ ∃ e' : Nat, σ = [some (.str ⟨l.toArray⟩), some (.int (i : Nat)), some (.int (e' : Nat))] ∧ e < e' ∧ te (l.drop e') = some r, fun σ H' hN => ?_, ?_⟩
    · obtain ⟨rfl, e', rfl, g1, g2⟩ := hN
      exact ⟨l.length - e', by omega, rfl, e', rfl, rfl, g2⟩
    · refine ⟨_, rfl, _, rfl, _, _, _, rfl, rfl, zl, hat, rfl, _, rfl, ?_⟩
      rw [eq]
      by_cases h39 : l[e] = 39
      · rw [decide_eq_true h39]
        refine iteF ?_
        refine ⟨_, rfl, rfl, _, rfl, ⟨l.toArray⟩, ⟨[39, 39].toArray⟩, _, rfl, rfl, _, rfl, ?_⟩
        rw [starts_at l [39, 39] e (by omega)]
        cases hp : [39, 39].isPrefixOf (l.drop e) with
        | true =>
          refine iteT ?_
          exact ⟨_, rfl, _, _, rfl, rfl, rfl, e + 2, rfl, by omega, h2 h39 hp⟩
        | false =>
          refine iteF ?_
          refine ⟨_, rfl, _, _, rfl, rfl, ?_⟩
          rw [h1 h39 hp, List.length_drop, Nat.sub_sub_self (by omega)] at q
          exact q
      · rw [decide_eq_false h39]
        refine iteT ?_
        exact ⟨_, rfl, _, _, rfl, rfl, rfl, e + 1, rfl, by omega, hne h39⟩
end
theorem cut_mid (l : List Nat) {i e : Nat} (h1 : i ≤ e) (h2 : e ≤ l.length) : cutS ⟨l.toArray⟩ (some (i : Int)) (some (e : Int)) = ⟨((l.drop i).take (e - i)).toArray⟩ := by
  unfold cutS
  rw [HT.sIx_nat, HT.sIx_nat, S_len', Nat.min_eq_left h2, Nat.min_eq_left (Nat.le_trans h1 h2)]
theorem run_take (m s : List Nat) : s.take (runOf m s).length = runOf m s := (List.prefix_iff_eq_take.mp (List.takeWhile_prefix _)).symm
theorem LET_S : Str.ofString "abcdefghijklmnopqrstuvwxyz_ABCDEFGHIJKLMNOPQRSTUVWXYZ" = ⟨LET.toArray⟩ := (SX.S_tl _).symm
theorem DIG_S : Str.ofString "0123456789" = ⟨DIG.toArray⟩ := (SX.S_tl _).symm
theorem run_all (m : List Nat) : ∀ (s : List Nat) (c : Nat), c ∈ runOf m s → c ∈ m
  | [], _, h => by cases h
  | d :: s, c, h => by
    unfold runOf at h
    by_cases hd : d ∈ m
    · rw [List.takeWhile_cons_of_pos (by simpa using hd)] at h
      rcases List.mem_cons.mp h with rfl | h
      · exact hd
      · exact run_all m s c h
    · rw [List.takeWhile_cons_of_neg (by simpa using hd)] at h
      cases h
theorem DIG_dig : ∀ c ∈ DIG, (decide (48 ≤ c) && decide (c ≤ 57)) = true := by decide +kernel
def sp_rw (K : PySem.W.Frag) : Sp := fun vs H Q _ => ∃ (l : List Nat) (i : Nat), vs = [.str ⟨l.toArray⟩, .int (i : Nat)] ∧ i ≤ l.length ∧ l.length ≤ 100000 ∧ (runOf (LET ++ DIG) (l.drop i)).length ≤ 20 ∧
  ∀ H' p, Same H H' → Dp K H' (.ref p) (.tuple [.str "word", .str ⟨(runOf (LET ++ DIG) (l.drop i)).toArray⟩, .int ((i + (runOf (LET ++ DIG) (l.drop i)).length : Nat) : Int)]) → Q (.ref p) H'
def sp_rn (K : PySem.W.Frag) : Sp := fun vs H Q _ => ∃ (l : List Nat) (i : Nat), vs = [.str ⟨l.toArray⟩, .int (i : Nat)] ∧ i ≤ l.length ∧ l.length ≤ 100000 ∧ 0 < (runOf DIG (l.drop i)).length ∧ (runOf DIG (l.drop i)).length ≤ 15 ∧
  ∀ H' p, Same H H' → Dp K H' (.ref p) (.tuple [.str "number", .int ((NumText.digitsVal (runOf DIG (l.drop i)) : Nat) : Int), .int ((i + (runOf DIG (l.drop i)).length : Nat) : Int)]) → Q (.ref p) H'
def sp_rt (K : PySem.W.Frag) : Sp := fun vs H Q _ => ∃ (l : List Nat) (i : Nat) (rest : List Nat), vs = [.str ⟨l.toArray⟩, .int (i : Nat)] ∧ i < l.length ∧ l.length ≤ 100000 ∧ te (l.drop (i + 1)) = some rest ∧ (und ((l.drop (i + 1)).take ((l.drop (i + 1)).length - rest.length - 1))).length ≤ 100 ∧
  ∀ H' p, Same H H' → Dp K H' (.ref p) (.tuple [.str "text", .str ⟨(und ((l.drop (i + 1)).take ((l.drop (i + 1)).length - rest.length - 1))).toArray⟩, .int ((l.length - rest.length : Nat) : Int)]) → Q (.ref p) H'
def sp_rs (K : PySem.W.Frag) : Sp := fun vs H Q _ => ∃ (l : List Nat) (i : Nat) (g : List Nat), vs = [.str ⟨l.toArray⟩, .int (i : Nat)] ∧ i ≤ l.length ∧ l.length ≤ 100000 ∧ SGN.find? (fun g => g.isPrefixOf (l.drop i)) = some g ∧
  ∀ H' p, Same H H' → Dp K H' (.ref p) (.tuple [.str "sign", .str ⟨g.toArray⟩, .int ((i + g.length : Nat) : Int)]) → Q (.ref p) H'
theorem und_le : ∀ (l acc : List Nat), (TL.joinL [39] (TL.spl [39, 39] 0 acc l)).length ≤ acc.length + l.length := by
  have H : ∀ (n : Nat) (l acc : List Nat), l.length ≤ n → (TL.joinL [39] (TL.spl [39, 39] 0 acc l)).length ≤ acc.length + l.length := by
    intro n
    induction n with
    | zero =>
      intro l acc h
      cases l with
      | nil => exact Nat.le_refl _
      | cons c r => exact absurd h (Nat.not_succ_le_zero _)
    | succ n ih =>
      intro l acc h
      cases l with
      | nil => exact Nat.le_refl _
      | cons c r =>
        have lr : r.length ≤ n := Nat.le_of_succ_le_succ h
        cases hp : TL.pre [39, 39] (c :: r) with
        | true =>
          rw [TL.spl_hit hp]
          have e : TL.spl [39, 39] ([39, 39].length - 1) [] r = TL.spl [39, 39] 0 [] (r.drop 1) := TL.spl_pass _ _ _ _
          rw [e]
          have i2 := ih (r.drop 1) [] (by rw [List.length_drop]; omega)
          have r1 : 1 ≤ r.length := by
            cases r with
            | nil => simp [TL.pre] at hp
            | cons d r' => exact Nat.succ_le_succ (Nat.zero_le _)
          cases es : TL.spl [39, 39] 0 [] (r.drop 1) with
          | nil => exact absurd es (und_dbl.spl_ne _ _ _ _)
          | cons q r' =>
            rw [es] at i2
            show (acc ++ ([39] ++ TL.joinL [39] (q :: r'))).length ≤ _
            rw [List.length_append, List.length_append, List.length_cons]
            rw [List.length_drop, List.length_nil] at i2
            simp only [List.length_cons, List.length_nil]
            omega
        | false =>
          rw [TL.spl_miss hp]
          have := ih r (acc ++ [c]) lr
          rw [List.length_append, List.length_cons, List.length_nil] at this
          rw [List.length_cons]
          omega
  exact fun l acc => H l.length l acc (Nat.le_refl _)
section
variable {P : Program} {w : World} {K : PySem.W.Frag} {mg : Str → Option Value} {base : Heap}
theorem ok_rw {f : Addr} {fd : FuncData} {bl sg : Addr} (F : Fun K "read_word" "read_word" s_read_word f fd) (M : Mg mg) (G : Gl K mg bl sg) (c_behind_run : Cl P w K mg base 1 "behind_run" sp_run) : FnOk P w K mg base CX0 2 f fd ["source", "start"] (sp_rw K) := by
  refine F.ok sc_read_word (fun vs H Q E h => ?_) (fun cdv A outer s H vs Q E hr h => ?_)
  · obtain ⟨l, i, rfl, _⟩ := h
    rfl
  · obtain ⟨l, i, rfl, hi, hl, h20, q⟩ := h
    have zl : (⟨l.toArray⟩ : Str).length ≤ sizeLine := by rw [S_len']; exact Nat.le_trans hl (by decide)
    have hrl := run_le (LET ++ DIG) (l.drop i)
    rw [List.length_drop] at hrl
    refine ⟨_, (pss_cons (ps_set (i := 2) sc_read_word.nd rfl (.inl rfl) (pe_u c_behind_run hr (by first | decide | omega) (by rfl) (pa_cons (pv 0) (pa_cons (pv 1) (pa_cons (pe_op op_add_str (C8.pe_gc (by rfl) G.LETTERS) (C8.pe_gc (by rfl) G.DIGITS)) pa_nil)))))
      (pss_cons (ps_if (pt_cmpR op_gt (pe_op op_sub (pv 2) (pv 1)) (C8.pe_gc (by rfl) G.MOST_WORD) (nomark _)) (pss_one ps_never) pss_nil)
      (pss_one (ps_ret (pe_tup (pa_cons pe_str (pa_cons (pe_slice sl_str (pv 0) (po_some (pv 1)) (po_some (pv 2))) (pa_cons (pv 2) pa_nil)))))))), ?_⟩
    refine ⟨_, rfl, _, rfl, _, _, rfl, rfl, by decide +kernel, ?_⟩
    rw [LET_S, DIG_S, show (⟨LET.toArray⟩ : Str) ++ ⟨DIG.toArray⟩ = ⟨(LET ++ DIG).toArray⟩ from SX.S_cat LET DIG]
    refine ⟨l, LET ++ DIG, i, rfl, hi, hl, ?_⟩
    refine ⟨_, rfl, _, rfl, _, _, rfl, rfl, _, _, rfl, rfl, _, rfl, ?_⟩
    rw [decide_eq_false (by omega)]
    refine iteF ?_
    refine ⟨_, rfl, _, rfl, _, rfl, _, rfl, _, rfl, ⟨l.toArray⟩, rfl, zl, _, rfl, by show 3 ≤ sizeLine; decide, fun p np => ?_⟩
    rw [cut_mid l (by omega) (by omega), Nat.add_sub_cancel_left, run_take]
    exact q _ p (same_upd np) (.tup (.of upd_same) (.cons (.str _) (.cons (.str _) (.cons (.int _) .nil))))
theorem ok_rn {f : Addr} {fd : FuncData} {bl sg : Addr} (F : Fun K "read_number" "read_number" s_read_number f fd) (M : Mg mg) (G : Gl K mg bl sg) (c_behind_run : Cl P w K mg base 1 "behind_run" sp_run) : FnOk P w K mg base CX0 2 f fd ["source", "start"] (sp_rn K) := by
  refine F.ok sc_read_number (fun vs H Q E h => ?_) (fun cdv A outer s H vs Q E hr h => ?_)
  · obtain ⟨l, i, rfl, _⟩ := h
    rfl
  · obtain ⟨l, i, rfl, hi, hl, h0, h15, q⟩ := h
    have zl : (⟨l.toArray⟩ : Str).length ≤ sizeLine := by rw [S_len']; exact Nat.le_trans hl (by decide)
    have hrl := run_le DIG (l.drop i)
    rw [List.length_drop] at hrl
    refine ⟨_, (pss_cons (ps_set (i := 2) sc_read_number.nd rfl (.inl rfl) (pe_u c_behind_run hr (by first | decide | omega) (by rfl) (pa_cons (pv 0) (pa_cons (pv 1) (pa_cons (C8.pe_gc (by rfl) G.DIGITS) pa_nil)))))
      (pss_cons (ps_if (pt_cmpR op_gt (pe_op op_sub (pv 2) (pv 1)) (C8.pe_gc (by rfl) G.MOST_NUMBER) (nomark _)) (pss_one ps_never) pss_nil)
      (pss_one (ps_ret (pe_tup (pa_cons pe_str (pa_cons (pe_callTy call_int_str (by rfl) M.int (by decide +kernel) (pa_cons (pe_slice sl_str (pv 0) (po_some (pv 1)) (po_some (pv 2))) pa_nil)) (pa_cons (pv 2) pa_nil)))))))), ?_⟩
    refine ⟨_, rfl, _, rfl, l, DIG, i, by rw [DIG_S]; rfl, hi, hl, ?_⟩
    refine ⟨_, rfl, _, rfl, _, _, rfl, rfl, _, _, rfl, rfl, _, rfl, ?_⟩
    rw [decide_eq_false (by omega)]
    refine iteF ?_
    refine ⟨_, rfl, _, rfl, _, rfl, _, rfl, _, rfl, ⟨l.toArray⟩, rfl, zl, _, ((NumText.digitsVal (runOf DIG (l.drop i)) : Nat) : Int), rfl, ?_, ?_, _, rfl, by show 3 ≤ sizeLine; decide, fun p np => ?_⟩
    · rw [cut_mid l (by omega) (by omega), Nat.add_sub_cancel_left, run_take]
      exact SX.int_S (List.all_eq_true.mpr fun c hc => DIG_dig c (run_all _ _ c hc)) (fun z => by rw [z] at h0; exact absurd h0 (Nat.lt_irrefl _)) (by omega)
    · rw [cut_mid l (by omega) (by omega), Nat.add_sub_cancel_left, run_take, S_len']
      omega
    · exact q _ p (same_upd np) (.tup (.of upd_same) (.cons (.str _) (.cons (.int _) (.cons (.int _) .nil))))
theorem ok_rt {f : Addr} {fd : FuncData} {bl sg : Addr} (F : Fun K "read_text" "read_text" s_read_text f fd) (M : Mg mg) (G : Gl K mg bl sg) (c_behind_text : Cl P w K mg base 1 "behind_text" sp_btx) : FnOk P w K mg base CX0 2 f fd ["source", "start"] (sp_rt K) := by
  refine F.ok sc_read_text (fun vs H Q E h => ?_) (fun cdv A outer s H vs Q E hr h => ?_)
  · obtain ⟨l, i, rest, rfl, _⟩ := h
    rfl
  · obtain ⟨l, i, rest, rfl, hi, hl, ht, h100, q⟩ := h
    have zl : (⟨l.toArray⟩ : Str).length ≤ sizeLine := by rw [S_len']; exact Nat.le_trans hl (by decide)
    have hlen := te_len _ _ _ (Nat.le_refl _) ht
    rw [List.length_drop] at hlen
    refine ⟨_, (pss_cons (ps_set (i := 2) sc_read_text.nd rfl (.inl rfl) (pe_u c_behind_text hr (by first | decide | omega) (by rfl) (pa_cons (pv 0) (pa_cons (pv 1) pa_nil))))
      (pss_cons (ps_if (pt_cmpR op_isN (pv 2) pe_non (nomark _)) (pss_one ps_never) pss_nil)
      (pss_cons (ps_set (i := 3) sc_read_text.nd rfl (.inl rfl) (pe_rplG (peg_slice sl_str (pv 0) (peg_add (pv 1) pe_int) (pe_op op_sub (pv 2) pe_int)) (by decide)))
      (pss_cons (ps_if (pt_cmpR op_gt (pe_callB call_len_str (by rfl) M.len PySem.boot_len (pa_cons (pv 3) pa_nil)) (C8.pe_gc (by rfl) G.MOST_TEXT) (nomark _)) (pss_one ps_never) pss_nil)
      (pss_one (ps_ret (pe_tup (pa_cons pe_str (pa_cons (pv 3) (pa_cons (pv 2) pa_nil)))))))))), ?_⟩
    refine ⟨_, rfl, _, rfl, l, i, rest, rfl, hi, hl, ht, ?_⟩
    refine ⟨_, rfl, rfl, _, rfl, iteF ?_⟩
    refine ⟨_, rfl, _, rfl, _, _, rfl, rfl, _, rfl, _, rfl, _, _, rfl, rfl, _, rfl, ⟨l.toArray⟩, rfl, zl, _, rfl, ?_⟩
    have e1 : ((i : Nat) : Int) + 1 = ((i + 1 : Nat) : Int) := by omega
    have e2 : ((l.length - rest.length : Nat) : Int) - 1 = ((l.length - rest.length - 1 : Nat) : Int) := by omega
    rw [e1, e2, cut_mid l (by omega) (by omega)]
    have e3 : l.length - rest.length - 1 - (i + 1) = (l.drop (i + 1)).length - rest.length - 1 := by
      rw [List.length_drop]
      omega
    rw [e3]
    generalize hraw : (l.drop (i + 1)).take ((l.drop (i + 1)).length - rest.length - 1) = raw at h100 q
    have hrl : raw.length ≤ 100000 := by
      rw [← hraw, List.length_take, List.length_drop]
      omega
    refine ⟨by rw [S_len']; show raw.length + (raw.length + 1) * 1 ≤ 16777216; omega, ?_⟩
    rw [show Txt.replace ⟨raw.toArray⟩ (Str.ofString "''") (Str.ofString "'") = ⟨(und raw).toArray⟩ from rpl_S raw [39, 39] [39] (by decide) (by decide)]
    have hul := und_le raw []
    refine ⟨_, rfl, _, rfl, by rw [S_len']; exact Nat.le_trans h100 (by decide), _, _, rfl, rfl, _, rfl, ?_⟩
    rw [S_len', decide_eq_false (by omega)]
    refine iteF ?_
    refine ⟨_, rfl, _, rfl, by show 3 ≤ sizeLine; decide, fun p np => ?_⟩
    exact q _ p (same_upd np) (.tup (.of upd_same) (.cons (.str _) (.cons (.str _) (.cons (.int _) .nil))))
theorem ok_rs {f : Addr} {fd : FuncData} {bl sg : Addr} (F : Fun K "read_sign" "read_sign" s_read_sign f fd) (M : Mg mg) (G : Gl K mg bl sg) : FnOk P w K mg base CX0 1 f fd ["source", "start"] (sp_rs K) := by
  refine F.ok sc_read_sign (fun vs H Q E h => ?_) (fun cdv A outer s H vs Q E hr h => ?_)
  · obtain ⟨l, i, g, rfl, _⟩ := h
    rfl
  · obtain ⟨l, i, g, rfl, hi, hl, hg, q⟩ := h
    have zl : (⟨l.toArray⟩ : Str).length ≤ sizeLine := by rw [S_len']; exact Nat.le_trans hl (by decide)
    have hhead : (SGN.filter (fun g => g.isPrefixOf (l.drop i))).head? = some g := by rw [List.head?_filter, hg]
    obtain ⟨gs, hgs⟩ : ∃ gs, SGN.filter (fun g => g.isPrefixOf (l.drop i)) = g :: gs := by
      cases e : SGN.filter (fun g => g.isPrefixOf (l.drop i)) with
      | nil => rw [e] at hhead; cases hhead
      | cons a r => rw [e] at hhead; cases hhead; exact ⟨r, rfl⟩
    have hgl : g.length ≤ 2 := (show ∀ g ∈ SGN, g.length ≤ 2 by decide) g (List.mem_of_find?_eq_some hg)
    refine ⟨_, (pss_cons (ps_setLc (i := 2) (own := [("sign", 3)]) (g := gName 3) rfl sc_read_sign.nd rfl rfl (sw_true rfl rfl rfl (by decide +kernel)) (pi_tup (C8.pe_gc (by rfl) G.SIGNS)) (blkOk_by (N := N_read_sign) (sc := defScope s_read_sign) (by decide +kernel)) (fun _ _ _ _ _ => (pg_name (i := 3) sc_read_sign.nd rfl (.inl rfl))) (fun _ _ _ _ _ => (pts_one (pt_val (pe_bmK K PySem.F.plainAttrs_str PySem.F.slot_str_startswith PySem.F.type_str_startswith mt_startswith3 (pv 0) (pa_cons (pv 3) (pa_cons (pv 1) pa_nil)))))) (fun _ _ _ _ _ => (pv 3)))
      (pss_cons (ps_if (pt_not (pt_truthK K (pv 2) (by intro _; rfl))) (pss_one ps_never) pss_nil)
      (pss_one (ps_ret (pe_tup (pa_cons pe_str (pa_cons (pe_ix (ix_listK K) (pv 2) pe_int (fun _ _ => rfl)) (pa_cons (pe_op op_add (pv 1) (pe_callB call_len_str (by rfl) M.len PySem.boot_len (pa_cons (pe_ix (ix_listK K) (pv 2) pe_int (fun _ _ => rfl)) pa_nil))) pa_nil)))))))), ?_⟩
    refine ⟨sg, rfl, ⟨_, G.sgT H⟩, fun D nD => ?_⟩
    refine lc_tup (K := K) (a := sg) (xs := SGN.map fun g => V.str ⟨g.toArray⟩) (fun k Hi => Same H Hi ∧ Hi D = some (.lst (((SGN.take k).filter (fun g => g.isPrefixOf (l.drop i))).map fun g => V.str ⟨g.toArray⟩))) ⟨same_upd nD, upd_same⟩ (fun k Hi _ _ => G.sgT Hi) (fun k x Hi hx hp => ?_) (fun Hn hp => ?_)
    · obtain ⟨sk, eD⟩ := hp
      rw [List.getElem?_map] at hx
      obtain ⟨y, hy, rfl⟩ := Option.map_eq_some_iff.mp hx
      refine ⟨rfl, ?_⟩
      refine ⟨_, rfl, rfl, _, rfl, _, rfl, ⟨l.toArray⟩, ⟨y.toArray⟩, _, rfl, rfl, _, rfl, ?_⟩
      rw [starts_at l y i hi]
      have ek : (SGN.take (k + 1)).filter (fun g => g.isPrefixOf (l.drop i)) = (SGN.take k).filter (fun g => g.isPrefixOf (l.drop i)) ++ [y].filter (fun g => g.isPrefixOf (l.drop i)) := by
        rw [List.take_add_one, hy, List.filter_append]
        rfl
      have hk : k < 14 := (List.getElem?_eq_some_iff.mp hy).1
      cases hb : y.isPrefixOf (l.drop i) with
      | true =>
        refine iteT ?_
        refine ⟨_, rfl, _, eD, ?_, fun b o e => ?_, ?_⟩
        · rw [List.length_map]
          refine Nat.lt_of_le_of_lt (List.length_filter_le _ _) ?_
          rw [List.length_take]
          exact Nat.lt_of_lt_of_le (m := 20) (by omega) (by decide)
        · rw [upd_ne (ne_of_none e nD)]
          exact sk _ _ e
        · rw [upd_same, ek, List.filter_cons_of_pos (by simpa using hb), List.map_append]
          rfl
      | false =>
        refine iteF ?_
        refine ⟨sk, ?_⟩
        rw [ek, List.filter_cons_of_neg (by simp [hb]), List.filter_nil, List.append_nil]
        exact eD
    · obtain ⟨sn, eD⟩ := hp
      have ea : (SGN.take (SGN.map fun g => V.str ⟨g.toArray⟩).length).filter (fun g => g.isPrefixOf (l.drop i)) = g :: gs := by
        rw [List.take_of_length_le (by rw [List.length_map]; exact Nat.le_refl _), hgs]
      rw [ea] at eD
      have lD : SqL K Hn D (V.str ⟨g.toArray⟩ :: gs.map fun g => V.str ⟨g.toArray⟩) := .of eD
      refine ⟨_, rfl, true, .inl ⟨_, lD, rfl⟩, iteF ?_⟩
      refine ⟨_, rfl, D, _, _, _, rfl, rfl, lD, atI_nat (j := 0) rfl, ?_⟩
      refine ⟨_, rfl, _, rfl, D, _, _, _, rfl, rfl, lD, atI_nat (j := 0) rfl, ?_⟩
      refine ⟨_, rfl, by rw [S_len']; exact Nat.le_trans hgl (by decide), _, _, rfl, rfl, by show 3 ≤ sizeLine; decide, fun p np => ?_⟩
      rw [S_len']
      exact q _ p (sn.trans (same_upd np)) (.tup (.of upd_same) (.cons (.str _) (.cons (.str _) (.cons (.int _) .nil))))
theorem ok_rtok {f : Addr} {fd : FuncData} {bl sg : Addr} (F : Fun K "read_token" "read_token" s_read_token f fd) (M : Mg mg) (G : Gl K mg bl sg) (c_read_word : Cl P w K mg base 2 "read_word" (sp_rw K)) (c_read_number : Cl P w K mg base 2 "read_number" (sp_rn K)) (c_read_text : Cl P w K mg base 2 "read_text" (sp_rt K)) (c_read_sign : Cl P w K mg base 1 "read_sign" (sp_rs K)) : FnOk P w K mg base CX0 3 f fd ["source", "start"] (sp_rtok K fun _ => True) := by
  refine F.ok sc_read_token (fun vs H Q E h => ?_) (fun cdv A outer s H vs Q E hr h => ?_)
  · obtain ⟨l, i, kv, rest, rfl, _⟩ := h
    rfl
  · obtain ⟨l, i, kv, rest, rfl, hi, hl, ht, _, q⟩ := h
    have zl : (⟨l.toArray⟩ : Str).length ≤ sizeLine := by rw [S_len']; exact Nat.le_trans hl (by decide)
    have hat : atI (⟨l.toArray⟩ : Str).cps.toList ((i : Nat) : Int) = some l[i] := atI_nat (show l[i]? = _ from List.getElem?_eq_getElem hi)
    have hd : l.drop i = l[i] :: l.drop (i + 1) := List.drop_eq_getElem_cons hi
    have hdl : (l.drop i).length = l.length - i := List.length_drop
    rw [hd] at ht
    have ht : tokC l[i] (l.drop (i + 1)) = some (kv, rest) := ht
    unfold tokC at ht
    refine ⟨_, (pss_cons (ps_set (i := 2) sc_read_token.nd rfl (.inl rfl) (pe_ix ix_str (pv 0) (pv 1) (fun _ _ => rfl)))
      (pss_cons (ps_if (pt_cmpR op_in_str (pv 2) (C8.pe_gc (by rfl) G.LETTERS) (by rfl)) (pss_one (ps_ret (pe_u c_read_word hr (by first | decide | omega) (by rfl) (pa_cons (pv 0) (pa_cons (pv 1) pa_nil))))) pss_nil)
      (pss_cons (ps_if (pt_cmpR op_in_str (pv 2) (C8.pe_gc (by rfl) G.DIGITS) (by rfl)) (pss_one (ps_ret (pe_u c_read_number hr (by first | decide | omega) (by rfl) (pa_cons (pv 0) (pa_cons (pv 1) pa_nil))))) pss_nil)
      (pss_cons (ps_if (pt_cmpR op_eq (pv 2) pe_str (nomark _)) (pss_one (ps_ret (pe_u c_read_text hr (by first | decide | omega) (by rfl) (pa_cons (pv 0) (pa_cons (pv 1) pa_nil))))) pss_nil)
      (pss_one (ps_ret (pe_u c_read_sign hr (by first | decide | omega) (by rfl) (pa_cons (pv 0) (pa_cons (pv 1) pa_nil))))))))), ?_⟩
    refine ⟨_, rfl, _, rfl, _, _, _, rfl, rfl, zl, hat, ?_⟩
    refine ⟨_, rfl, _, _, rfl, rfl, _, rfl, ?_⟩
    rw [LET_S, in_text]
    by_cases h1 : l[i] ∈ LET
    · rw [if_pos h1, ← hd] at ht
      rw [decide_eq_true h1]
      refine iteT ?_
      split at ht
      · rename_i h20
        cases ht
        have hrl := run_le (LET ++ DIG) (l.drop i)
        refine ⟨_, rfl, _, rfl, l, i, rfl, Nat.le_of_lt hi, hl, h20, fun H' p s' dp => q H' p s' ?_⟩
        have e : l.length - ((l.drop i).drop (runOf (LET ++ DIG) (l.drop i)).length).length = i + (runOf (LET ++ DIG) (l.drop i)).length := by
          rw [List.length_drop]
          omega
        rw [e]
        exact dp
      · cases ht
    · rw [if_neg h1] at ht
      rw [decide_eq_false h1]
      refine iteF ?_
      refine ⟨_, rfl, _, _, rfl, rfl, _, rfl, ?_⟩
      rw [DIG_S, in_text]
      by_cases h2 : l[i] ∈ DIG
      · rw [if_pos h2, ← hd] at ht
        rw [decide_eq_true h2]
        refine iteT ?_
        split at ht
        · rename_i h15
          cases ht
          have hrl := run_le DIG (l.drop i)
          have hr0 := run_head (m := DIG) (r := l.drop (i + 1)) h2
          rw [← hd] at hr0
          refine ⟨_, rfl, _, rfl, l, i, rfl, Nat.le_of_lt hi, hl, hr0, h15, fun H' p s' dp => q H' p s' ?_⟩
          have e : l.length - ((l.drop i).drop (runOf DIG (l.drop i)).length).length = i + (runOf DIG (l.drop i)).length := by
            rw [List.length_drop]
            omega
          rw [e]
          exact dp
        · cases ht
      · rw [if_neg h2] at ht
        rw [decide_eq_false h2]
        refine iteF ?_
        refine ⟨_, rfl, rfl, _, rfl, ?_⟩
        rw [show decide (V.str ⟨#[l[i]]⟩ = V.str (Str.ofString "'")) = decide (l[i] = 39) from str1 l[i] 39]
        by_cases h3 : l[i] = 39
        · rw [if_pos h3] at ht
          rw [decide_eq_true h3]
          refine iteT ?_
          split at ht
          · cases ht
          · rename_i rest' er
            split at ht
            · rename_i h100
              cases ht
              exact ⟨_, rfl, _, rfl, l, i, rest, rfl, hi, hl, er, h100, fun H' p s' dp => q H' p s' dp⟩
            · cases ht
        · rw [if_neg h3, ← hd] at ht
          rw [decide_eq_false h3]
          refine iteF ?_
          split at ht
          · cases ht
          · rename_i g eg
            cases ht
            refine ⟨_, rfl, _, rfl, l, i, g, rfl, Nat.le_of_lt hi, hl, eg, fun H' p s' dp => q H' p s' ?_⟩
            have hp : g <+: l.drop i := List.isPrefixOf_iff_prefix.mp (List.find?_some (p := fun g : List Nat => g.isPrefixOf (l.drop i)) eg)
            have hpl := hp.length_le
            have e : l.length - ((l.drop i).drop g.length).length = i + g.length := by
              rw [List.length_drop]
              omega
            rw [e]
            exact dp
def sp_tok (K : PySem.W.Frag) : Sp := fun vs H Q _ => ∃ (l : List Nat) (ts : List (Kv × Nat)), vs = [.str ⟨l.toArray⟩] ∧ l.length ≤ 100000 ∧ Lx l.length (skip l) ts ∧ ∀ H' p xs, Same H H' → H' p = some (.lst xs) → DpAll K H' xs (ts.map tokD) → Q (.ref p) H'
theorem toks_only : ∀ ts : List (Kv × Nat), tupOnlys (ts.map tokD) = true
  | [] => rfl
  | t :: ts => by
    rw [List.map_cons]
    unfold tupOnlys
    rw [toks_only ts, Bool.and_true]
    obtain ⟨kv, o⟩ := t
    cases kv <;> rfl
theorem skip_le (s : List Nat) : (skip s).length ≤ s.length := skip_len _ s (Nat.le_refl _)
theorem te_suf : ∀ (n : Nat) (s r : List Nat), s.length ≤ n → te s = some r → r <:+ s
  | _, [], _, _, h => by cases h
  | 0, _ :: _, _, h, _ => absurd h (Nat.not_succ_le_zero _)
  | n + 1, c :: s, r, hn, h => by
    have l1 : s.length ≤ n := Nat.le_of_succ_le_succ hn
    unfold te at h
    by_cases h10 : c = 10
    · rw [if_pos h10] at h
      cases h
    · rw [if_neg h10] at h
      by_cases h39 : c = 39
      · rw [if_pos h39] at h
        split at h
        · rename_i r'
          exact ((te_suf n r' r (by rw [List.length_cons] at l1; omega) h).trans (List.suffix_cons 39 r')).trans (List.suffix_cons c _)
        · cases h
          exact List.suffix_cons c _
      · rw [if_neg h39] at h
        exact (te_suf n s r l1 h).trans (List.suffix_cons c s)
theorem tok_suf {s : List Nat} {kv : Kv} {rest : List Nat} (h : tok s = some (kv, rest)) : rest <:+ s := by
  cases s with
  | nil => cases h
  | cons c r =>
    have h : tokC c r = some (kv, rest) := h
    unfold tokC at h
    by_cases h1 : c ∈ LET
    · rw [if_pos h1] at h
      split at h
      · cases h
        exact List.drop_suffix _ _
      · cases h
    · rw [if_neg h1] at h
      by_cases h2 : c ∈ DIG
      · rw [if_pos h2] at h
        split at h
        · cases h
          exact List.drop_suffix _ _
        · cases h
      · rw [if_neg h2] at h
        by_cases h3 : c = 39
        · rw [if_pos h3] at h
          split at h
          · cases h
          · rename_i rest' e
            split at h
            · cases h
              exact (te_suf _ _ _ (Nat.le_refl _) e).trans (List.suffix_cons c r)
            · cases h
        · rw [if_neg h3] at h
          split at h
          · cases h
          · cases h
            exact List.drop_suffix _ _
theorem ok_tok {f : Addr} {fd : FuncData} (F : Fun K "tokens" "tokens" s_tokens f fd) (M : Mg mg) (c_behind_gap : Cl P w K mg base 2 "behind_gap" sp_gap) (c_read_token : Cl P w K mg base 3 "read_token" (sp_rtok K fun _ => True)) : FnOk P w K mg base CX0 4 f fd ["source"] (sp_tok K) := by
  refine F.ok sc_tokens (fun vs H Q E h => ?_) (fun cdv A outer s H vs Q E hr h => ?_)
  · obtain ⟨l, ts, rfl, _⟩ := h
    rfl
  · obtain ⟨l, ts, rfl, hl, hx, q⟩ := h
    have zl : (⟨l.toArray⟩ : Str).length ≤ sizeLine := by rw [S_len']; exact Nat.le_trans hl (by decide)
    refine ⟨_, (pss_cons (ps_set (i := 1) sc_tokens.nd rfl (.inl rfl) (pe_lst pa_nil))
      (pss_cons (ps_set (i := 2) sc_tokens.nd rfl (.inl rfl) (pe_u c_behind_gap hr (by first | decide | omega) (by rfl) (pa_cons (pv 0) (pa_cons pe_int pa_nil))))
      (pss_cons (ps_while PassesOwn.never (pt_cmpR op_lt (pv 2) (pe_callB call_len_str (by rfl) M.len PySem.boot_len (pa_cons (pv 0) pa_nil)) (nomark _)) (pss_cons (ps_asg (pe_u c_read_token hr (by first | decide | omega) (by rfl) (pa_cons (pv 0) (pa_cons (pv 2) pa_nil))) (pg_tup (by rfl) (pgs_cons (pg_name (i := 3) sc_tokens.nd rfl (.inl rfl)) (pgs_cons (pg_name (i := 4) sc_tokens.nd rfl (.inl rfl)) (pgs_cons (pg_name (i := 5) sc_tokens.nd rfl (.inl rfl)) pgs_nil)))))
      (pss_cons (ps_expr (pe_bmK K PySem.F.plainAttrs_list PySem.F.slot_list_append PySem.F.type_list_append mt_append (pv 1) (pa_cons (pe_tup (pa_cons (pv 3) (pa_cons (pv 4) (pa_cons (pv 2) pa_nil)))) pa_nil)))
      (pss_one (ps_set (i := 2) sc_tokens.nd rfl (.inl rfl) (pe_u c_behind_gap hr (by first | decide | omega) (by rfl) (pa_cons (pv 0) (pa_cons (pv 5) pa_nil))))))))
      (pss_one (ps_ret (pv 1)))))), ?_⟩
    refine ⟨Nat.zero_le _, fun D nD => ?_⟩
    refine ⟨_, rfl, l, 0, rfl, Nat.zero_le _, hl, ?_⟩
    rw [List.drop_zero]
    obtain ⟨g1, g2⟩ := suf_at (l := l) (i := 0) (Nat.zero_le _) (show skip l <:+ l.drop 0 from skip_suf _ l (Nat.le_refl _))
    refine ⟨fun k σ Hi => ∃ (o : Nat) (done rest : List (Kv × Nat)) (xs : List V) (y1 y2 y3 : Option V), σ = [some (.str ⟨l.toArray⟩), some (.ref D), some (.int (o : Nat)), y1, y2, y3] ∧ k = l.length - o ∧ o ≤ l.length ∧ ts = done ++ rest ∧ Lx l.length (l.drop o) rest ∧ done.length + (l.length - o) ≤ l.length ∧ (∀ b x, H b = some x → Hi b = some x) ∧ Hi D = some (.lst xs) ∧ DpAll K Hi xs (done.map tokD), ⟨_, l.length - (skip l).length, [], ts, [], none, none, none, rfl, rfl, by omega, rfl, by rw [← g1]; exact hx, by show 0 + _ ≤ _; omega, fun b x e => same_upd nD _ _ e, upd_same, .nil⟩, fun k σ Hi hW => ?_⟩
    obtain ⟨o, done, rest, xs, y1, y2, y3, rfl, rfl, ho, rfl, hrest, hcount, sm, eD, da⟩ := hW
    refine ⟨_, rfl, _, rfl, _, rfl, zl, _, _, rfl, rfl, _, rfl, ?_⟩
    rw [S_len']
    by_cases hlt : o < l.length
    · rw [decide_eq_true (show ((o : Nat) : Int) < ((l.length : Nat) : Int) by omega)]
      refine iteT ?_
      have hdl : (l.drop o).length = l.length - o := List.length_drop
      obtain ⟨kv, rs, ts', er, htok, hts⟩ : ∃ (kv : Kv) (rs : List Nat) (ts' : List (Kv × Nat)), rest = (kv, l.length - (l.drop o).length) :: ts' ∧ tok (l.drop o) = some (kv, rs) ∧ Lx l.length (skip rs) ts' := by
        generalize hs : l.drop o = s at hrest hdl
        cases hrest with
        | nil =>
          rw [List.length_nil] at hdl
          omega
        | cons h1 h2 => exact ⟨_, _, _, rfl, h1, h2⟩
      subst er
      have eo : l.length - (l.drop o).length = o := by omega
      obtain ⟨r1, r2⟩ := suf_at (l := l) (i := o) ho (tok_suf htok)
      have hrl := tok_len htok
      obtain ⟨k1, k2⟩ := suf_at (l := l) (i := l.length - rs.length) (by omega) (show skip rs <:+ l.drop (l.length - rs.length) by rw [← r1]; exact skip_suf _ rs (Nat.le_refl _))
      refine ⟨fun σ H' => ∃ (o' : Nat) (xs' : List V) (z1 z2 z3 : Option V), σ = [some (.str ⟨l.toArray⟩), some (.ref D), some (.int (o' : Nat)), z1, z2, z3] ∧ o < o' ∧ o' ≤ l.length ∧ Lx l.length (l.drop o') ts' ∧ (∀ b x, H b = some x → H' b = some x) ∧ H' D = some (.lst xs') ∧ DpAll K H' xs' ((done ++ [(kv, o)]).map tokD), fun σ H' hN => ?_, ?_⟩
      · obtain ⟨o', xs', z1, z2, z3, rfl, n1, n2, n3, n4, n5, n6⟩ := hN
        refine ⟨l.length - o', by omega, o', done ++ [(kv, o)], ts', xs', z1, z2, z3, rfl, rfl, n2, ?_, n3, ?_, n4, n5, n6⟩
        · rw [eo, List.append_assoc]
          rfl
        · rw [List.length_append, List.length_singleton]
          omega
      · refine ⟨_, rfl, _, rfl, l, o, kv, rs, rfl, hlt, hl, htok, trivial, fun H' p s' dp => ?_⟩
        cases dp with
        | @tup _ zs _ hs ha =>
          cases ha with
          | @cons v1 _ _ _ d1 ha =>
            cases ha with
            | @cons v2 _ _ _ d2 ha =>
              cases ha with
              | @cons v3 _ _ _ d3 ha =>
                cases ha
                cases d1
                cases d3
                refine ⟨p, _, rfl, hs, rfl, _, _, rfl, _, _, rfl, _, _, rfl, rfl, ?_⟩
                have eD' := s' _ _ eD
                refine ⟨_, rfl, .inl ⟨rfl, _, .of eD'⟩, _, rfl, _, rfl, _, rfl, by show 3 ≤ sizeLine; decide, fun p2 np2 => ?_⟩
                have s2 := same_upd np2 (o := .tup [.str kv.kd, v2, .int ((o : Nat) : Int)])
                have eD2 := s2 _ _ eD'
                have xl : xs.length = done.length := by rw [DpAll.len da, List.length_map]
                refine ⟨D, xs, _, rfl, rfl, eD2, ?_, ?_⟩
                · rw [xl]
                  exact Nat.lt_of_le_of_lt (m := 100000) (by omega) (by decide)
                · refine ⟨_, rfl, _, rfl, l, l.length - rs.length, rfl, by omega, hl, ?_⟩
                  rw [← r1]
                  refine ⟨l.length - (skip rs).length, xs ++ [.ref p2], _, _, _, rfl, by have := skip_le rs; omega, by omega, by rw [← k1]; exact hts, fun b x e => ?_, upd_same, ?_⟩
                  · rw [upd_ne (ne_of_none e nD)]
                    exact s2 _ _ (s' _ _ (sm _ _ e))
                  · rw [List.map_append]
                    refine DpAll.snoc (DpAll.away eD2 _ _ (toks_only _) (DpAll.ext (fun b x e => s2 _ _ (s' _ _ e)) _ _ da)) ?_
                    refine Dp.away eD2 _ _ (by cases kv <;> rfl) (.tup (.of upd_same) (.cons (.str _) (.cons (Dp.ext s2 _ _ d2) (.cons (.int _) .nil))))
    · rw [decide_eq_false (show ¬ ((o : Nat) : Int) < ((l.length : Nat) : Int) by omega)]
      refine iteF ?_
      have e0 : l.drop o = [] := List.drop_eq_nil_of_le (by omega)
      rw [e0] at hrest
      have er : rest = [] := by
        cases hrest with
        | nil => rfl
        | cons h1 _ => cases h1
      subst er
      rw [List.append_nil] at q
      exact ⟨_, rfl, q Hi D _ sm eD da⟩
end

theorem dbl_len : ∀ l : List Nat, (dbl l).length ≤ 2 * l.length
  | [] => Nat.le_refl _
  | c :: r => by
    have := dbl_len r
    unfold dbl
    split
    · simp only [List.length_cons]; omega
    · simp only [List.length_cons]; omega

/-! ### names, reserved words, the signs of texts -/
def RESs : List String := ["table", "step", "int", "text", "truth", "from", "as", "left", "semi", "anti", "join", "on", "where", "group", "with", "select", "union", "except", "intersect", "count", "distinct", "sum", "min", "max", "or", "and", "not", "div", "mod", "null", "true", "false", "length", "missing", "starts", "coalesce", "if"]
def RES : List Str := RESs.map Str.ofString
def NameOk (l : List Nat) : Prop := ∃ c r, l = c :: r ∧ c ∈ LET ∧ (∀ x ∈ r, x ∈ LET ++ DIG) ∧ l.length ≤ 20
/-- a name: no reserved word -/
def NmOk (l : List Nat) : Prop := NameOk l ∧ (⟨l.toArray⟩ : Str) ∉ RES
theorem name_len {l : List Nat} (h : NmOk l) : l.length ≤ 21 := by
  obtain ⟨⟨_, _, _, _, _, h⟩, _⟩ := h
  omega
def CHS : List Nat := (Str.ofString "'abcdefghijklmnopqrstuvwxyz ABCDEFGHIJKLMNOPQRSTUVWXYZ0123456789!\"#$&()*+,-./:;<=>?@\x5b\\]^_`{|}~\t").cps.toList
theorem CHS_low : ∀ c ∈ CHS, c < 1114112 := by decide +kernel

/-! ### the law's names, texts and numbers -/
def LAWL : List Nat := (Str.ofString "abcdefghijklmnopqrstuvwxyzABCDEFGHIJKLMNOPQRSTUVWXYZ_").cps.toList
def sp_res : Sp := fun vs H Q _ => vs = [] ∧ ∀ H' p, Same H H' → H p = none → H' p = some (.lst (RES.map V.str)) → Q (.ref p) H'
def sp_name : Sp := fun vs H Q _ => ∃ (d c : Addr), vs = [.ref d] ∧ Dr H d c ∧ ∀ H' l, Fd d H H' → Dr H' d c → NmOk l → Q (.str ⟨l.toArray⟩) H'
def sp_string (CHS : List Nat) : Sp := fun vs H Q _ => ∃ (d c : Addr), vs = [.ref d] ∧ Dr H d c ∧ ∀ H' (l : List Nat), Fd d H H' → Dr H' d c → l.length ≤ 100 → (∀ x ∈ l, x ∈ CHS) → Q (.str ⟨l.toArray⟩) H'
def sp_quoted : Sp := fun vs H Q _ => ∃ (l : List Nat), vs = [.str ⟨l.toArray⟩] ∧ l.length ≤ 1000 ∧ Q (.str ⟨(39 :: (dbl l ++ [39])).toArray⟩) H
def sp_number : Sp := fun vs H Q _ => ∃ (d c : Addr), vs = [.ref d] ∧ Dr H d c ∧ ∀ H' (n : Nat), Fd d H H' → Dr H' d c → n < 10 ^ 15 → Q (.int (n : Int)) H'
theorem LAWL_in : ∀ c ∈ LAWL, c ∈ LET := by decide +kernel
theorem LAWL_len : LAWL.length = 53 := by decide +kernel
theorem DIG_len : DIG.length = 10 := by decide +kernel
theorem LAWL_S : Str.ofString "abcdefghijklmnopqrstuvwxyzABCDEFGHIJKLMNOPQRSTUVWXYZ_" = ⟨LAWL.toArray⟩ := (SX.S_tl _).symm
theorem res_len : ∀ x ∈ RES, x.length ≤ 9 := by decide +kernel
theorem res_in {l : List Nat} (h : inV (.str ⟨l.toArray⟩) (RES.map V.str) = true) : l.length ≤ 9 := by
  unfold inV at h
  rw [List.any_map, List.any_eq_true] at h
  obtain ⟨x, hx, he⟩ := h
  have e : x = ⟨l.toArray⟩ := eq_of_beq (show (x == ⟨l.toArray⟩) = true from he)
  have := res_len x hx
  rw [e, S_len'] at this
  exact this
theorem res_inV {l : List Nat} (h : (⟨l.toArray⟩ : Str) ∈ RES) : inV (.str ⟨l.toArray⟩) (RES.map V.str) = true := by
  unfold inV
  rw [List.any_map, List.any_eq_true]
  exact ⟨_, h, beq_self_eq_true (⟨l.toArray⟩ : Str)⟩
theorem res_us : ∀ x ∈ RES, x.cps.toList.getLast? ≠ some 95 := by decide +kernel
theorem res_flat : (RES.map V.str).all flatV = true := by
  rw [List.all_map]
  exact List.all_eq_true.mpr fun x _ => rfl
section
variable {P : Program} {w : World} {K : PySem.W.Frag} {mg : Str → Option Value} {base : Heap}
theorem ok_res {f : Addr} {fd : FuncData} (F : Fun K "_law_reserved" "_law_reserved" s__law_reserved f fd) : FnOk P w K mg base CX0 1 f fd [] sp_res := by
  refine F.ok sc__law_reserved (fun vs H Q E h => ?_) (fun cdv A outer s H vs Q E hr h => ?_)
  · obtain ⟨rfl, _⟩ := h
    rfl
  · obtain ⟨rfl, q⟩ := h
    refine ⟨_, (pss_cons (ps_set (i := 0) sc__law_reserved.nd rfl (.inl rfl) (pe_lst (pa_cons pe_str (pa_cons pe_str (pa_cons pe_str (pa_cons pe_str (pa_cons pe_str (pa_cons pe_str (pa_cons pe_str (pa_cons pe_str (pa_cons pe_str (pa_cons pe_str (pa_cons pe_str (pa_cons pe_str (pa_cons pe_str (pa_cons pe_str pa_nil))))))))))))))))
      (pss_cons (ps_set (i := 0) sc__law_reserved.nd rfl (.inl rfl) (pe_op op_cat (pv 0) (pe_lst (pa_cons pe_str (pa_cons pe_str (pa_cons pe_str (pa_cons pe_str (pa_cons pe_str (pa_cons pe_str (pa_cons pe_str (pa_cons pe_str (pa_cons pe_str (pa_cons pe_str (pa_cons pe_str pa_nil))))))))))))))
      (pss_one (ps_ret (pe_op op_cat (pv 0) (pe_lst (pa_cons pe_str (pa_cons pe_str (pa_cons pe_str (pa_cons pe_str (pa_cons pe_str (pa_cons pe_str (pa_cons pe_str (pa_cons pe_str (pa_cons pe_str (pa_cons pe_str (pa_cons pe_str (pa_cons pe_str pa_nil)))))))))))))))))), ?_⟩
    refine ⟨by show 14 ≤ sizeLine; decide, fun p1 n1 => ?_⟩
    have s1 := same_upd n1 (o := .lst ((RES.take 14).map V.str))
    have e1 : (upd H p1 (.lst ((RES.take 14).map V.str))) p1 = some (.lst ((RES.take 14).map V.str)) := upd_same
    refine ⟨_, rfl, by show 11 ≤ sizeLine; decide, fun p2 n2 => ?_⟩
    have s2 := same_upd n2 (o := .lst (((RES.drop 14).take 11).map V.str))
    refine ⟨p1, p2, _, _, rfl, rfl, s2 _ _ e1, upd_same, by show 14 + 11 ≤ sizeLine; decide, fun p3 n3 => ?_⟩
    have s3 := same_upd n3 (o := .lst ((RES.take 25).map V.str))
    refine ⟨_, rfl, by show 12 ≤ sizeLine; decide, fun p4 n4 => ?_⟩
    have s4 := same_upd n4 (o := .lst ((RES.drop 25).map V.str))
    refine ⟨p3, p4, _, _, rfl, rfl, s4 _ _ upd_same, upd_same, by show 25 + 12 ≤ sizeLine; decide, fun p5 n5 => ?_⟩
    have s5 := same_upd n5 (o := .lst (RES.map V.str))
    have sa := ((s1.trans s2).trans s3).trans s4
    exact q _ p5 (sa.trans s5) (sa.free n5) upd_same
theorem ok_name {f : Addr} {fd : FuncData} (F : Fun K "_law_name" "_law_name" s__law_name f fd) (M : Mg mg) (c__law_next : Cl P w K mg base 1 "_law_next" sp_next) (c__law_reserved : Cl P w K mg base 1 "_law_reserved" sp_res) : FnOk P w K mg base CX0 2 f fd ["draw"] sp_name := by
  refine F.ok sc__law_name (fun vs H Q E h => ?_) (fun cdv A outer s H vs Q E hr h => ?_)
  · obtain ⟨d, c, rfl, _⟩ := h
    rfl
  · obtain ⟨d, c, rfl, dr, q⟩ := h
    obtain ⟨t, ht, hq⟩ : ∃ t, PSs (cxOf CX0 P w K mg base N__law_name "_law_name" (defScope s__law_name) f cdv A outer s H E).nox ((defBody s__law_name).drop 3) t ∧ ∀ (H1 : Hp) (size : Int), Fd d H H1 → Dr H1 d c → 0 ≤ size → size ≤ 19 → t { nx := fun _ H' => Q .non H', rt := Q } [some (.ref d), some (.str "abcdefghijklmnopqrstuvwxyzABCDEFGHIJKLMNOPQRSTUVWXYZ_"), some (.int size), none, none] H1 := by
      refine ⟨_, (pss_cons (ps_set (i := 3) sc__law_name.nd rfl (.inl rfl) (pe_ix ix_str (pv 1) (pe_u c__law_next hr (by first | decide | omega) (by rfl) (pa_cons (pv 0) (pa_cons pe_int pa_nil))) (fun _ _ => rfl)))
      (pss_cons (ps_for PassesOwn.never rfl (pi_range1 (by rfl) M.range (pa_cons (pv 2) pa_nil)) (pg_name (i := 4) sc__law_name.nd rfl (.inl rfl)) (pss_one (ps_set (i := 3) sc__law_name.nd rfl (.inl rfl) (pe_op op_add_str (pv 3) (pe_ix ix_str (pe_op op_add_str (pv 1) pe_str) (pe_u c__law_next hr (by first | decide | omega) (by rfl) (pa_cons (pv 0) (pa_cons pe_int pa_nil))) (fun _ _ => rfl))))))
      (pss_cons (ps_if (pt_cmpR (inK K) (pv 3) (pe_u0 c__law_reserved hr (by first | decide | omega) (by rfl)) (by rfl)) (pss_one (ps_ret (pe_op op_add_str (pv 3) pe_str))) pss_nil)
      (pss_one (ps_ret (pv 3)))))), fun H1 size f1 dr1 z0 z1 => ?_⟩
      refine ⟨_, rfl, _, rfl, d, c, 53, rfl, dr1, by decide, by decide, fun H2 r f2 _ dr2 r0 r1 => ?_⟩
      obtain ⟨k, rfl⟩ := Int.eq_ofNat_of_zero_le r0
      have hk : k < LAWL.length := by rw [LAWL_len]; omega
      rw [LAWL_S]
      refine ⟨_, _, LAWL[k], rfl, rfl, by rw [S_len', LAWL_len]; decide, atI_nat (show LAWL[k]? = _ from List.getElem?_eq_getElem hk), ?_⟩
      -- one sign more, size times
      refine ⟨_, rfl, _, rfl, by omega, by omega, ?_⟩
      refine for_range (lo := 0) (n := size.toNat) (fun i σ Hi => Fd d H Hi ∧ Dr Hi d c ∧ ∃ (r : List Nat) (z : Option V), σ = [some (.ref d), some (.str ⟨LAWL.toArray⟩), some (.int size), some (.str ⟨(LAWL[k] :: r).toArray⟩), z] ∧ r.length = i ∧ ∀ x ∈ r, x ∈ LET ++ DIG) ⟨f1.trans f2, dr2, [], none, rfl, rfl, fun _ h => by cases h⟩ (fun i σ Hi hi hp => ?_) (fun σ Hn hp => ?_)
      · obtain ⟨fi, di, r, z, rfl, hr1, hr2⟩ := hp
        refine ⟨_, rfl, _, rfl, _, _, rfl, rfl, by rw [S_len', LAWL_len]; decide, ?_⟩
        rw [DIG_S, show (⟨LAWL.toArray⟩ : Str) ++ ⟨DIG.toArray⟩ = ⟨(LAWL ++ DIG).toArray⟩ from SX.S_cat LAWL DIG]
        refine ⟨_, rfl, d, c, 63, rfl, di, by decide, by decide, fun H3 r3 f3 _ dr3 r30 r31 => ?_⟩
        obtain ⟨k3, rfl⟩ := Int.eq_ofNat_of_zero_le r30
        have hk3 : k3 < (LAWL ++ DIG).length := by rw [List.length_append, LAWL_len, DIG_len]; omega
        refine ⟨_, _, (LAWL ++ DIG)[k3], rfl, rfl, by rw [S_len', List.length_append, LAWL_len, DIG_len]; decide, atI_nat (show (LAWL ++ DIG)[k3]? = _ from List.getElem?_eq_getElem hk3), ?_⟩
        refine ⟨_, _, rfl, rfl, ?_, ?_⟩
        · rw [S_len', List.length_cons, hr1]
          exact Nat.le_trans (m := 100) (by show i + 1 + 1 ≤ 100; omega) (by decide)
        · rw [show (⟨(LAWL[k] :: r).toArray⟩ : Str) ++ ⟨#[(LAWL ++ DIG)[k3]]⟩ = ⟨((LAWL[k] :: r) ++ [(LAWL ++ DIG)[k3]]).toArray⟩ from SX.S_cat _ _]
          refine ⟨fi.trans f3, dr3, r ++ [(LAWL ++ DIG)[k3]], _, rfl, by rw [List.length_append, hr1]; rfl, fun x hx => ?_⟩
          rcases List.mem_append.mp hx with hx | hx
          · exact hr2 x hx
          · rw [List.mem_singleton.mp hx]
            rcases List.mem_append.mp (List.getElem_mem hk3) with h | h
            · exact List.mem_append_left _ (LAWL_in _ h)
            · exact List.mem_append_right _ h
      · obtain ⟨fi, di, r, z, rfl, hr1, hr2⟩ := hp
        have hc : LAWL[k] ∈ LET := LAWL_in _ (List.getElem_mem hk)
        refine ⟨_, rfl, rfl, fun H3 p s3 np e3 => ?_⟩
        have di3 := di.ext s3
        have f3 : Fd d H H3 := fi.trans (Fd.of s3)
        refine ⟨p, _, rfl, .inl (.of e3), rfl, res_flat, _, rfl, ite2 (fun e => ?_) (fun e => ?_)⟩
        · have hl := res_in e
          refine ⟨_, rfl, _, _, rfl, rfl, by rw [S_len']; exact Nat.le_trans (m := 100) (by show _ + 1 ≤ 100; omega) (by decide), ?_⟩
          rw [show (⟨(LAWL[k] :: r).toArray⟩ : Str) ++ Str.ofString "_" = ⟨((LAWL[k] :: r) ++ [95]).toArray⟩ from SX.S_cat _ _]
          refine q H3 _ f3 di3 ⟨⟨LAWL[k], r ++ [95], rfl, hc, fun x hx => ?_, ?_⟩, fun z => ?_⟩
          · rcases List.mem_append.mp hx with hx | hx
            · exact hr2 x hx
            · rw [List.mem_singleton.mp hx]
              decide +kernel
          · rw [List.length_append, List.length_singleton]
            omega
          · exact res_us _ z (show ((LAWL[k] :: r) ++ [95]).getLast? = some 95 from List.getLast?_concat)
        · exact ⟨_, rfl, q H3 _ f3 di3 ⟨⟨LAWL[k], r, rfl, hc, hr2, by rw [List.length_cons, hr1]; omega⟩, fun z => e (res_inV z)⟩⟩
    refine ⟨_, (pss_cons (ps_set (i := 1) sc__law_name.nd rfl (.inl rfl) pe_str)
      (pss_cons (ps_set (i := 2) sc__law_name.nd rfl (.inl rfl) (pe_u c__law_next hr (by first | decide | omega) (by rfl) (pa_cons (pv 0) (pa_cons pe_int pa_nil))))
      (pss_cons (ps_if (pt_cmpR op_eq (pe_u c__law_next hr (by first | decide | omega) (by rfl) (pa_cons (pv 0) (pa_cons pe_int pa_nil))) pe_int (nomark _)) (pss_one (ps_set (i := 2) sc__law_name.nd rfl (.inl rfl) pe_int)) pss_nil)
      ht))), ?_⟩
    refine ⟨_, rfl, d, c, 4, rfl, dr, by decide, by decide, fun H2 r f2 _ dr2 r0 r1 => ?_⟩
    refine ⟨_, rfl, d, c, 9, rfl, dr2, by decide, by decide, fun H3 r5 f3 _ dr3 _ _ => ⟨rfl, _, rfl, ite2 (fun e => ?_) (fun e => ?_)⟩⟩
    · exact hq H3 19 (f2.trans f3) dr3 (by decide) (by decide)
    · exact hq H3 r (f2.trans f3) dr3 r0 (by omega)
end
theorem CHS_S : Str.ofString "'abcdefghijklmnopqrstuvwxyz ABCDEFGHIJKLMNOPQRSTUVWXYZ0123456789!\"#$&()*+,-./:;<=>?@\x5b\\]^_`{|}~\t" = ⟨CHS.toArray⟩ := (SX.S_tl _).symm
theorem CHS_len : CHS.length = 95 := by decide +kernel
theorem CHS_nl : ∀ c ∈ CHS, c ≠ 10 := by decide +kernel
theorem sum_one : ∀ l : List Nat, ((l.map fun x => (⟨#[x]⟩ : Str)).map (·.length)).sum = l.length
  | [] => rfl
  | x :: l => by
    rw [List.map_cons, List.map_cons, List.sum_cons, sum_one l, List.length_cons]
    show 1 + l.length = _
    omega
theorem flat_one : ∀ l : List Nat, ((l.map fun x => (⟨#[x]⟩ : Str)).map TL.tl).flatten = l
  | [] => rfl
  | x :: l => by
    rw [List.map_cons, List.map_cons, List.flatten_cons, flat_one l]
    rfl
section
variable {P : Program} {w : World} {K : PySem.W.Frag} {mg : Str → Option Value} {base : Heap}
theorem ok_string {f : Addr} {fd : FuncData} (F : Fun K "_law_string" "_law_string" s__law_string f fd) (M : Mg mg) (c__law_next : Cl P w K mg base 1 "_law_next" sp_next) : FnOk P w K mg base CX0 2 f fd ["draw"] (sp_string CHS) := by
  refine F.ok sc__law_string (fun vs H Q E h => ?_) (fun cdv A outer s H vs Q E hr h => ?_)
  · obtain ⟨d, c, rfl, _⟩ := h
    rfl
  · obtain ⟨d, c, rfl, dr, q⟩ := h
    obtain ⟨t, ht, hq⟩ : ∃ t, PSs (cxOf CX0 P w K mg base N__law_string "_law_string" (defScope s__law_string) f cdv A outer s H E).nox ((defBody s__law_string).drop 3) t ∧ ∀ (H1 : Hp) (size : Int), Fd d H H1 → Dr H1 d c → 0 ≤ size → size ≤ 100 → t { nx := fun _ H' => Q .non H', rt := Q } [some (.ref d), some (.str ⟨CHS.toArray⟩), some (.int size), none] H1 := by
      refine ⟨_, (pss_one (ps_ret (pe_join pe_str (pe_lc (own := [("k", 3)]) (g := gName 3) (tt := tYes) rfl sc__law_string.nd (pi_range1 (by rfl) M.range (pa_cons (pv 2) pa_nil)) (blkOk_by (N := N__law_string) (sc := defScope s__law_string) (by decide +kernel)) (fun _ _ _ _ _ => (pg_name (i := 3) sc__law_string.nd rfl (.inl rfl))) (fun _ _ _ _ _ => pts_nil) (fun _ _ _ _ _ => (pe_ix ix_str (pv 1) (pe_u c__law_next hr (by first | decide | omega) (by rfl) (pa_cons (pv 0) (pa_cons (pe_callB call_len_str (by rfl) M.len PySem.boot_len (pa_cons (pv 1) pa_nil)) pa_nil))) (fun _ _ => rfl))))))), fun H1 size f1 dr1 z0 z1 => ?_⟩
      refine ⟨⟨_, rfl⟩, _, rfl, _, rfl, by omega, by omega, fun D nD => ?_⟩
      refine lc_range (lo := 0) (n := size.toNat) (fun i Hi => D ≠ d ∧ D ≠ c ∧ Fd d H1 Hi ∧ Dr Hi d c ∧ ∃ l : List Nat, l.length = i ∧ (∀ x ∈ l, x ∈ CHS) ∧ Hi D = some (.lst ((l.map fun x => (⟨#[x]⟩ : Str)).map V.str))) ⟨dr1.nd nD, dr1.nc nD, Fd.new nD, dr1.ext (same_upd nD), [], rfl, (fun _ h => by cases h), upd_same⟩ (fun i Hi hi hp => ?_) (fun Hn hp => ?_)
      · obtain ⟨nDd, nDc, fi, di, l, hl, hx, eD⟩ := hp
        refine ⟨rfl, ?_⟩
        refine ⟨_, rfl, _, rfl, _, rfl, _, rfl, by rw [S_len', CHS_len]; decide, ?_⟩
        rw [S_len']
        refine ⟨d, c, _, rfl, di, by rw [CHS_len]; decide, by rw [CHS_len]; decide, fun H' r f' _ dr' r0 r1 => ?_⟩
        obtain ⟨k, rfl⟩ := Int.eq_ofNat_of_zero_le r0
        have hk : k < CHS.length := by omega
        have eD' := f' _ _ nDd eD
        refine ⟨_, _, CHS[k], rfl, rfl, by rw [S_len', CHS_len]; decide, atI_nat (show CHS[k]? = _ from List.getElem?_eq_getElem hk), _, eD', ?_, nDd, nDc, ?_, dr'.upd nDd nDc, l ++ [CHS[k]], ?_, ?_, ?_⟩
        · rw [List.length_map, List.length_map, hl]
          exact Nat.lt_of_lt_of_le (m := 1000) (by omega) (by decide)
        · intro b o nb e
          have nbD : b ≠ D := ne_of_none e nD
          rw [upd_ne nbD]
          exact f' _ _ nb (fi _ _ nb e)
        · rw [List.length_append, hl]
          rfl
        · intro y hy
          rcases List.mem_append.mp hy with hy | hy
          · exact hx y hy
          · rw [List.mem_singleton.mp hy]
            exact List.getElem_mem hk
        · rw [upd_same, List.map_append, List.map_append]
          rfl
      · obtain ⟨nDd, nDc, fi, di, l, hl, hx, eD⟩ := hp
        have hz := sum_one l
        refine ⟨_, D, l.map fun x => (⟨#[x]⟩ : Str), rfl, rfl, .inl (.of eD), ?_, ?_⟩
        · rw [hz, List.length_map, hl]
          show size.toNat + size.toNat * 0 ≤ 16777216
          omega
        · rw [show Txt.join (Str.ofString "") (l.map fun x => (⟨#[x]⟩ : Str)) = ⟨(((l.map fun x => (⟨#[x]⟩ : Str)).map TL.tl).flatten).toArray⟩ from join0 _, flat_one]
          exact q Hn l (f1.trans fi) di (by omega) hx
    refine ⟨_, (pss_cons (ps_set (i := 1) sc__law_string.nd rfl (.inr rfl) pe_str)
      (pss_cons (ps_set (i := 2) sc__law_string.nd rfl (.inl rfl) (pe_u c__law_next hr (by first | decide | omega) (by rfl) (pa_cons (pv 0) (pa_cons pe_int pa_nil))))
      (pss_cons (ps_if (pt_cmpR op_eq (pe_u c__law_next hr (by first | decide | omega) (by rfl) (pa_cons (pv 0) (pa_cons pe_int pa_nil))) pe_int (nomark _)) (pss_one (ps_set (i := 2) sc__law_string.nd rfl (.inl rfl) (pe_op op_add pe_int (pv 2)))) pss_nil)
      ht))), ?_⟩
    rw [CHS_S]
    refine ⟨_, rfl, d, c, 5, rfl, dr, by decide, by decide, fun H2 r f2 _ dr2 r0 r1 => ?_⟩
    refine ⟨_, rfl, d, c, 11, rfl, dr2, by decide, by decide, fun H3 r5 f3 _ dr3 _ _ => ⟨rfl, _, rfl, ite2 (fun e => ?_) (fun e => ?_)⟩⟩
    · refine ⟨_, rfl, _, _, rfl, rfl, ?_⟩
      exact hq H3 (96 + r) (f2.trans f3) dr3 (by omega) (by omega)
    · exact hq H3 r (f2.trans f3) dr3 r0 (by omega)
theorem ok_quoted {f : Addr} {fd : FuncData} (F : Fun K "_law_quoted" "_law_quoted" s__law_quoted f fd) : FnOk P w K mg base CX0 1 f fd ["value"] sp_quoted := by
  refine F.ok sc__law_quoted (fun vs H Q E h => ?_) (fun cdv A outer s H vs Q E hr h => ?_)
  · obtain ⟨l, rfl, _⟩ := h
    rfl
  · obtain ⟨l, rfl, hl, q⟩ := h
    have hd := dbl_len l
    refine ⟨_, (pss_one (ps_ret (pe_op op_add_str (pe_opG op_add_str peg_str (pet_rpl (pv 0) (by decide))) pe_str))), ?_⟩
    refine ⟨_, rfl, ⟨l.toArray⟩, rfl, by rw [S_len']; show l.length + (l.length + 1) * 2 ≤ 16777216; omega, ?_⟩
    rw [show Txt.replace ⟨l.toArray⟩ (Str.ofString "'") (Str.ofString "''") = ⟨(dbl l).toArray⟩ by
      have := rpl_S l [39] [39, 39] (by decide) (by decide)
      rw [dbl_rpl l []] at this
      exact this]
    refine ⟨_, _, rfl, rfl, by show 1 + (⟨(dbl l).toArray⟩ : Str).length ≤ sizeLine; rw [S_len']; exact Nat.le_trans (m := 10000) (by omega) (by decide), ?_⟩
    rw [show Str.ofString "'" ++ (⟨(dbl l).toArray⟩ : Str) = ⟨(39 :: dbl l).toArray⟩ from SX.S_cat [39] (dbl l)]
    refine ⟨_, _, rfl, rfl, by rw [S_len', List.length_cons]; exact Nat.le_trans (m := 10000) (by show _ + 1 ≤ 10000; omega) (by decide), ?_⟩
    rw [show (⟨(39 :: dbl l).toArray⟩ : Str) ++ Str.ofString "'" = ⟨(39 :: (dbl l ++ [39])).toArray⟩ from SX.S_cat (39 :: dbl l) [39]]
    exact q
theorem ok_number {f : Addr} {fd : FuncData} (F : Fun K "_law_number" "_law_number" s__law_number f fd) (M : Mg mg) (c__law_next : Cl P w K mg base 1 "_law_next" sp_next) : FnOk P w K mg base CX0 2 f fd ["draw"] sp_number := by
  refine F.ok sc__law_number (fun vs H Q E h => ?_) (fun cdv A outer s H vs Q E hr h => ?_)
  · obtain ⟨d, c, rfl, _⟩ := h
    rfl
  · obtain ⟨d, c, rfl, dr, q⟩ := h
    have fin : ∀ (H1 : Hp) (n : Int), Fd d H H1 → Dr H1 d c → Q (.int (n % 10 ^ 15)) H1 := fun H1 n f1 d1 => by
      have h0 : 0 ≤ n % 10 ^ 15 := Int.emod_nonneg _ (by decide)
      have h1 : n % 10 ^ 15 < 10 ^ 15 := Int.emod_lt_of_pos _ (by decide)
      obtain ⟨k, hk⟩ := Int.eq_ofNat_of_zero_le h0
      rw [hk]
      exact q H1 k f1 d1 (by omega)
    refine ⟨_, (pss_cons (ps_set (i := 1) sc__law_number.nd rfl (.inl rfl) (pe_u c__law_next hr (by first | decide | omega) (by rfl) (pa_cons (pv 0) (pa_cons pe_int pa_nil))))
      (pss_cons (ps_if (pt_cmpR op_eq (pe_u c__law_next hr (by first | decide | omega) (by rfl) (pa_cons (pv 0) (pa_cons pe_int pa_nil))) pe_int (nomark _)) (pss_one (ps_for PassesOwn.never rfl (pi_range1 (by rfl) M.range (pa_cons pe_int pa_nil)) (pg_name (i := 2) sc__law_number.nd rfl (.inl rfl)) (pss_one (ps_set (i := 1) sc__law_number.nd rfl (.inl rfl) (pe_op op_add (pe_op op_mul (pv 1) pe_int) (pe_u c__law_next hr (by first | decide | omega) (by rfl) (pa_cons (pv 0) (pa_cons pe_int pa_nil)))))))) pss_nil)
      (pss_one (ps_ret (pe_op op_mod (pv 1) (pe_op op_pow pe_int pe_int)))))), ?_⟩
    refine ⟨_, rfl, d, c, 12, rfl, dr, by decide, by decide, fun H2 r f2 _ dr2 r0 r1 => ?_⟩
    refine ⟨_, rfl, d, c, 6, rfl, dr2, by decide, by decide, fun H3 r5 f3 _ dr3 _ _ => ⟨rfl, _, rfl, ite2 (fun e => ?_) (fun e => ?_)⟩⟩
    · refine ⟨_, rfl, by decide, by decide, ?_⟩
      refine for_range (lo := 0) (n := (14 : Int).toNat) (fun i σ Hi => Fd d H Hi ∧ Dr Hi d c ∧ ∃ (n : Int) (z : Option V), σ = [some (.ref d), some (.int n), z]) ⟨f2.trans f3, dr3, r, none, rfl⟩ (fun i σ Hi hi hp => ?_) (fun σ Hn hp => ?_)
      · obtain ⟨fi, di, n, z, rfl⟩ := hp
        refine ⟨_, rfl, _, _, rfl, rfl, .inr ⟨by decide, by decide⟩, ?_⟩
        refine ⟨_, rfl, d, c, 10, rfl, di, by decide, by decide, fun H4 r4 f4 _ dr4 _ _ => ?_⟩
        exact ⟨_, _, rfl, rfl, fi.trans f4, dr4, _, _, rfl⟩
      · obtain ⟨fi, di, n, z, rfl⟩ := hp
        refine ⟨_, rfl, _, _, rfl, rfl, ⟨by decide, by decide, by decide⟩, _, _, rfl, rfl, by show (0 : Int) < 10 ^ (15 : Int).toNat; decide, ?_⟩
        exact fin Hn n fi di
    · refine ⟨_, rfl, _, _, rfl, rfl, ⟨by decide, by decide, by decide⟩, _, _, rfl, rfl, by show (0 : Int) < 10 ^ (15 : Int).toNat; decide, ?_⟩
      exact fin H3 r (f2.trans f3) dr3
end

/-! ### expressions and their canonical texts -/
inductive Bop where
  | or | and | lt | le | eq | ne | ge | gt | add | sub | mul | div | mod
def Bop.s : Bop → String
  | .or => "or" | .and => "and" | .lt => "<" | .le => "<=" | .eq => "=" | .ne => "!=" | .ge => ">=" | .gt => ">" | .add => "+" | .sub => "-" | .mul => "*" | .div => "div" | .mod => "mod"
def Bop.w (o : Bop) : Str := Str.ofString o.s
/-- how closely it binds; its left, its right operand -/
def Bop.lv : Bop → Nat
  | .or => 1 | .and => 2 | .add => 5 | .sub => 5 | .mul => 6 | .div => 6 | .mod => 6 | _ => 4
def Bop.lf : Bop → Nat
  | .or => 1 | .and => 2 | .add => 5 | .sub => 5 | .mul => 6 | .div => 6 | .mod => 6 | _ => 5
def Bop.rt : Bop → Nat
  | .or => 2 | .and => 3 | .add => 6 | .sub => 6 | .mul => 7 | .div => 7 | .mod => 7 | _ => 5
inductive Ex where
  | num (n : Nat) | text (l : List Nat) | truth (b : Bool) | null | name (l : List Nat) | field (l m : List Nat)
  | neg (a : Ex) | nt (a : Ex) | bin (o : Bop) (a b : Ex) | f1 (m : Bool) (a : Ex) | f2 (m : Bool) (a b : Ex) | f3 (a b c : Ex)
def f1s (m : Bool) : String := if m = true then "missing" else "length"
def f2s (m : Bool) : String := if m = true then "starts" else "coalesce"
def Ex.d : Ex → PyData
  | .num n => .tuple [.str "number", .int n]
  | .text l => .tuple [.str "text", .str ⟨l.toArray⟩]
  | .truth b => .tuple [.str "truth", .int (if b = true then 1 else 0)]
  | .null => .tuple [.str "null"]
  | .name l => .tuple [.str "name", .str ⟨l.toArray⟩]
  | .field l m => .tuple [.str "field", .str ⟨l.toArray⟩, .str ⟨m.toArray⟩]
  | .neg a => .tuple [.str "negate", a.d]
  | .nt a => .tuple [.str "not", a.d]
  | .bin o a b => .tuple [.str o.w, a.d, b.d]
  | .f1 m a => .tuple [.str (Str.ofString (f1s m)), a.d]
  | .f2 m a b => .tuple [.str (Str.ofString (f2s m)), a.d, b.d]
  | .f3 a b c => .tuple [.str "if", a.d, b.d, c.d]
def Ex.ht : Ex → Nat
  | .neg a => a.ht + 1
  | .nt a => a.ht + 1
  | .bin _ a b => max a.ht b.ht + 1
  | .f1 _ a => a.ht + 1
  | .f2 _ a b => max a.ht b.ht + 1
  | .f3 a b c => max a.ht (max b.ht c.ht) + 1
  | _ => 0
def Ex.lev : Ex → Nat
  | .bin o _ _ => o.lv
  | .nt _ => 3
  | .neg _ => 7
  | _ => 8
def codes (s : String) : List Nat := (Str.ofString s).cps.toList
theorem codes_S (s : String) : Str.ofString s = ⟨(codes s).toArray⟩ := (SX.S_tl _).symm
def par (b : Bool) (l : List Nat) : List Nat := if b = true then 40 :: (l ++ [41]) else l
def Ex.pr : Ex → List Nat
  | .num n => TL.numL n
  | .text l => 39 :: (dbl l ++ [39])
  | .truth b => codes (if b = true then "true" else "false")
  | .null => codes "null"
  | .name l => l
  | .field l m => l ++ 46 :: m
  | .neg a => 45 :: par (decide (a.lev < 7)) a.pr
  | .nt a => codes "not " ++ par (decide (a.lev < 3)) a.pr
  | .bin o a b => par (decide (a.lev < o.lf)) a.pr ++ 32 :: (codes o.s ++ 32 :: par (decide (b.lev < o.rt)) b.pr)
  | .f1 m a => codes (f1s m) ++ 40 :: (a.pr ++ [41])
  | .f2 m a b => codes (f2s m) ++ 40 :: (a.pr ++ 44 :: 32 :: (b.pr ++ [41]))
  | .f3 a b c => codes "if" ++ 40 :: (a.pr ++ 44 :: 32 :: (b.pr ++ 44 :: 32 :: (c.pr ++ [41])))
/-- numbers of up to fifteen digits, texts of up to 100 signs, names of up to 21 -/
def Ex.ok : Ex → Prop
  | .num n => n < 10 ^ 15
  | .text l => l.length ≤ 100 ∧ ∀ x ∈ l, x ∈ CHS
  | .name l => NmOk l
  | .field l m => NmOk l ∧ NmOk m
  | .neg a => a.ok
  | .nt a => a.ok
  | .bin _ a b => a.ok ∧ b.ok
  | .f1 _ a => a.ok
  | .f2 _ a b => a.ok ∧ b.ok
  | .f3 a b c => a.ok ∧ b.ok ∧ c.ok
  | _ => True
theorem par_len (b : Bool) (l : List Nat) : (par b l).length ≤ l.length + 2 := by
  unfold par
  split
  · simp only [List.length_cons, List.length_append, List.length_nil]; omega
  · omega
theorem ex_only : ∀ e : Ex, tupOnly e.d = true
  | .num _ => rfl
  | .text _ => rfl
  | .truth _ => rfl
  | .null => rfl
  | .name _ => rfl
  | .field _ _ => rfl
  | .neg a => by simp [Ex.d, tupOnly, tupOnlys, ex_only a]
  | .nt a => by simp [Ex.d, tupOnly, tupOnlys, ex_only a]
  | .bin _ a b => by simp [Ex.d, tupOnly, tupOnlys, ex_only a, ex_only b]
  | .f1 _ a => by simp [Ex.d, tupOnly, tupOnlys, ex_only a]
  | .f2 _ a b => by simp [Ex.d, tupOnly, tupOnlys, ex_only a, ex_only b]
  | .f3 a b c => by simp [Ex.d, tupOnly, tupOnlys, ex_only a, ex_only b, ex_only c]
theorem Bop.sl (o : Bop) : (codes o.s).length ≤ 3 := by cases o <;> decide
theorem f1l (m : Bool) : (codes (f1s m)).length ≤ 8 := by cases m <;> decide
theorem f2l (m : Bool) : (codes (f2s m)).length ≤ 8 := by cases m <;> decide
/-- how long a text of this height can be -/
def mx : Nat → Nat
  | 0 => 210
  | n + 1 => 3 * mx n + 30
theorem mx_mono : ∀ {m n : Nat}, m ≤ n → mx m ≤ mx n
  | m, 0, h => by
    have e : m = 0 := by omega
    subst e
    exact Nat.le_refl _
  | m, n + 1, h => by
    by_cases e : m = n + 1
    · subst e
      exact Nat.le_refl _
    · have := mx_mono (m := m) (n := n) (by omega)
      show mx m ≤ 3 * mx n + 30
      omega
theorem pr_len : ∀ e : Ex, e.ok → e.pr.length ≤ mx e.ht
  | .num n, h => Nat.le_trans (TL.numL_len (by decide) h) (show (15 : Nat) ≤ 210 by decide)
  | .text l, h => by
    have := dbl_len l
    have h1 := h.1
    show (39 :: (dbl l ++ [39])).length ≤ 210
    simp only [List.length_cons, List.length_append, List.length_nil]
    omega
  | .truth b, _ => by cases b <;> (show (codes _).length ≤ 210; decide)
  | .null, _ => by show (codes "null").length ≤ 210; decide
  | .name l, h => by
    have h : l.length ≤ 21 := name_len h
    show l.length ≤ 210
    omega
  | .field l m, h => by
    have h1 : l.length ≤ 21 := name_len h.1
    have h2 : m.length ≤ 21 := name_len h.2
    show (l ++ 46 :: m).length ≤ 210
    simp only [List.length_cons, List.length_append]
    omega
  | .neg a, h => by
    have := pr_len a h
    have p := par_len (decide (a.lev < 7)) a.pr
    show (45 :: par _ a.pr).length ≤ 3 * mx a.ht + 30
    simp only [List.length_cons]
    omega
  | .nt a, h => by
    have := pr_len a h
    have p := par_len (decide (a.lev < 3)) a.pr
    show (codes "not " ++ par _ a.pr).length ≤ 3 * mx a.ht + 30
    rw [List.length_append, show (codes "not ").length = 4 by decide]
    omega
  | .bin o a b, h => by
    have := Nat.le_trans (pr_len a h.1) (mx_mono (Nat.le_max_left a.ht b.ht))
    have := Nat.le_trans (pr_len b h.2) (mx_mono (Nat.le_max_right a.ht b.ht))
    have := par_len (decide (a.lev < o.lf)) a.pr
    have := par_len (decide (b.lev < o.rt)) b.pr
    have := o.sl
    show (par _ a.pr ++ 32 :: (codes o.s ++ 32 :: par _ b.pr)).length ≤ 3 * mx (max a.ht b.ht) + 30
    simp only [List.length_cons, List.length_append]
    omega
  | .f1 m a, h => by
    have := pr_len a h
    have := f1l m
    show (codes (f1s m) ++ 40 :: (a.pr ++ [41])).length ≤ 3 * mx a.ht + 30
    simp only [List.length_cons, List.length_append, List.length_nil]
    omega
  | .f2 m a b, h => by
    have := Nat.le_trans (pr_len a h.1) (mx_mono (Nat.le_max_left a.ht b.ht))
    have := Nat.le_trans (pr_len b h.2) (mx_mono (Nat.le_max_right a.ht b.ht))
    have := f2l m
    show (codes (f2s m) ++ 40 :: (a.pr ++ 44 :: 32 :: (b.pr ++ [41]))).length ≤ 3 * mx (max a.ht b.ht) + 30
    simp only [List.length_cons, List.length_append, List.length_nil]
    omega
  | .f3 a b c, h => by
    have := Nat.le_trans (pr_len a h.1) (mx_mono (Nat.le_max_left a.ht (max b.ht c.ht)))
    have := Nat.le_trans (pr_len b h.2.1) (mx_mono (Nat.le_trans (Nat.le_max_left b.ht c.ht) (Nat.le_max_right a.ht (max b.ht c.ht))))
    have := Nat.le_trans (pr_len c h.2.2) (mx_mono (Nat.le_trans (Nat.le_max_right b.ht c.ht) (Nat.le_max_right a.ht (max b.ht c.ht))))
    show (codes "if" ++ 40 :: (a.pr ++ 44 :: 32 :: (b.pr ++ 44 :: 32 :: (c.pr ++ [41])))).length ≤ 3 * mx (max a.ht (max b.ht c.ht)) + 30
    simp only [List.length_cons, List.length_append, List.length_nil, show (codes "if").length = 2 by decide]
    omega
theorem pr_le {e : Ex} (h : e.ok) (ht : e.ht ≤ 8) : e.pr.length ≤ 1500000 := Nat.le_trans (pr_len e h) (Nat.le_trans (mx_mono ht) (by decide))

/-! ### words and parts of expressions -/
def Ex.isl : Ex → Bool
  | .num _ => true | .text _ => true | .truth _ => true | .null => true | .name _ => true | .field _ _ => true | _ => false
/-- the word of an expression -/
def Ex.wd : Ex → Str
  | .num _ => "number" | .text _ => "text" | .truth _ => "truth" | .null => "null" | .name _ => "name" | .field _ _ => "field" | .neg _ => "negate" | .nt _ => "not"
  | .bin o _ _ => o.w | .f1 m _ => Str.ofString (f1s m) | .f2 m _ _ => Str.ofString (f2s m) | .f3 _ _ _ => "if"
theorem wne (a b : String) (h : (Str.ofString a == Str.ofString b) = false) : decide (V.str (Str.ofString a) = V.str (Str.ofString b)) = false := by
  refine decide_eq_false fun e => ?_
  rw [V.str.inj e] at h
  have : (Str.ofString b == Str.ofString b) = true := beq_self_eq_true _
  rw [this] at h
  cases h
theorem weq (a : Str) : decide (V.str a = V.str a) = true := decide_eq_true rfl
def Bop.isn (o : Bop) (x : String) : (Str.ofString o.s == Str.ofString x) = false → decide (V.str o.w = V.str (Str.ofString x)) = false := wne _ _
theorem wd_not (e : Ex) : decide (V.str e.wd = V.str "not") = (match e with | .nt _ => true | _ => false) := by
  cases e with
  | bin o a b => exact o.isn "not" (by cases o <;> decide +kernel)
  | f1 m a => exact wne _ "not" (by cases m <;> decide +kernel)
  | f2 m a b => exact wne _ "not" (by cases m <;> decide +kernel)
  | nt a => exact weq _
  | num n => exact wne "number" "not" (by decide +kernel)
  | text n => exact wne "text" "not" (by decide +kernel)
  | truth n => exact wne "truth" "not" (by decide +kernel)
  | null => exact wne "null" "not" (by decide +kernel)
  | name n => exact wne "name" "not" (by decide +kernel)
  | field n m => exact wne "field" "not" (by decide +kernel)
  | neg n => exact wne "negate" "not" (by decide +kernel)
  | f3 a b c => exact wne "if" "not" (by decide +kernel)
theorem wd_neg (e : Ex) : decide (V.str e.wd = V.str "negate") = (match e with | .neg _ => true | _ => false) := by
  cases e with
  | bin o a b => exact o.isn "negate" (by cases o <;> decide +kernel)
  | f1 m a => exact wne _ "negate" (by cases m <;> decide +kernel)
  | f2 m a b => exact wne _ "negate" (by cases m <;> decide +kernel)
  | neg a => exact weq _
  | num n => exact wne "number" "negate" (by decide +kernel)
  | text n => exact wne "text" "negate" (by decide +kernel)
  | truth n => exact wne "truth" "negate" (by decide +kernel)
  | null => exact wne "null" "negate" (by decide +kernel)
  | name n => exact wne "name" "negate" (by decide +kernel)
  | field n m => exact wne "field" "negate" (by decide +kernel)
  | nt n => exact wne "not" "negate" (by decide +kernel)
  | f3 a b c => exact wne "if" "negate" (by decide +kernel)

section
variable {K : PySem.W.Frag}
/-- a tuple's word and the rest -/
theorem dp_tup {H : Hp} {p : V} {ds : List PyData} (h : Dp K H p (.tuple ds)) : ∃ a xs, p = .ref a ∧ SqT K H a xs ∧ DpAll K H xs ds := by
  cases h with
  | tup hs ha => exact ⟨_, _, rfl, hs, ha⟩
theorem dp_two {H : Hp} {xs : List V} {s : Str} {d : PyData} (h : DpAll K H xs [.str s, d]) : ∃ v, xs = [.str s, v] ∧ Dp K H v d := by
  cases h with
  | cons h1 h2 =>
    cases h1
    cases h2 with
    | cons h3 h4 =>
      cases h4
      exact ⟨_, rfl, h3⟩
theorem dp_three {H : Hp} {xs : List V} {s : Str} {d e : PyData} (h : DpAll K H xs [.str s, d, e]) : ∃ v u, xs = [.str s, v, u] ∧ Dp K H v d ∧ Dp K H u e := by
  cases h with
  | cons h1 h2 =>
    cases h1
    cases h2 with
    | cons h3 h4 =>
      cases h4 with
      | cons h5 h6 =>
        cases h6
        exact ⟨_, _, rfl, h3, h5⟩
theorem dp_four {H : Hp} {xs : List V} {s : Str} {d e f : PyData} (h : DpAll K H xs [.str s, d, e, f]) : ∃ v u t, xs = [.str s, v, u, t] ∧ Dp K H v d ∧ Dp K H u e ∧ Dp K H t f := by
  cases h with
  | cons h1 h2 =>
    cases h1
    obtain ⟨v, h⟩ : ∃ v, True := ⟨V.non, trivial⟩
    cases h2 with
    | cons h3 h4 =>
      cases h4 with
      | cons h5 h6 =>
        cases h6 with
        | cons h7 h8 =>
          cases h8
          exact ⟨_, _, _, rfl, h3, h5, h7⟩
theorem dp_cons {H : Hp} {xs : List V} {s : Str} {ds : List PyData} (h : DpAll K H xs (.str s :: ds)) : ∃ vs, xs = .str s :: vs ∧ DpAll K H vs ds := by
  cases h with
  | cons h1 h2 =>
    cases h1
    exact ⟨_, rfl, h2⟩
theorem ex_word {H : Hp} {p : V} {e : Ex} (h : Dp K H p e.d) : ∃ a ys, p = .ref a ∧ SqT K H a (.str e.wd :: ys) := by
  have key : ∀ (s : Str) (ds : List PyData), Dp K H p (.tuple (.str s :: ds)) → ∃ a ys, p = .ref a ∧ SqT K H a (.str s :: ys) := fun s ds h => by
    obtain ⟨a, xs, rfl, hs, ha⟩ := dp_tup h
    cases ha with
    | cons h1 h2 =>
      cases h1
      exact ⟨_, _, rfl, hs⟩
  cases e <;> exact key _ _ h
end
/-! f-strings, step by step -/
theorem js_f {ts : List TE} {σ : L2.St} {H : Hp} {Q : Str → Hp → Prop} {L l : List Nat} {R : Prop} (hl : (L ++ l).length ≤ 5000000) (k : tJs ts ⟨(L ++ l).toArray⟩ σ H Q) :
    (∃ y : Str, V.str ⟨l.toArray⟩ = .str y ∧ y.length ≤ sizeLine ∧ ∃ y' : Str, V.str y = .str y' ∧ ((⟨L.toArray⟩ : Str) ++ y').length ≤ sizeLine ∧ tJs ts ((⟨L.toArray⟩ : Str) ++ y') σ H Q) ∨ R := by
  have e : (⟨L.toArray⟩ : Str) ++ ⟨l.toArray⟩ = ⟨(L ++ l).toArray⟩ := SX.S_cat L l
  have hs : (5000000 : Nat) ≤ sizeLine := by decide
  refine .inl ⟨_, rfl, ?_, _, rfl, ?_, ?_⟩
  · rw [S_len']
    rw [List.length_append] at hl
    omega
  · rw [e, S_len']
    exact Nat.le_trans hl hs
  · rw [e]
    exact k
theorem js_c {ts : List TE} {σ : L2.St} {H : Hp} {Q : Str → Hp → Prop} {L : List Nat} {x : Str} (l : List Nat) (hx : x = ⟨l.toArray⟩) (hl : (L ++ l).length ≤ 5000000) (k : tJs ts ⟨(L ++ l).toArray⟩ σ H Q) : tJs (tC (.str x) :: ts) ⟨L.toArray⟩ σ H Q := by
  subst hx
  have e : (⟨L.toArray⟩ : Str) ++ ⟨l.toArray⟩ = ⟨(L ++ l).toArray⟩ := SX.S_cat L l
  have hs : (5000000 : Nat) ≤ sizeLine := by decide
  refine ⟨_, rfl, ?_, ?_⟩
  · rw [e, S_len']
    exact Nat.le_trans hl hs
  · rw [e]
    exact k
/-! calls of functions -/
def Ex.isf : Ex → Bool
  | .f1 _ _ => true | .f2 _ _ _ => true | .f3 _ _ _ => true | _ => false
def Ex.fargs : Ex → List Ex
  | .f1 _ a => [a] | .f2 _ a b => [a, b] | .f3 a b c => [a, b, c] | _ => []
theorem fn_d {e : Ex} (h : e.isf = true) : e.d = .tuple (.str e.wd :: e.fargs.map Ex.d) := by cases e <;> first | rfl | cases h
theorem fn_pr {e : Ex} (h : e.isf = true) : e.pr = e.wd.cps.toList ++ 40 :: (TL.joinL [44, 32] (e.fargs.map Ex.pr) ++ [41]) := by
  cases e with
  | f1 m a =>
    rfl
  | f2 m a b =>
    show codes (f2s m) ++ 40 :: (a.pr ++ 44 :: 32 :: (b.pr ++ [41])) = codes (f2s m) ++ 40 :: ((a.pr ++ ([44, 32] ++ b.pr)) ++ [41])
    simp
  | f3 a b c =>
    show codes "if" ++ 40 :: (a.pr ++ 44 :: 32 :: (b.pr ++ 44 :: 32 :: (c.pr ++ [41]))) = codes "if" ++ 40 :: ((a.pr ++ ([44, 32] ++ (b.pr ++ ([44, 32] ++ c.pr)))) ++ [41])
    simp
  | _ => cases h
theorem fn_all {e : Ex} (h : e.isf = true) (ok : e.ok) : ∀ x ∈ e.fargs, x.ok ∧ x.ht < e.ht := by
  cases e with
  | f1 m a =>
    intro x hx
    rw [List.mem_singleton.mp hx]
    exact ⟨ok, Nat.lt_succ_self _⟩
  | f2 m a b =>
    intro x hx
    rcases List.mem_cons.mp hx with rfl | hx
    · exact ⟨ok.1, by show x.ht < max x.ht b.ht + 1; omega⟩
    · rw [List.mem_singleton.mp hx]
      exact ⟨ok.2, by show b.ht < max a.ht b.ht + 1; omega⟩
  | f3 a b c =>
    intro x hx
    rcases List.mem_cons.mp hx with rfl | hx
    · exact ⟨ok.1, by show x.ht < max x.ht (max b.ht c.ht) + 1; omega⟩
    · rcases List.mem_cons.mp hx with rfl | hx
      · exact ⟨ok.2.1, by show x.ht < max a.ht (max x.ht c.ht) + 1; omega⟩
      · rw [List.mem_singleton.mp hx]
        exact ⟨ok.2.2, by show c.ht < max a.ht (max b.ht c.ht) + 1; omega⟩
  | _ => cases h
theorem fn_few {e : Ex} (h : e.isf = true) : 1 ≤ e.fargs.length ∧ e.fargs.length ≤ 3 := by
  cases e with
  | f1 m a => exact ⟨Nat.le_refl 1, (by decide : 1 ≤ 3)⟩
  | f2 m a b => exact ⟨(by decide : 1 ≤ 2), (by decide : 2 ≤ 3)⟩
  | f3 a b c => exact ⟨(by decide : 1 ≤ 3), (by decide : 3 ≤ 3)⟩
  | _ => cases h
theorem fn_wd {e : Ex} (h : e.isf = true) : e.wd.length ≤ 8 ∧ (e.wd = "missing" ∨ e.wd = "length" ∨ e.wd = "starts" ∨ e.wd = "coalesce" ∨ e.wd = "if") := by
  cases e with
  | f1 m a => cases m; exact ⟨(by decide : (Str.ofString "length").length ≤ 8), .inr (.inl rfl)⟩; exact ⟨(by decide : (Str.ofString "missing").length ≤ 8), .inl rfl⟩
  | f2 m a b => cases m; exact ⟨(by decide : (Str.ofString "coalesce").length ≤ 8), .inr (.inr (.inr (.inl rfl)))⟩; exact ⟨(by decide : (Str.ofString "starts").length ≤ 8), .inr (.inr (.inl rfl))⟩
  | f3 a b c => exact ⟨(by decide : (Str.ofString "if").length ≤ 8), .inr (.inr (.inr (.inr rfl)))⟩
  | _ => cases h
theorem sum_pr : ∀ es : List Ex, (∀ x ∈ es, x.ok ∧ x.ht ≤ 8) → ((es.map fun e => (⟨e.pr.toArray⟩ : Str)).map (·.length)).sum ≤ es.length * 1500000
  | [], _ => Nat.le_refl _
  | e :: es, h => by
    have h1 := h e (List.mem_cons_self ..)
    have := pr_le h1.1 h1.2
    have := sum_pr es fun x hx => h x (List.mem_cons_of_mem _ hx)
    rw [List.map_cons, List.map_cons, List.sum_cons, S_len', List.length_cons]
    omega
theorem join_pr (es : List Ex) : Txt.join (Str.ofString ", ") (es.map fun e => (⟨e.pr.toArray⟩ : Str)) = ⟨(TL.joinL [44, 32] (es.map Ex.pr)).toArray⟩ := by
  have := SX.join_S [44, 32] (es.map Ex.pr)
  rw [List.map_map] at this
  exact this

/-! ### a written token, a gap behind it -/
def GapHd (g : List Nat) : Prop := ∀ c r, g = c :: r → c ∉ LET ++ DIG ∧ c ≠ 39 ∧ c ≠ 61
/-- written so, whatever gap is behind it -/
def TokOk (kv : Kv) (wr : List Nat) : Prop := (∃ c r, wr = c :: r ∧ isBl c = false ∧ c ≠ 35) ∧ wr.length ≤ 210 ∧ ∀ g, GapHd g → tok (wr ++ g) = some (kv, g)
theorem run_app (m wr g : List Nat) (h : ∀ x ∈ wr, x ∈ m) (hg : ∀ c r, g = c :: r → c ∉ m) : runOf m (wr ++ g) = wr := by
  induction wr with
  | nil =>
    cases g with
    | nil => rfl
    | cons c r =>
      have hc := hg c r rfl
      unfold runOf
      rw [List.nil_append, List.takeWhile_cons_of_neg (by simpa using hc)]
  | cons x wr ih =>
    have ih := ih fun y hy => h y (List.mem_cons_of_mem _ hy)
    unfold runOf at ih ⊢
    rw [List.cons_append, List.takeWhile_cons_of_pos (by simpa using h x (List.mem_cons_self ..)), ih]
theorem LET_bl : ∀ c ∈ LET, isBl c = false ∧ c ≠ 35 := by decide +kernel
theorem DIG_bl : ∀ c ∈ DIG, isBl c = false ∧ c ≠ 35 := by decide +kernel
theorem DIG_LET : ∀ c ∈ DIG, c ∉ LET := by decide +kernel
theorem tok_name {l : List Nat} (h : NameOk l) : TokOk (.word l) l := by
  obtain ⟨c, r, rfl, hc, hr, hl⟩ := h
  refine ⟨⟨c, r, rfl, LET_bl c hc⟩, by omega, fun g hg => ?_⟩
  have e : runOf (LET ++ DIG) ((c :: r) ++ g) = c :: r := run_app _ _ _ (fun z hz => by
    rcases List.mem_cons.mp hz with rfl | hz
    · exact List.mem_append_left _ hc
    · exact hr z hz) fun x y e => (hg x y e).1
  show tokC c (r ++ g) = _
  unfold tokC
  rw [← List.cons_append, e, if_pos hc, if_pos hl, List.drop_left]
theorem tok_num {l : List Nat} {n : Nat} (h0 : l ≠ []) (h : ∀ x ∈ l, x ∈ DIG) (hl : l.length ≤ 15) (hn : NumText.digitsVal l = n) : TokOk (.num n) l := by
  obtain ⟨c, r, rfl⟩ : ∃ c r, l = c :: r := by
    cases l with
    | nil => exact absurd rfl h0
    | cons c r => exact ⟨c, r, rfl⟩
  have hc := h c (List.mem_cons_self ..)
  refine ⟨⟨c, r, rfl, DIG_bl c hc⟩, by omega, fun g hg => ?_⟩
  have e : runOf DIG ((c :: r) ++ g) = c :: r := run_app _ _ _ h fun x y e z => (hg x y e).1 (List.mem_append_right _ z)
  show tokC c (r ++ g) = _
  unfold tokC
  rw [← List.cons_append, e, if_neg (DIG_LET c hc), if_pos hc, if_pos hl, List.drop_left, hn]
theorem te_app : ∀ (v g : List Nat), (∀ x ∈ v, x ≠ 10) → (∀ c r, g = c :: r → c ≠ 39) → te (dbl v ++ (39 :: g)) = some g
  | [], g, _, hg => by
    show te (39 :: g) = _
    unfold te
    rw [if_neg (by decide), if_pos rfl]
    split
    · exact absurd rfl (hg 39 _ rfl)
    · rfl
  | x :: v, g, h, hg => by
    have ih := te_app v g (fun y hy => h y (List.mem_cons_of_mem _ hy)) hg
    have hx := h x (List.mem_cons_self ..)
    unfold dbl
    by_cases h39 : x = 39
    · rw [if_pos h39]
      show te (39 :: 39 :: (dbl v ++ 39 :: g)) = _
      unfold te
      rw [if_neg (by decide), if_pos rfl]
      exact ih
    · rw [if_neg h39]
      show te (x :: (dbl v ++ 39 :: g)) = _
      unfold te
      rw [if_neg hx, if_neg h39]
      exact ih
theorem tok_text {v : List Nat} (h : ∀ x ∈ v, x ∈ CHS) (hl : v.length ≤ 100) : TokOk (.text v) (39 :: (dbl v ++ [39])) := by
  have hd := dbl_len v
  refine ⟨⟨39, _, rfl, rfl, by decide⟩, by simp only [List.length_cons, List.length_append, List.length_nil]; omega, fun g hg => ?_⟩
  have et : te (dbl v ++ (39 :: g)) = some g := te_app v g (fun z hz => CHS_nl z (h z hz)) fun x y e => (hg x y e).2.1
  have e0 : 39 :: (dbl v ++ [39]) ++ g = 39 :: (dbl v ++ (39 :: g)) := by simp
  rw [e0]
  show tokC 39 (dbl v ++ (39 :: g)) = _
  unfold tokC
  rw [if_neg (by decide +kernel), if_neg (by decide +kernel), if_pos rfl, et]
  have er : (dbl v ++ (39 :: g)).take ((dbl v ++ (39 :: g)).length - g.length - 1) = dbl v := by
    have : (dbl v ++ (39 :: g)).length - g.length - 1 = (dbl v).length := by
      simp only [List.length_append, List.length_cons]
      omega
    rw [this, List.take_left]
  dsimp only
  rw [er, und_dbl', if_pos hl]
theorem tok_sign {g : List Nat} (h : g ∈ SGN) : TokOk (.sign g) g := by
  have hh : (∃ c r, g = c :: r ∧ isBl c = false ∧ c ≠ 35 ∧ c ∉ LET ∧ c ∉ DIG ∧ c ≠ 39) ∧ g.length ≤ 2 := by
    revert g
    have : ∀ g ∈ SGN, (match g with | [] => false | c :: r => !isBl c && decide (c ≠ 35) && decide (c ∉ LET) && decide (c ∉ DIG) && decide (c ≠ 39)) = true ∧ g.length ≤ 2 := by decide +kernel
    intro g hg
    obtain ⟨h1, h2⟩ := this g hg
    cases g with
    | nil => cases h1
    | cons c r =>
      simp only [Bool.and_eq_true, Bool.not_eq_true', decide_eq_true_eq] at h1
      exact ⟨⟨c, r, rfl, h1.1.1.1.1, h1.1.1.1.2, h1.1.1.2, h1.1.2, h1.2⟩, h2⟩
  obtain ⟨⟨c, r, rfl, b1, b2, b3, b4, b5⟩, hl⟩ := hh
  refine ⟨⟨c, r, rfl, b1, b2⟩, by omega, fun k hk => ?_⟩
  show tokC c (r ++ k) = _
  unfold tokC
  rw [if_neg b3, if_neg b4, if_neg b5, ← List.cons_append]
  have e : SGN.find? (fun g => g.isPrefixOf ((c :: r) ++ k)) = some (c :: r) := by
    generalize hg : c :: r = g at h
    clear hg b1 b2 b3 b4 b5 hl
    simp only [SGN, List.mem_cons, List.not_mem_nil, or_false] at h
    cases k with
    | nil => rcases h with rfl | rfl | rfl | rfl | rfl | rfl | rfl | rfl | rfl | rfl | rfl | rfl | rfl | rfl <;> decide
    | cons x y =>
      have hx := (hk x y rfl).2.2
      have hx' : (61 == x) = false := by simpa using fun z : 61 = x => hx z.symm
      rcases h with rfl | rfl | rfl | rfl | rfl | rfl | rfl | rfl | rfl | rfl | rfl | rfl | rfl | rfl <;> simp [SGN, List.isPrefixOf, hx']
  rw [e]
  dsimp only
  rw [List.drop_left]
theorem res_name : ∀ x ∈ RES, NameOk x.cps.toList := by
  have : ∀ x ∈ RES, (match x.cps.toList with | [] => false | c :: r => decide (c ∈ LET) && r.all (fun y => decide (y ∈ LET ++ DIG)) && decide ((c :: r).length ≤ 20)) = true := by decide +kernel
  intro x hx
  have h := this x hx
  cases e : x.cps.toList with
  | nil => rw [e] at h; cases h
  | cons c r =>
    rw [e] at h
    simp only [Bool.and_eq_true, decide_eq_true_eq, List.all_eq_true] at h
    exact ⟨c, r, rfl, h.1.1, h.1.2, h.2⟩
theorem num_dig (n : Nat) : ∀ x ∈ TL.numL n, x ∈ DIG := fun x hx => by
  have h := TL.numL_digits n x hx
  have : ∀ k, k < 10 → (48 + k) ∈ DIG := by decide +kernel
  have h2 := this (x - 48) (by omega)
  rwa [show 48 + (x - 48) = x by omega] at h2
def kvV : Kv → V
  | .word l => .str ⟨l.toArray⟩
  | .num n => .int n
  | .text l => .str ⟨l.toArray⟩
  | .sign l => .str ⟨l.toArray⟩
theorem val_dp {K : PySem.W.Frag} {H : Hp} (kv : Kv) : Dp K H (kvV kv) kv.val := by
  cases kv with
  | word l => exact .str _
  | num n => exact .int _
  | text l => exact .str _
  | sign l => exact .str _

/-! ### expressions as tokens, and how they are read -/
def wK (s : String) : Kv := .word (codes s)
def sK (s : String) : Kv := .sign (codes s)
def isRes (l : List Nat) : Bool := decide ((⟨l.toArray⟩ : Str) ∈ RES)
def ahOf : List Kv → List Nat
  | .sign g :: _ => g
  | .word l :: _ => if isRes l = true then l else []
  | _ => []
def kdOf : List Kv → Str
  | [] => "end"
  | .word l :: _ => if isRes l = true then "reserved" else "name"
  | kv :: _ => kv.kd
theorem res_is {s : String} (h : isRes (codes s) = true) : isRes (codes s) = true := h
theorem nm_not {l : List Nat} (h : NmOk l) : isRes l = false := decide_eq_false h.2
def Bop.k : Bop → Kv
  | .or => wK "or" | .and => wK "and" | .div => wK "div" | .mod => wK "mod"
  | o => .sign (codes o.s)
theorem Bop.ah (o : Bop) (r : List Kv) : ahOf (o.k :: r) = codes o.s := by
  cases o <;> first | rfl | (show (if isRes (codes _) = true then codes _ else []) = codes _; rw [if_pos (by decide +kernel)]; rfl)
def leafT : Ex → Option (List Kv)
  | .num n => some [.num n]
  | .text l => some [.text l]
  | .truth b => some [wK (if b = true then "true" else "false")]
  | .null => some [wK "null"]
  | .name l => some [.word l]
  | .field l m => some [.word l, sK ".", .word m]
  | _ => none
/-- arguments with commas between them -/
def cj : List (List Kv) → List Kv
  | [] => []
  | [t] => t
  | t :: u :: ts => t ++ sK "," :: cj (u :: ts)
/-- these tokens are an expression on this step of the grammar, so deep within one another -/
inductive Gx : Nat → Nat → Ex → List Kv → Prop
  | leaf {n : Nat} {e : Ex} {ts : List Kv} : leafT e = some ts → e.ok → Gx n 8 e ts
  | par {n : Nat} {e : Ex} {ts : List Kv} : Gx n 1 e ts → Gx (n + 1) 8 e (sK "(" :: (ts ++ [sK ")"]))
  | call {n : Nat} {e : Ex} {tss : List (List Kv)} : e.isf = true → tss.length = e.fargs.length → (∀ (j : Nat) (x : Ex) (t : List Kv), e.fargs[j]? = some x → tss[j]? = some t → Gx n 1 x t) → Gx (n + 1) 8 e (.word e.wd.cps.toList :: sK "(" :: (cj tss ++ [sK ")"]))
  | neg {n : Nat} {a : Ex} {ts : List Kv} : Gx n 7 a ts → Gx (n + 1) 7 (.neg a) (sK "-" :: ts)
  | nt {n : Nat} {a : Ex} {ts : List Kv} : Gx n 3 a ts → Gx (n + 1) 3 (.nt a) (wK "not" :: ts)
  | bin {n : Nat} {o : Bop} {a b : Ex} {ta tb : List Kv} : Gx n o.lf a ta → Gx n o.rt b tb → Gx n o.lv (.bin o a b) (ta ++ o.k :: tb)
  | up {n k : Nat} {e : Ex} {ts : List Kv} : 1 ≤ k → k ≤ 7 → Gx n (k + 1) e ts → Gx n k e ts
theorem Gx.mono {n k : Nat} {e : Ex} {ts : List Kv} (h : Gx n k e ts) : ∀ {m : Nat}, n ≤ m → Gx m k e ts := by
  induction h with
  | leaf h ok => exact fun _ => .leaf h ok
  | @par n e ts _ ih =>
    intro m hm
    obtain ⟨j, rfl⟩ : ∃ j, m = j + 1 := ⟨m - 1, by omega⟩
    exact .par (ih (by omega))
  | @call n e tss hf hl _ ih =>
    intro m hm
    obtain ⟨j, rfl⟩ : ∃ j, m = j + 1 := ⟨m - 1, by omega⟩
    exact .call hf hl fun i x t h1 h2 => ih i x t h1 h2 (by omega)
  | neg _ ih =>
    intro m hm
    obtain ⟨j, rfl⟩ : ∃ j, m = j + 1 := ⟨m - 1, by omega⟩
    exact .neg (ih (by omega))
  | nt _ ih =>
    intro m hm
    obtain ⟨j, rfl⟩ : ∃ j, m = j + 1 := ⟨m - 1, by omega⟩
    exact .nt (ih (by omega))
  | bin _ _ ih1 ih2 => exact fun hm => .bin (ih1 hm) (ih2 hm)
  | up h1 h2 _ ih => exact fun hm => .up h1 h2 (ih hm)
theorem Gx.to {n : Nat} {e : Ex} {ts : List Kv} : ∀ {k j : Nat}, Gx n k e ts → 1 ≤ j → j ≤ k → k ≤ 8 → Gx n j e ts
  | k, j, h, h1, h2, h3 => by
    by_cases e : j = k
    · rw [e]
      exact h
    · obtain ⟨k', rfl⟩ : ∃ k', k = k' + 1 := ⟨k - 1, by omega⟩
      exact Gx.to (k := k') (.up (by omega) (by omega) h) h1 (by omega) (by omega)
  termination_by k => k
def pT (b : Bool) (ts : List Kv) : List Kv := if b = true then sK "(" :: (ts ++ [sK ")"]) else ts
def tkC : Ex → List Kv
  | .neg a => sK "-" :: pT (decide (a.lev < 7)) (tkC a)
  | .nt a => wK "not" :: pT (decide (a.lev < 3)) (tkC a)
  | .bin o a b => pT (decide (a.lev < o.lf)) (tkC a) ++ o.k :: pT (decide (b.lev < o.rt)) (tkC b)
  | .f1 m a => .word (codes (f1s m)) :: sK "(" :: (cj [tkC a] ++ [sK ")"])
  | .f2 m a b => .word (codes (f2s m)) :: sK "(" :: (cj [tkC a, tkC b] ++ [sK ")"])
  | .f3 a b c => .word (codes "if") :: sK "(" :: (cj [tkC a, tkC b, tkC c] ++ [sK ")"])
  | e => (leafT e).getD []
def tkF : Ex → List Kv
  | .neg a => sK "-" :: pT true (tkF a)
  | .nt a => wK "not" :: pT true (tkF a)
  | .bin o a b => pT true (tkF a) ++ o.k :: pT true (tkF b)
  | .f1 m a => .word (codes (f1s m)) :: sK "(" :: (cj [tkF a] ++ [sK ")"])
  | .f2 m a b => .word (codes (f2s m)) :: sK "(" :: (cj [tkF a, tkF b] ++ [sK ")"])
  | .f3 a b c => .word (codes "if") :: sK "(" :: (cj [tkF a, tkF b, tkF c] ++ [sK ")"])
  | e => (leafT e).getD []
theorem lev_le (e : Ex) : 1 ≤ e.lev ∧ e.lev ≤ 8 := by
  cases e with
  | bin o a b =>
    show 1 ≤ o.lv ∧ o.lv ≤ 8
    cases o <;> decide
  | _ => first | exact (by decide : 1 ≤ 8 ∧ 8 ≤ 8) | exact (by decide : 1 ≤ 3 ∧ 3 ≤ 8) | exact (by decide : 1 ≤ 7 ∧ 7 ≤ 8)
theorem lf_le (o : Bop) : 1 ≤ o.lf ∧ o.lf ≤ 8 ∧ 1 ≤ o.rt ∧ o.rt ≤ 8 := by cases o <;> decide
theorem Gx.p {n : Nat} {e : Ex} {ts : List Kv} (h : Gx n e.lev e ts) {j : Nat} (h1 : 1 ≤ j) (h8 : j ≤ 8) {b : Bool} (hb : b = false → j ≤ e.lev) : Gx (n + 1) j e (pT b ts) := by
  have hl := lev_le e
  cases b with
  | true => exact Gx.to (.par (Gx.to h (by decide) hl.1 hl.2)) h1 h8 (by decide)
  | false => exact Gx.to (h.mono (Nat.le_succ n)) h1 (hb rfl) hl.2
theorem nlt {a b : Nat} (h : decide (a < b) = false) : b ≤ a := by
  have := of_decide_eq_false h
  omega
theorem Gx.calls {n : Nat} {e : Ex} {tss : List (List Kv)} (f : e.isf = true) (hl : tss.length = e.fargs.length) (h : ∀ p ∈ e.fargs.zip tss, Gx n p.1.lev p.1 p.2) : Gx (n + 1) 8 e (.word e.wd.cps.toList :: sK "(" :: (cj tss ++ [sK ")"])) :=
  .call f hl fun j x t hx ht => by
    have := lev_le x
    exact Gx.to (h (x, t) (List.mem_of_getElem? (i := j) (by rw [List.getElem?_zip_eq_some]; exact ⟨hx, ht⟩))) (by decide) this.1 this.2
theorem tkC_G : ∀ e : Ex, e.ok → ∀ n, 2 * e.ht ≤ n → Gx n e.lev e (tkC e)
  | .num _, h, _, _ => .leaf rfl h
  | .text _, h, _, _ => .leaf rfl h
  | .truth _, h, _, _ => .leaf rfl h
  | .null, h, _, _ => .leaf rfl h
  | .name _, h, _, _ => .leaf rfl h
  | .field _ _, h, _, _ => .leaf rfl h
  | .neg a, h, n, hn => by
    have hn : 2 * (a.ht + 1) ≤ n := hn
    obtain ⟨j, rfl⟩ : ∃ j, n = j + 1 + 1 := ⟨n - 2, by omega⟩
    exact .neg ((tkC_G a h j (by omega)).p (by decide) (by decide) nlt)
  | .nt a, h, n, hn => by
    have hn : 2 * (a.ht + 1) ≤ n := hn
    obtain ⟨j, rfl⟩ : ∃ j, n = j + 1 + 1 := ⟨n - 2, by omega⟩
    exact .nt ((tkC_G a h j (by omega)).p (by decide) (by decide) nlt)
  | .bin o a b, h, n, hn => by
    have hn : 2 * (max a.ht b.ht + 1) ≤ n := hn
    obtain ⟨j, rfl⟩ : ∃ j, n = j + 1 := ⟨n - 1, by omega⟩
    have l := lf_le o
    exact .bin ((tkC_G a h.1 j (by omega)).p l.1 l.2.1 nlt) ((tkC_G b h.2 j (by omega)).p l.2.2.1 l.2.2.2 nlt)
  | .f1 m a, h, n, hn => by
    have hn : 2 * (a.ht + 1) ≤ n := hn
    obtain ⟨j, rfl⟩ : ∃ j, n = j + 1 := ⟨n - 1, by omega⟩
    refine Gx.calls (e := .f1 m a) (tss := [tkC a]) rfl rfl fun p hp => ?_
    rw [List.mem_singleton.mp (show p ∈ [(a, tkC a)] from hp)]
    exact tkC_G a h j (by omega)
  | .f2 m a b, h, n, hn => by
    have hn : 2 * (max a.ht b.ht + 1) ≤ n := hn
    obtain ⟨j, rfl⟩ : ∃ j, n = j + 1 := ⟨n - 1, by omega⟩
    refine Gx.calls (e := .f2 m a b) (tss := [tkC a, tkC b]) rfl rfl fun p hp => ?_
    rcases List.mem_cons.mp (show p ∈ [(a, tkC a), (b, tkC b)] from hp) with rfl | hp
    · exact tkC_G a h.1 j (by omega)
    · rw [List.mem_singleton.mp hp]
      exact tkC_G b h.2 j (by omega)
  | .f3 a b c, h, n, hn => by
    have hn : 2 * (max a.ht (max b.ht c.ht) + 1) ≤ n := hn
    obtain ⟨j, rfl⟩ : ∃ j, n = j + 1 := ⟨n - 1, by omega⟩
    refine Gx.calls (e := .f3 a b c) (tss := [tkC a, tkC b, tkC c]) rfl rfl fun p hp => ?_
    rcases List.mem_cons.mp (show p ∈ [(a, tkC a), (b, tkC b), (c, tkC c)] from hp) with rfl | hp
    · exact tkC_G a h.1 j (by omega)
    · rcases List.mem_cons.mp hp with rfl | hp
      · exact tkC_G b h.2.1 j (by omega)
      · rw [List.mem_singleton.mp hp]
        exact tkC_G c h.2.2 j (by omega)
theorem tkF_G : ∀ e : Ex, e.ok → ∀ n, 2 * e.ht ≤ n → Gx n e.lev e (tkF e)
  | .num _, h, _, _ => .leaf rfl h
  | .text _, h, _, _ => .leaf rfl h
  | .truth _, h, _, _ => .leaf rfl h
  | .null, h, _, _ => .leaf rfl h
  | .name _, h, _, _ => .leaf rfl h
  | .field _ _, h, _, _ => .leaf rfl h
  | .neg a, h, n, hn => by
    have hn : 2 * (a.ht + 1) ≤ n := hn
    obtain ⟨j, rfl⟩ : ∃ j, n = j + 1 + 1 := ⟨n - 2, by omega⟩
    exact .neg ((tkF_G a h j (by omega)).p (by decide) (by decide) fun z => nomatch z)
  | .nt a, h, n, hn => by
    have hn : 2 * (a.ht + 1) ≤ n := hn
    obtain ⟨j, rfl⟩ : ∃ j, n = j + 1 + 1 := ⟨n - 2, by omega⟩
    exact .nt ((tkF_G a h j (by omega)).p (by decide) (by decide) fun z => nomatch z)
  | .bin o a b, h, n, hn => by
    have hn : 2 * (max a.ht b.ht + 1) ≤ n := hn
    obtain ⟨j, rfl⟩ : ∃ j, n = j + 1 := ⟨n - 1, by omega⟩
    have l := lf_le o
    exact .bin ((tkF_G a h.1 j (by omega)).p l.1 l.2.1 fun z => nomatch z) ((tkF_G b h.2 j (by omega)).p l.2.2.1 l.2.2.2 fun z => nomatch z)
  | .f1 m a, h, n, hn => by
    have hn : 2 * (a.ht + 1) ≤ n := hn
    obtain ⟨j, rfl⟩ : ∃ j, n = j + 1 := ⟨n - 1, by omega⟩
    refine Gx.calls (e := .f1 m a) (tss := [tkF a]) rfl rfl fun p hp => ?_
    rw [List.mem_singleton.mp (show p ∈ [(a, tkF a)] from hp)]
    exact tkF_G a h j (by omega)
  | .f2 m a b, h, n, hn => by
    have hn : 2 * (max a.ht b.ht + 1) ≤ n := hn
    obtain ⟨j, rfl⟩ : ∃ j, n = j + 1 := ⟨n - 1, by omega⟩
    refine Gx.calls (e := .f2 m a b) (tss := [tkF a, tkF b]) rfl rfl fun p hp => ?_
    rcases List.mem_cons.mp (show p ∈ [(a, tkF a), (b, tkF b)] from hp) with rfl | hp
    · exact tkF_G a h.1 j (by omega)
    · rw [List.mem_singleton.mp hp]
      exact tkF_G b h.2 j (by omega)
  | .f3 a b c, h, n, hn => by
    have hn : 2 * (max a.ht (max b.ht c.ht) + 1) ≤ n := hn
    obtain ⟨j, rfl⟩ : ∃ j, n = j + 1 := ⟨n - 1, by omega⟩
    refine Gx.calls (e := .f3 a b c) (tss := [tkF a, tkF b, tkF c]) rfl rfl fun p hp => ?_
    rcases List.mem_cons.mp (show p ∈ [(a, tkF a), (b, tkF b), (c, tkF c)] from hp) with rfl | hp
    · exact tkF_G a h.1 j (by omega)
    · rcases List.mem_cons.mp hp with rfl | hp
      · exact tkF_G b h.2.1 j (by omega)
      · rw [List.mem_singleton.mp hp]
        exact tkF_G c h.2.2 j (by omega)
/-! an operand and what follows it on the same step -/
theorem Gx.spine {n k : Nat} {e : Ex} {ts : List Kv} (h : Gx n k e ts) (hk : k = 1 ∨ k = 2 ∨ k = 5 ∨ k = 6) : ∃ (e0 : Ex) (t0 : List Kv) (ops : List (Bop × Ex × List Kv)), Gx n (k + 1) e0 t0 ∧ (∀ x ∈ ops, x.1.lv = k ∧ Gx n (k + 1) x.2.1 x.2.2) ∧
    ts = t0 ++ (ops.map fun x => x.1.k :: x.2.2).flatten ∧ e = ops.foldl (fun a x => .bin x.1 a x.2.1) e0 := by
  induction h with
  | leaf _ _ => omega
  | par _ _ => omega
  | call _ _ _ _ => omega
  | neg _ _ => omega
  | nt _ _ => omega
  | up _ _ h _ => exact ⟨_, _, [], h, (fun _ z => nomatch z), by simp, rfl⟩
  | @bin n o a b ta tb h1 h2 ih _ =>
    have e2 : o.lf = o.lv ∧ o.rt = o.lv + 1 := by cases o <;> first | exact ⟨rfl, rfl⟩ | (exfalso; revert hk; decide)
    rw [e2.1] at ih
    obtain ⟨e0, t0, ops, g0, ho, ht, he⟩ := ih hk
    refine ⟨e0, t0, ops ++ [(o, b, tb)], g0, fun x hx => ?_, ?_, ?_⟩
    · rcases List.mem_append.mp hx with hx | hx
      · exact ho x hx
      · rw [List.mem_singleton.mp hx]
        exact ⟨rfl, by rw [← e2.2]; exact h2⟩
    · rw [ht, List.map_append, List.flatten_append]
      simp
    · rw [List.foldl_append, he]
      rfl
/-! ### their texts, sign by sign -/
def LexTo (s : List Nat) (ks : List Kv) (tail : List Nat) : Prop := ∀ (n : Nat) (T : List (Kv × Nat)), Lx n (skip tail) T → ∃ ts : List (Kv × Nat), ts.map (·.1) = ks ∧ Lx n (skip (s ++ tail)) (ts ++ T)
theorem LexTo.app {a b : List Nat} {ka kb : List Kv} {tail : List Nat} (h1 : LexTo a ka (b ++ tail)) (h2 : LexTo b kb tail) : LexTo (a ++ b) (ka ++ kb) tail := fun n T hx => by
  obtain ⟨tb, e2, x2⟩ := h2 n T hx
  obtain ⟨ta, e1, x1⟩ := h1 n (tb ++ T) x2
  exact ⟨ta ++ tb, by rw [List.map_append, e1, e2], by rw [List.append_assoc, List.append_assoc]; exact x1⟩
theorem LexTo.one {w : List Nat} {kv : Kv} {tail : List Nat} (hw : ∃ c r, w = c :: r ∧ isBl c = false ∧ c ≠ 35) (h : tok (w ++ tail) = some (kv, tail)) : LexTo w [kv] tail := fun n T hx => by
  obtain ⟨c, r, rfl, h1, h2⟩ := hw
  refine ⟨[(kv, n - ((c :: r) ++ tail).length)], rfl, ?_⟩
  have e : skip ((c :: r) ++ tail) = (c :: r) ++ tail := by
    rw [List.cons_append, skip_cons, if_neg (by rw [h1]; exact Bool.false_ne_true), if_neg h2]
  rw [e]
  exact .cons h hx
theorem LexTo.sp (tail : List Nat) : LexTo [32] [] tail := fun n T hx => ⟨[], rfl, by
  rw [List.singleton_append, skip_cons, if_pos (show isBl 32 = true from rfl)]
  exact hx⟩
theorem LexTo.ok {kv : Kv} {w tail : List Nat} (h : TokOk kv w) (ht : GapHd tail) : LexTo w [kv] tail := .one h.1 (h.2.2 tail ht)
/-- a sign that no sign begins with but itself -/
theorem LexTo.sg {c : Nat} (h : c ∈ [40, 41, 59, 44, 46, 45, 43, 42]) (tail : List Nat) : LexTo [c] [.sign [c]] tail := by
  have b : isBl c = false ∧ c ≠ 35 ∧ c ∉ LET ∧ c ∉ DIG ∧ c ≠ 39 := by
    have : ∀ c ∈ [40, 41, 59, 44, 46, 45, 43, 42], isBl c = false ∧ c ≠ 35 ∧ c ∉ LET ∧ c ∉ DIG ∧ c ≠ 39 := by decide +kernel
    exact this c h
  refine .one ⟨c, [], rfl, b.1, b.2.1⟩ ?_
  show tokC c tail = _
  unfold tokC
  rw [if_neg b.2.2.1, if_neg b.2.2.2.1, if_neg b.2.2.2.2]
  have e : SGN.find? (fun g => g.isPrefixOf (c :: tail)) = some [c] := by
    simp only [List.mem_cons, List.not_mem_nil, or_false] at h
    rcases h with rfl | rfl | rfl | rfl | rfl | rfl | rfl | rfl <;> simp [SGN, List.isPrefixOf]
  rw [e]
  rfl
def OkT (tail : List Nat) : Prop := ∀ c r, tail = c :: r → c ∈ [32, 41, 44, 59, 9, 10]
theorem gapT {c : Nat} (h : c ∈ [32, 41, 44, 59, 40, 46, 9, 10]) (r : List Nat) : GapHd (c :: r) := fun c' r' e => by
  obtain ⟨rfl, _⟩ := List.cons.inj e
  have : ∀ c ∈ [32, 41, 44, 59, 40, 46, 9, 10], c ∉ LET ++ DIG ∧ c ≠ 39 ∧ c ≠ 61 := by decide +kernel
  exact this c h
theorem OkT.gap {tail : List Nat} (h : OkT tail) : GapHd tail := fun c r e => by
  have : ∀ c ∈ [32, 41, 44, 59, 9, 10], c ∉ LET ++ DIG ∧ c ≠ 39 ∧ c ≠ 61 := by decide +kernel
  exact this c (h c r e)
theorem OkT.c {c : Nat} (h : c ∈ [32, 41, 44, 59, 9, 10]) (r : List Nat) : OkT (c :: r) := fun c' r' e => by
  obtain ⟨rfl, _⟩ := List.cons.inj e
  exact h
theorem OkT.nil : OkT [] := fun _ _ e => nomatch e
def Lexs (s : List Nat) (ks : List Kv) : Prop := ∀ tail, OkT tail → LexTo s ks tail
theorem Lexs.par {s : List Nat} {ks : List Kv} (h : Lexs s ks) (b : Bool) : Lexs (par b s) (pT b ks) := fun tail ht => by
  cases b with
  | false => exact h tail ht
  | true =>
    show LexTo ([40] ++ (s ++ [41])) ([sK "("] ++ (ks ++ [sK ")"])) tail
    exact (LexTo.sg (by decide) _).app ((h _ (OkT.c (by decide) _)).app (LexTo.sg (by decide) _))
theorem op_lex (o : Bop) (tail : List Nat) : LexTo (codes o.s) [o.k] (32 :: tail) := by
  have g : GapHd (32 :: tail) := gapT (by decide) _
  have w : ∀ s : String, (Str.ofString s) ∈ RES → LexTo (codes s) [wK s] (32 :: tail) := fun s hs => LexTo.ok (tok_name (res_name _ hs)) g
  have t : ∀ s : String, codes s ∈ SGN → LexTo (codes s) [.sign (codes s)] (32 :: tail) := fun s hs => LexTo.ok (tok_sign hs) g
  cases o with
  | or => exact w "or" (by decide +kernel)
  | and => exact w "and" (by decide +kernel)
  | div => exact w "div" (by decide +kernel)
  | mod => exact w "mod" (by decide +kernel)
  | lt => exact t "<" (by decide +kernel)
  | le => exact t "<=" (by decide +kernel)
  | eq => exact t "=" (by decide +kernel)
  | ne => exact t "!=" (by decide +kernel)
  | ge => exact t ">=" (by decide +kernel)
  | gt => exact t ">" (by decide +kernel)
  | add => exact t "+" (by decide +kernel)
  | sub => exact t "-" (by decide +kernel)
  | mul => exact t "*" (by decide +kernel)
theorem Lexs.bin {sa sb : List Nat} {ka kb : List Kv} (o : Bop) (h1 : Lexs sa ka) (h2 : Lexs sb kb) : Lexs (sa ++ 32 :: (codes o.s ++ 32 :: sb)) (ka ++ o.k :: kb) := fun tail ht => by
  have e : sa ++ 32 :: (codes o.s ++ 32 :: sb) = sa ++ ([32] ++ (codes o.s ++ ([32] ++ sb))) := by simp
  rw [e, show ka ++ o.k :: kb = ka ++ ([] ++ ([o.k] ++ ([] ++ kb))) by simp]
  exact (h1 _ (OkT.c (by decide) _)).app ((LexTo.sp _).app ((show LexTo (codes o.s) [o.k] (([32] ++ sb) ++ tail) from op_lex o (sb ++ tail)).app ((LexTo.sp _).app (h2 _ ht))))
theorem word_lex {s : String} (hs : (Str.ofString s) ∈ RES) {c : Nat} (hc : c ∈ [32, 41, 44, 59, 40, 46, 9, 10]) (tail : List Nat) : LexTo (codes s) [.word (codes s)] (c :: tail) := LexTo.ok (tok_name (res_name _ hs)) (gapT hc _)
theorem f1_res (m : Bool) : Str.ofString (f1s m) ∈ RES := by cases m <;> decide +kernel
theorem f2_res (m : Bool) : Str.ofString (f2s m) ∈ RES := by cases m <;> decide +kernel
theorem Lexs.f1 {s : String} (hs : (Str.ofString s) ∈ RES) {a : List Nat} {ka : List Kv} (h : Lexs a ka) : Lexs (codes s ++ 40 :: (a ++ [41])) (.word (codes s) :: sK "(" :: (cj [ka] ++ [sK ")"])) := fun tail ht => by
  show LexTo (codes s ++ ([40] ++ (a ++ [41]))) ([.word (codes s)] ++ ([sK "("] ++ (ka ++ [sK ")"]))) tail
  exact (word_lex hs (by decide) _).app ((LexTo.sg (by decide) _).app ((h _ (OkT.c (by decide) _)).app (LexTo.sg (by decide) _)))
theorem comma (a : List Nat) (ka : List Kv) (h : Lexs a ka) (rest tail : List Nat) (kr : List Kv) (hr : LexTo rest kr tail) : LexTo (a ++ ([44] ++ ([32] ++ rest))) (ka ++ ([sK ","] ++ ([] ++ kr))) tail :=
  (h _ (OkT.c (by decide) _)).app ((LexTo.sg (by decide) _).app ((LexTo.sp _).app hr))
theorem Lexs.f2 {s : String} (hs : (Str.ofString s) ∈ RES) {a b : List Nat} {ka kb : List Kv} (h : Lexs a ka) (h2 : Lexs b kb) : Lexs (codes s ++ 40 :: (a ++ 44 :: 32 :: (b ++ [41]))) (.word (codes s) :: sK "(" :: (cj [ka, kb] ++ [sK ")"])) := fun tail ht => by
  rw [show codes s ++ 40 :: (a ++ 44 :: 32 :: (b ++ [41])) = codes s ++ ([40] ++ (a ++ ([44] ++ ([32] ++ (b ++ [41]))))) by simp,
    show (.word (codes s) :: sK "(" :: (cj [ka, kb] ++ [sK ")"]) : List Kv) = [.word (codes s)] ++ ([sK "("] ++ (ka ++ ([sK ","] ++ ([] ++ (kb ++ [sK ")"]))))) by simp [cj]]
  exact (word_lex hs (by decide) _).app ((LexTo.sg (by decide) _).app (comma a ka h _ _ _ ((h2 _ (OkT.c (by decide) _)).app (LexTo.sg (by decide) _))))
theorem Lexs.f3 {s : String} (hs : (Str.ofString s) ∈ RES) {a b c : List Nat} {ka kb kc : List Kv} (h : Lexs a ka) (h2 : Lexs b kb) (h3 : Lexs c kc) : Lexs (codes s ++ 40 :: (a ++ 44 :: 32 :: (b ++ 44 :: 32 :: (c ++ [41])))) (.word (codes s) :: sK "(" :: (cj [ka, kb, kc] ++ [sK ")"])) := fun tail ht => by
  rw [show codes s ++ 40 :: (a ++ 44 :: 32 :: (b ++ 44 :: 32 :: (c ++ [41]))) = codes s ++ ([40] ++ (a ++ ([44] ++ ([32] ++ (b ++ ([44] ++ ([32] ++ (c ++ [41])))))))) by simp,
    show (.word (codes s) :: sK "(" :: (cj [ka, kb, kc] ++ [sK ")"]) : List Kv) = [.word (codes s)] ++ ([sK "("] ++ (ka ++ ([sK ","] ++ ([] ++ (kb ++ ([sK ","] ++ ([] ++ (kc ++ [sK ")"])))))))) by simp [cj]]
  exact (word_lex hs (by decide) _).app ((LexTo.sg (by decide) _).app (comma a ka h _ _ _ (comma b kb h2 _ _ _ ((h3 _ (OkT.c (by decide) _)).app (LexTo.sg (by decide) _)))))
theorem leaf_lex : ∀ e : Ex, e.ok → ∀ ts, leafT e = some ts → Lexs e.pr ts
  | .num n, h, _, rfl => fun tail ht => LexTo.ok (tok_num (TL.numL_ne n) (num_dig n) (TL.numL_len (by decide) h) (TL.numL_val n)) ht.gap
  | .text l, h, _, rfl => fun tail ht => LexTo.ok (tok_text h.2 h.1) ht.gap
  | .truth b, _, _, rfl => fun tail ht => LexTo.ok (tok_name (res_name (Str.ofString (if b = true then "true" else "false")) (by cases b <;> decide +kernel))) ht.gap
  | .null, _, _, rfl => fun tail ht => LexTo.ok (tok_name (res_name (Str.ofString "null") (by decide +kernel))) ht.gap
  | .name l, h, _, rfl => fun tail ht => LexTo.ok (tok_name (show NmOk l from h).1) ht.gap
  | .field l m, h, _, rfl => fun tail ht => by
    show LexTo (l ++ ([46] ++ m)) ([.word l] ++ ([sK "."] ++ [.word m])) tail
    exact (LexTo.ok (tok_name (show NmOk l from h.1).1) (gapT (by decide) _)).app ((LexTo.sg (by decide) _).app (LexTo.ok (tok_name (show NmOk m from h.2).1) ht.gap))
  | .neg _, _, _, e => nomatch e
  | .nt _, _, _, e => nomatch e
  | .bin _ _ _, _, _, e => nomatch e
  | .f1 _ _, _, _, e => nomatch e
  | .f2 _ _ _, _, _, e => nomatch e
  | .f3 _ _ _, _, _, e => nomatch e
theorem not_lex {s : List Nat} {k : List Kv} (h : Lexs s k) : Lexs (codes "not " ++ s) (wK "not" :: k) := fun tail ht => by
  rw [show codes "not " = codes "not" ++ [32] by decide, List.append_assoc, show wK "not" :: k = [wK "not"] ++ ([] ++ k) by rfl]
  exact (word_lex (by decide +kernel) (by decide) _).app ((LexTo.sp _).app (h tail ht))
theorem pr_lex : ∀ e : Ex, e.ok → Lexs e.pr (tkC e)
  | .num n, h => leaf_lex (.num n) h _ rfl
  | .text l, h => leaf_lex (.text l) h _ rfl
  | .truth b, h => leaf_lex (.truth b) h _ rfl
  | .null, h => leaf_lex .null h _ rfl
  | .name l, h => leaf_lex (.name l) h _ rfl
  | .field l m, h => leaf_lex (.field l m) h _ rfl
  | .neg a, h => fun tail ht => (LexTo.sg (c := 45) (by decide) _).app ((pr_lex a h).par _ tail ht)
  | .nt a, h => not_lex ((pr_lex a h).par _)
  | .bin o a b, h => Lexs.bin o ((pr_lex a h.1).par _) ((pr_lex b h.2).par _)
  | .f1 m a, h => Lexs.f1 (f1_res m) (pr_lex a h)
  | .f2 m a b, h => Lexs.f2 (f2_res m) (pr_lex a h.1) (pr_lex b h.2)
  | .f3 a b c, h => Lexs.f3 (s := "if") (by decide +kernel) (pr_lex a h.1) (pr_lex b h.2.1) (pr_lex c h.2.2)
/-- every operand in parentheses -/
def Ex.full : Ex → List Nat
  | .neg a => 45 :: 32 :: par true a.full
  | .nt a => codes "not " ++ par true a.full
  | .bin o a b => par true a.full ++ 32 :: (codes o.s ++ 32 :: par true b.full)
  | .f1 m a => codes (f1s m) ++ 40 :: (a.full ++ [41])
  | .f2 m a b => codes (f2s m) ++ 40 :: (a.full ++ 44 :: 32 :: (b.full ++ [41]))
  | .f3 a b c => codes "if" ++ 40 :: (a.full ++ 44 :: 32 :: (b.full ++ 44 :: 32 :: (c.full ++ [41])))
  | e => e.pr
theorem full_lex : ∀ e : Ex, e.ok → Lexs e.full (tkF e)
  | .num n, h => leaf_lex (.num n) h _ rfl
  | .text l, h => leaf_lex (.text l) h _ rfl
  | .truth b, h => leaf_lex (.truth b) h _ rfl
  | .null, h => leaf_lex .null h _ rfl
  | .name l, h => leaf_lex (.name l) h _ rfl
  | .field l m, h => leaf_lex (.field l m) h _ rfl
  | .neg a, h => fun tail ht => by
    show LexTo ([45] ++ ([32] ++ par true a.full)) ([sK "-"] ++ ([] ++ pT true (tkF a))) tail
    exact (LexTo.sg (c := 45) (by decide) _).app ((LexTo.sp _).app ((full_lex a h).par _ tail ht))
  | .nt a, h => not_lex ((full_lex a h).par _)
  | .bin o a b, h => Lexs.bin o ((full_lex a h.1).par _) ((full_lex b h.2).par _)
  | .f1 m a, h => Lexs.f1 (f1_res m) (full_lex a h)
  | .f2 m a b, h => Lexs.f2 (f2_res m) (full_lex a h.1) (full_lex b h.2)
  | .f3 a b c, h => Lexs.f3 (s := "if") (by decide +kernel) (full_lex a h.1) (full_lex b h.2.1) (full_lex c h.2.2)

/-! ### methods, defs that a name holds, instances -/
structure ClM (P : Program) (w : World) (K : PySem.W.Frag) (mg : Str → Option Value) (base : Heap) (k : Nat) (C : Addr) (m : Str) (sp : Sp) : Prop where
  ex : ∃ (f : Addr) (fd : FuncData) (ps : List Str), FnOk P w K mg base CX0 k f fd ps sp ∧ Meth K C m f ∧ Cls K C ∧ Binds K fd ps []
structure ClC (P : Program) (w : World) (K : PySem.W.Frag) (mg : Str → Option Value) (base : Heap) (k : Nat) (x : Str) (C : Addr) (sp : Sp) : Prop where
  ex : ∃ (f : Addr) (fd : FuncData) (ps : List Str), FnOk P w K mg base CX0 k f fd ps sp ∧ Mk K C f ∧ mg x = some (.ref C) ∧ Binds K fd ps []
/-- a def as a value, and its promise -/
structure Hd (P : Program) (w : World) (K : PySem.W.Frag) (mg : Str → Option Value) (base : Heap) (k : Nat) (f : Addr) (sp : Sp) : Prop where
  ex : ∃ (fd : FuncData) (ps : List Str), FnOk P w K mg base CX0 k f fd ps sp ∧ PySem.W.keepIn K (.ref f) = true ∧ Binds K fd ps []
theorem FnOk.clm {P : Program} {w : World} {K : PySem.W.Frag} {mg : Str → Option Value} {base : Heap} {k : Nat} {C : Addr} {m : Str} {f : Addr} {fd : FuncData} {ps : List Str} {sp : Sp} (h : FnOk P w K mg base CX0 k f fd ps sp) (mt : Meth K C m f) (cl : Cls K C) (b : Binds K fd ps []) : ClM P w K mg base k C m sp := ⟨f, fd, ps, h, mt, cl, b⟩
theorem Cl.hd {P : Program} {w : World} {K : PySem.W.Frag} {mg : Str → Option Value} {base : Heap} {k : Nat} {x : Str} {sp : Sp} (c : Cl P w K mg base k x sp) : ∃ f, mg x = some (.ref f) ∧ Hd P w K mg base k f sp := by
  obtain ⟨f, fd, ps, F, hm, kp, b⟩ := c.ex
  exact ⟨f, hm, fd, ps, F, kp, b⟩
def tCallH (P : Program) (w : World) (K : PySem.W.Frag) (mg : Str → Option Value) (base : Heap) (k i : Nat) (t : TA) : TE := fun σ H Q => ∃ f sp, σ[i]? = some (some (.ref f)) ∧ Hd P w K mg base k f sp ∧ t σ H fun vs H1 => sp vs H1 Q E0
section
variable {X : Cx} {k j i : Nat} {m x : Str} {C : Addr} {sp : Sp} {p pos apos : Pos} {o e : Expr} {es : List Expr} {t : TA} {ta : TE}
theorem pe_mt {pl : Sem Bool} (c : ClM X.prog X.w X.K X.mg X.base k C m sp) (hr : Room j X.A) (hk : k ≤ j) (he : PE X o ta) (ha : PA X (e :: es) t) (hst : starEach (e :: es) X.env = (false, eval e X.env) :: starEach es X.env := by rfl) (hpl : (backTo pos (starEach es X.env)).any (·.1) = false := by rfl)
    (ht : eval (.Call (.Attribute o m apos) (e :: es) [] pos) X.env = (do let ov ← eval o X.env; standAt apos.atName; let (f, first) ← holding [ov] (getMethod ov m pl); callWith pos f first (backTo pos (starEach (e :: es) X.env)) (backToKw pos (keywordEach [] X.env))) := by rfl) : PE X (.Call (.Attribute o m apos) (e :: es) [] pos) (tMeth C m sp [] E0 ta t) := by
  obtain ⟨f, fd, ps, F, hm, cl, b⟩ := c.ex
  exact pe_meth he cl hm F (hr.mono hk) b .nil pass0 ha hst hpl ht
theorem pe_mt0 {pl : Sem Bool} (c : ClM X.prog X.w X.K X.mg X.base k C m sp) (hr : Room j X.A) (hk : k ≤ j) (he : PE X o ta)
    (ht : eval (.Call (.Attribute o m apos) [] [] pos) X.env = (do let ov ← eval o X.env; standAt apos.atName; let (f, first) ← holding [ov] (getMethod ov m pl); callWith pos f first (backTo pos (starEach [] X.env)) (backToKw pos (keywordEach [] X.env))) := by rfl) : PE X (.Call (.Attribute o m apos) [] [] pos) (tMeth C m sp [] E0 ta tNil) := by
  obtain ⟨f, fd, ps, F, hm, cl, b⟩ := c.ex
  exact pe_meth0 he cl hm F (hr.mono hk) b .nil pass0 ht
theorem pe_mk (c : ClC X.prog X.w X.K X.mg X.base k x C sp) (hr : Room j X.A) (hk : k + 1 ≤ j) (hg : L2.Gl X x) (ha : PA X (e :: es) t) (hdb : (x == ("__debug__" : Str)) = false := by decide) (he : starEach (e :: es) X.env = (false, eval e X.env) :: starEach es X.env := by rfl) (hpl : (backTo pos (starEach es X.env)).any (·.1) = false := by rfl) : PE X (.Call (.Name x p) (e :: es) [] pos) (tMake C sp [] E0 t) := by
  obtain ⟨f, fd, ps, F, M, hm, b⟩ := c.ex
  exact pe_make M F (hr.mono hk) hg hm b .nil pass0 ha hdb he hpl
theorem pe_callH (hr : Room j X.A) (hk : k ≤ j) (hN : X.N[i]? = some x) (hv : Vis X.env.scope x) (ha : PA X (e :: es) t) (hdb : (x == ("__debug__" : Str)) = false := by decide) (hcd : (x == ("__classdict__" : Str)) = false := by decide) (he : starEach (e :: es) X.env = (false, eval e X.env) :: starEach es X.env := by rfl) (hpl : (backTo pos (starEach es X.env)).any (·.1) = false := by rfl) :
    PE X (.Call (.Name x p) (e :: es) [] pos) (tCallH X.prog X.w X.K X.mg X.base k i t) := by
  refine ⟨fun pins s σ H Q I h => ?_⟩
  obtain ⟨f, sp, hs, ⟨fd, ps, F, kp, b⟩, ht⟩ := h
  refine (pe_callL (i := i) (f := f) (sp := sp) (dvs := []) (E := E0) F (hr.mono hk) hN hv kp b .nil pass0 ha hdb hcd he hpl).run pins s σ H Q I ⟨hs, ?_⟩
  rw [show (fun (vs : List V) (H1 : Hp) => sp (vs ++ []) H1 Q E0) = fun vs H1 => sp vs H1 Q E0 from by funext vs H1; rw [List.append_nil]]
  exact ht
end
/-! ### what stands when an instance changes -/
section
variable {K : PySem.W.Frag} {H H' : Hp} {p : Addr}
theorem SqL.fdI {a : Addr} {xs : List V} (hp : ∃ C dx fs, H p = some (.ins C dx fs)) (e : Fd p H H') (h : SqL K H a xs) : SqL K H' a xs := by
  obtain ⟨C, dx, fs, hz⟩ := hp
  rcases h with (h | ⟨o, h⟩) | h
  · exact .inl (.inl (e _ _ (ne_of h hz (fun z => nomatch z)) h))
  · exact .inl (.inr ⟨o, e _ _ (ne_of h hz (fun z => nomatch z)) h⟩)
  · exact .inr h
theorem SqT.fdI {a : Addr} {xs : List V} (hp : ∃ C dx fs, H p = some (.ins C dx fs)) (e : Fd p H H') (h : SqT K H a xs) : SqT K H' a xs := by
  obtain ⟨C, dx, fs, hz⟩ := hp
  rcases h with (h | ⟨o, h⟩) | h
  · exact .inl (.inl (e _ _ (ne_of h hz (fun z => nomatch z)) h))
  · exact .inl (.inr ⟨o, e _ _ (ne_of h hz (fun z => nomatch z)) h⟩)
  · exact .inr h
mutual
theorem Dp.fdI (hp : ∃ C dx fs, H p = some (.ins C dx fs)) (e : Fd p H H') : ∀ (d : PyData) (v : V), Dp K H v d → Dp K H' v d
  | .none, _, h => by cases h; exact .non
  | .bool b, _, h => by cases h; exact .bl b
  | .int i, _, h => by cases h; exact .int i
  | .str x, _, h => by cases h; exact .str x
  | .list ds, _, h => by
    cases h with
    | lst hs ha => exact .lst (SqL.fdI hp e hs) (DpAll.fdI hp e ds _ ha)
  | .tuple ds, _, h => by
    cases h with
    | tup hs ha => exact .tup (SqT.fdI hp e hs) (DpAll.fdI hp e ds _ ha)
  | .dict _, _, h => by cases h
theorem DpAll.fdI (hp : ∃ C dx fs, H p = some (.ins C dx fs)) (e : Fd p H H') : ∀ (ds : List PyData) (vs : List V), DpAll K H vs ds → DpAll K H' vs ds
  | [], _, h => by cases h; exact .nil
  | d :: ds, _, h => by
    cases h with
    | cons h1 h2 => exact .cons (Dp.fdI hp e d _ h1) (DpAll.fdI hp e ds _ h2)
end
end
/-! ### the reader -/
def rfl3 (s : V) (a : Addr) (i : Nat) : List (Str × V) := [("source", s), ("found", .ref a), ("at", .int (i : Int))]
theorem rf_found (s : V) (a : Addr) (i : Nat) : (rfl3 s a i).lookup ("found" : Str) = some (.ref a) := rfl
theorem rf_at (s : V) (a : Addr) (i : Nat) : (rfl3 s a i).lookup ("at" : Str) = some (.int (i : Int)) := rfl
theorem rf_no (s : V) (a : Addr) (i : Nat) (m : Str) (h1 : (m == ("source" : Str)) = false) (h2 : (m == ("found" : Str)) = false) (h3 : (m == ("at" : Str)) = false) : (rfl3 s a i).lookup m = none := by
  unfold rfl3
  simp only [List.lookup, h1, h2, h3]
theorem nf_kind (s : V) (a : Addr) (i : Nat) : (rfl3 s a i).lookup ("kind" : Str) = none := rf_no _ _ _ _ (by decide +kernel) (by decide +kernel) (by decide +kernel)
theorem nf_ahead (s : V) (a : Addr) (i : Nat) : (rfl3 s a i).lookup ("ahead" : Str) = none := rf_no _ _ _ _ (by decide +kernel) (by decide +kernel) (by decide +kernel)
theorem nf_take (s : V) (a : Addr) (i : Nat) : (rfl3 s a i).lookup ("take" : Str) = none := rf_no _ _ _ _ (by decide +kernel) (by decide +kernel) (by decide +kernel)
theorem nf_expect (s : V) (a : Addr) (i : Nat) : (rfl3 s a i).lookup ("expect" : Str) = none := rf_no _ _ _ _ (by decide +kernel) (by decide +kernel) (by decide +kernel)
theorem nf_tname (s : V) (a : Addr) (i : Nat) : (rfl3 s a i).lookup ("take_name" : Str) = none := rf_no _ _ _ _ (by decide +kernel) (by decide +kernel) (by decide +kernel)
theorem nf_offset (s : V) (a : Addr) (i : Nat) : (rfl3 s a i).lookup ("offset" : Str) = none := rf_no _ _ _ _ (by decide +kernel) (by decide +kernel) (by decide +kernel)
theorem ks1 : ¬ (("source" : Str) = "at") := by decide +kernel
theorem ks2 : ¬ (("found" : Str) = "at") := by decide +kernel
theorem ks3 : ¬ (("source" : Str) = "found") := by decide +kernel
theorem rf_put (s : V) (a : Addr) (i j : Nat) : putF "at" (.int (j : Int)) (rfl3 s a i) = rfl3 s a j := by
  unfold rfl3
  simp only [putF, if_neg ks1, if_neg ks2, if_pos]
theorem rf_mk (s : V) (a : Addr) : putF "at" (.int 0) (putF "found" (.ref a) (putF "source" s [])) = rfl3 s a 0 := by
  unfold rfl3
  simp only [putF, if_neg ks1, if_neg ks2, if_neg ks3]
  rfl
def endD (n : Nat) : PyData := .tuple [.str "end", .str "", .int n]
/-- a source's length, and where its tokens stand -/
structure Src where
  len : Nat
  at_ : Addr
def RdA (C : Addr) (K : PySem.W.Frag) (H : Hp) (p : Addr) (n : Src) (T : List (Kv × Nat)) (i : Nat) : Prop := ∃ dx s a xs, H p = some (.ins C dx (rfl3 s a i)) ∧ H a = some (.lst xs) ∧ DpAll K H xs (T.map tokD ++ [endD n.len]) ∧ i ≤ T.length ∧ a = n.at_
def rem (T : List (Kv × Nat)) (i : Nat) : List Kv := (T.drop i).map (·.1)
theorem rem_step {T : List (Kv × Nat)} {i : Nat} {kv : Kv} {r : List Kv} (h : rem T i = kv :: r) : i < T.length ∧ rem T (i + 1) = r := by
  unfold rem at *
  by_cases hi : i < T.length
  · rw [List.drop_eq_getElem_cons hi, List.map_cons] at h
    exact ⟨hi, (List.cons.inj h).2⟩
  · rw [List.drop_eq_nil_of_le (by omega)] at h
    cases h
theorem rem_app {T : List (Kv × Nat)} : ∀ {ts r : List Kv} {i : Nat}, rem T i = ts ++ r → rem T (i + ts.length) = r
  | [], r, i, h => h
  | t :: ts, r, i, h => by
    have := (rem_step (kv := t) (r := ts ++ r) h).2
    have := rem_app this
    rwa [show i + 1 + ts.length = i + (t :: ts).length by rw [List.length_cons]; omega] at this
section
variable {C : Addr} {K : PySem.W.Frag} {H H' : Hp} {p : Addr} {n : Src} {i : Nat} {T : List (Kv × Nat)}
theorem RdA.ins (h : RdA C K H p n T i) : ∃ C dx fs, H p = some (.ins C dx fs) := by
  obtain ⟨dx, s, a, xs, h1, _⟩ := h
  exact ⟨_, _, _, h1⟩
theorem RdA.ext (e : Same H H') (h : RdA C K H p n T i) : RdA C K H' p n T i := by
  obtain ⟨dx, s, a, xs, h1, h2, h3, h4⟩ := h
  exact ⟨dx, s, a, xs, e _ _ h1, e _ _ h2, DpAll.ext e _ _ h3, h4⟩
theorem RdA.le (h : RdA C K H p n T i) : i ≤ T.length := by
  obtain ⟨dx, s, a, xs, h1, h2, h3, h4, _⟩ := h
  exact h4
theorem RdA.go (h : RdA C K H p n T i) {m : Str} (hm : ∀ s a i, (rfl3 s a i).lookup m = none) {R : Prop} (r : R) : ∃ a dx fs, V.ref p = .ref a ∧ H a = some (.ins C dx fs) ∧ fs.lookup m = none ∧ R := by
  obtain ⟨dx, s, a, xs, h1, _⟩ := h
  exact ⟨p, dx, _, rfl, h1, hm _ _ _, r⟩
/-- the next token, the end's behind the last one -/
theorem RdA.tok (h : RdA C K H p n T i) : ∃ dx s a xs b k v o, H p = some (.ins C dx (rfl3 s a i)) ∧ SqL K H a xs ∧ atI xs (i : Int) = some (.ref b) ∧ SqT K H b [.str k, v, o] ∧ k = (match rem T i with | [] => "end" | kv :: _ => kv.kd) ∧ v = (match rem T i with | [] => .str "" | kv :: _ => kvV kv) := by
  obtain ⟨dx, s, a, xs, h1, h2, h3, hi, _⟩ := h
  have key : ∀ d, (T.map tokD ++ [endD n.len])[i]? = some d → ∃ x, xs[i]? = some x ∧ Dp K H x d := fun d hd => DpAll.get h3 hd
  have three : ∀ {v : V} {k : Str} {d1 d2 : PyData}, Dp K H v (.tuple [.str k, d1, d2]) → ∃ b u o, v = .ref b ∧ SqT K H b [.str k, u, o] ∧ Dp K H u d1 := fun {v k d1 d2} hd => by
    obtain ⟨b, ys, rfl, hs, ha⟩ := dp_tup hd
    obtain ⟨u, o, rfl, hu, _⟩ := dp_three ha
    exact ⟨b, u, o, rfl, hs, hu⟩
  by_cases hi2 : i < T.length
  · obtain ⟨x, hx, hd⟩ := key (tokD T[i]) (by rw [List.getElem?_append_left (by rw [List.length_map]; exact hi2), List.getElem?_map, List.getElem?_eq_getElem hi2]; rfl)
    obtain ⟨b, u, o, rfl, hs, hu⟩ := three hd
    have er : rem T i = T[i].1 :: rem T (i + 1) := by
      unfold rem
      rw [List.drop_eq_getElem_cons hi2, List.map_cons]
    refine ⟨dx, s, a, xs, b, _, u, o, h1, .of h2, atI_nat hx, hs, by rw [er], ?_⟩
    rw [er]
    generalize T[i].1 = kv at hu
    cases kv <;> cases hu <;> rfl
  · obtain rfl : i = T.length := by omega
    obtain ⟨x, hx, hd⟩ := key (endD n.len) (by rw [List.getElem?_append_right (by rw [List.length_map]; exact Nat.le_refl _), List.length_map, Nat.sub_self]; rfl)
    obtain ⟨b, u, o, rfl, hs, hu⟩ := three hd
    have er : rem T T.length = [] := by
      unfold rem
      rw [List.drop_length]
      rfl
    refine ⟨dx, s, a, xs, b, _, u, o, h1, .of h2, atI_nat hx, hs, by rw [er], ?_⟩
    rw [er]
    cases hu
    rfl
theorem RdA.step (h : RdA C K H p n T i) (hi : i < T.length) : ∀ {dx : Addr} {s : V} {a : Addr}, H p = some (.ins C dx (rfl3 s a i)) → RdA C K (upd H p (.ins C dx (rfl3 s a (i + 1)))) p n T (i + 1) ∧ Fd p H (upd H p (.ins C dx (rfl3 s a (i + 1)))) := by
  obtain ⟨dx', s', a', xs, h1, h2, h3, _, h5⟩ := h
  intro dx s a e
  have e0 := e.symm.trans h1
  have ea : a = a' := by
    have e1 := HO.ins.inj (Option.some.inj e0)
    have e2 := e1.2.2
    unfold rfl3 at e2
    have e3 := (List.cons.inj (List.cons.inj e2).2).1
    exact V.ref.inj (Prod.mk.inj e3).2
  subst ea
  have f : Fd p H (upd H p (.ins C dx (rfl3 s a (i + 1)))) := Fd.at
  exact ⟨⟨dx, s, a, xs, upd_same, by rw [upd_ne (ne_of h2 h1 (fun z => nomatch z))]; exact h2, DpAll.fdI ⟨_, _, _, h1⟩ f _ _ h3, hi, h5⟩, f⟩
end
theorem Fd.back {p D : Addr} {H H' : Hp} (f : Fd p H H') (n : H' D = none) (h : D ≠ p) : H D = none := by
  cases e : H D with
  | none => rfl
  | some o =>
    rw [f D o h e] at n
    cases n
theorem Fd.lst {p D : Addr} {H H' : Hp} {o : HO} (f : Fd p H H') (n : H D = none) : Fd p H (upd H' D o) := fun b x nb e => by
  rw [upd_ne (ne_of_none e n)]
  exact f b x nb e
theorem tok_only (T : List (Kv × Nat)) (n : Nat) : tupOnlys (T.map tokD ++ [endD n]) = true := by
  have h := toks_only T
  induction T with
  | nil => rfl
  | cons t T ih =>
    rw [List.map_cons] at h
    unfold tupOnlys at h
    rw [Bool.and_eq_true] at h
    rw [List.map_cons, List.cons_append]
    unfold tupOnlys
    rw [h.1, ih h.2]
    rfl
/-- a list that is being made, beside the reader -/
theorem RdA.lst {C : Addr} {K : PySem.W.Frag} {H : Hp} {p D : Addr} {n : Src} {i : Nat} {T : List (Kv × Nat)} {zs : List V} {o : HO} (h : RdA C K H p n T i) (hD : H D = some (.lst zs)) (ne : D ≠ n.at_) : RdA C K (upd H D o) p n T i := by
  obtain ⟨dx, s, a, xs, h1, h2, h3, h4, h5⟩ := h
  exact ⟨dx, s, a, xs, by rw [upd_ne (ne_of h1 hD (fun z => nomatch z))]; exact h1, by rw [upd_ne (by rw [h5]; exact ne.symm)]; exact h2, DpAll.away hD _ _ (tok_only _ _) h3, h4, h5⟩
theorem RdA.new {C : Addr} {K : PySem.W.Frag} {H : Hp} {p D : Addr} {n : Src} {i : Nat} {T : List (Kv × Nat)} (h : RdA C K H p n T i) (hD : H D = none) : D ≠ n.at_ ∧ D ≠ p := by
  obtain ⟨dx, s, a, xs, h1, h2, h3, h4, h5⟩ := h
  exact ⟨by rw [← h5]; exact (ne_of_none h2 hD).symm, (ne_of_none h1 hD).symm⟩
structure RdC (K : PySem.W.Frag) (C : Addr) : Prop where
  cl : Cls K C
  nS : NoAttr K C "source"
  nF : NoAttr K C "found"
  nA : NoAttr K C "at"
/-- RESERVED and the other names of the reading modules -/
structure Pr (K : PySem.W.Frag) (mg : Str → Option Value) (aR : Addr) : Prop where
  RESERVED : ∃ u, mg "RESERVED" = some u ∧ RelV (.ref aR) u
  res : ∀ H : Hp, SqT K H aR (RES.map V.str)
theorem res_v {l : List Nat} : inV (.str ⟨l.toArray⟩) (RES.map V.str) = isRes l := by
  unfold isRes
  by_cases h : (⟨l.toArray⟩ : Str) ∈ RES
  · rw [decide_eq_true h]
    exact res_inV h
  · rw [decide_eq_false h]
    cases e : inV (.str ⟨l.toArray⟩) (RES.map V.str) with
    | false => rfl
    | true =>
      exfalso
      unfold inV at e
      rw [List.any_map, List.any_eq_true] at e
      obtain ⟨x, hx, he⟩ := e
      have e1 : x = ⟨l.toArray⟩ := eq_of_beq (show (x == ⟨l.toArray⟩) = true from he)
      exact h (e1 ▸ hx)
def sp_kind (C : Addr) (K : PySem.W.Frag) : Sp := fun vs H Q _ => ∃ p n T i, vs = [.ref p] ∧ RdA C K H p n T i ∧ Q (.str (kdOf (rem T i))) H
def sp_ahead (C : Addr) (K : PySem.W.Frag) : Sp := fun vs H Q _ => ∃ p n T i, vs = [.ref p] ∧ RdA C K H p n T i ∧ ∀ H', Same H H' → Q (tx (ahOf (rem T i))) H'
def sp_offset (C : Addr) (K : PySem.W.Frag) : Sp := fun vs H Q _ => ∃ p n T i, vs = [.ref p] ∧ RdA C K H p n T i ∧ i < T.length ∧ Q (.int ((T[i]?.map (·.2)).getD 0 : Nat)) H
def sp_take (C : Addr) (K : PySem.W.Frag) : Sp := fun vs H Q _ => ∃ p n T i kv r, vs = [.ref p] ∧ RdA C K H p n T i ∧ rem T i = kv :: r ∧ ∀ H', Fd p H H' → RdA C K H' p n T (i + 1) → Q (kvV kv) H'
def sp_expect (C : Addr) (K : PySem.W.Frag) : Sp := fun vs H Q _ => ∃ p n T i g kv r, vs = [.ref p, tx g] ∧ RdA C K H p n T i ∧ rem T i = kv :: r ∧ ahOf (rem T i) = g ∧ ∀ H', Fd p H H' → RdA C K H' p n T (i + 1) → Q .non H'
def sp_tname (C : Addr) (K : PySem.W.Frag) : Sp := fun vs H Q _ => ∃ p n T i l r, vs = [.ref p] ∧ RdA C K H p n T i ∧ rem T i = .word l :: r ∧ NmOk l ∧ ∀ H', Fd p H H' → RdA C K H' p n T (i + 1) → Q (tx l) H'
theorem kd_in (ks : List Kv) : inV (.str (kdOf ks)) [.str "sign", .str "reserved"] = (match ks with | .sign _ :: _ => true | .word l :: _ => isRes l | _ => false) := by
  have f : ∀ (x : String) (b : Bool), inV (.str (Str.ofString x)) [.str "sign", .str "reserved"] = b → inV (.str (Str.ofString x)) [.str "sign", .str "reserved"] = b := fun _ _ h => h
  match ks with
  | [] => exact f "end" false (by decide +kernel)
  | .sign g :: _ => exact f "sign" true (by decide +kernel)
  | .num g :: _ => exact f "number" false (by decide +kernel)
  | .text g :: _ => exact f "text" false (by decide +kernel)
  | .word l :: _ =>
    show inV (.str (if isRes l = true then "reserved" else "name")) _ = isRes l
    cases isRes l with
    | true => exact f "reserved" true (by decide +kernel)
    | false => exact f "name" false (by decide +kernel)
section
variable {P : Program} {w : World} {K : PySem.W.Frag} {mg : Str → Option Value} {base : Heap}
theorem ok_kind {f C aR : Addr} {fd : FuncData} (F : Fun K "kind" "Reader.kind" s_Reader_kind f fd) (M : Mg mg) (R : RdC K C) (G : Pr K mg aR) : FnOk P w K mg base CX0 1 f fd ["self"] (sp_kind C K) := by
  refine F.ok sc_Reader_kind (fun vs H Q E h => ?_) (fun cdv A outer s H vs Q E hr h => ?_)
  · obtain ⟨p, n, T, i, rfl, _⟩ := h
    rfl
  · obtain ⟨p, n, T, i, rfl, rd, q⟩ := h
    obtain ⟨dx, s, a, xs, b, k, v, o, hp, hx, hat, hb, hk, hv⟩ := rd.tok
    refine ⟨_, (pss_cons (ps_asg (pe_ix (ix_listK K) (pe_fld (pv 0) rfl) (pe_fld (pv 0) rfl) (fun _ _ => rfl)) (pg_tup (by rfl) (pgs_cons (pg_name (i := 1) sc_Reader_kind.nd rfl (.inl rfl)) (pgs_cons (pg_name (i := 2) sc_Reader_kind.nd rfl (.inl rfl)) (pgs_cons (pg_name (i := 3) sc_Reader_kind.nd rfl (.inl rfl)) pgs_nil)))))
      (pss_cons (ps_if (pt_cmpR op_ne (pv 1) pe_str (nomark _)) (pss_one (ps_ret (pv 1))) pss_nil)
      (pss_one (ps_ret (pe_ifExp (pt_cmpR (inK K) (pv 2) (C8.pe_gc (by rfl) G.RESERVED) (by rfl)) pe_str pe_str))))), ?_⟩
    refine ⟨_, rfl, p, C, dx, _, _, rfl, hp, R.cl, R.nF, rf_found _ _ _, _, rfl, p, C, dx, _, _, rfl, hp, R.cl, R.nA, rf_at _ _ _, a, xs, _, _, rfl, rfl, hx, hat, ?_⟩
    refine ⟨b, _, rfl, hb, rfl, _, _, rfl, _, _, rfl, _, _, rfl, rfl, ?_⟩
    have ek : decide (V.str k = V.str "word") = (match rem T i with | .word _ :: _ => true | _ => false) := by
      rw [hk]
      match rem T i with
      | [] => exact wne "end" "word" (by decide +kernel)
      | .sign g :: _ => exact wne "sign" "word" (by decide +kernel)
      | .num g :: _ => exact wne "number" "word" (by decide +kernel)
      | .text g :: _ => exact wne "text" "word" (by decide +kernel)
      | .word l :: _ => exact weq "word"
    refine ⟨_, rfl, rfl, _, rfl, ?_⟩
    rw [ek]
    generalize rem T i = ks at hk hv q
    match ks, hk, hv, q with
    | [], hk, hv, q => exact iteT ⟨_, rfl, by rw [hk]; exact q⟩
    | .sign g :: _, hk, hv, q => exact iteT ⟨_, rfl, by rw [hk]; exact q⟩
    | .num g :: _, hk, hv, q => exact iteT ⟨_, rfl, by rw [hk]; exact q⟩
    | .text g :: _, hk, hv, q => exact iteT ⟨_, rfl, by rw [hk]; exact q⟩
    | .word l :: _, hk, hv, q =>
      refine iteF ?_
      have hv : v = .str ⟨l.toArray⟩ := hv
      subst hv
      refine ⟨_, rfl, aR, _, rfl, .inr (G.res H), rfl, res_flat, _, rfl, ?_⟩
      rw [if_neg Bool.false_ne_true, res_v]
      have q : Q (.str (if isRes l = true then "reserved" else "name")) H := q
      cases e : isRes l with
      | true =>
        rw [e] at q
        exact iteT q
      | false =>
        rw [e] at q
        exact iteF q
theorem ok_ahead {f C : Addr} {fd : FuncData} (F : Fun K "ahead" "Reader.ahead" s_Reader_ahead f fd) (M : Mg mg) (R : RdC K C) (c_Reader_kind : ClM P w K mg base 1 C "kind" (sp_kind C K)) : FnOk P w K mg base CX0 2 f fd ["self"] (sp_ahead C K) := by
  refine F.ok sc_Reader_ahead (fun vs H Q E h => ?_) (fun cdv A outer s H vs Q E hr h => ?_)
  · obtain ⟨p, n, T, i, rfl, _⟩ := h
    rfl
  · obtain ⟨p, n, T, i, rfl, rd, q⟩ := h
    refine ⟨_, (pss_cons (ps_if (pt_cmpR (inK K) (pe_mt0 c_Reader_kind hr (by first | decide | omega) (pv 0)) (pe_tup (pa_cons pe_str (pa_cons pe_str pa_nil))) (by rfl)) (pss_one (ps_ret (pe_ix (ix_tupK K) (pe_ix (ix_listK K) (pe_fld (pv 0) rfl) (pe_fld (pv 0) rfl) (fun _ _ => rfl)) pe_int (fun _ _ => rfl)))) pss_nil)
      (pss_one (ps_ret pe_str))), ?_⟩
    refine ⟨_, rfl, rd.go nf_kind ⟨p, n, T, i, rfl, rd, ?_⟩⟩
    refine ⟨by show 2 ≤ sizeLine; decide, fun tp ntp => ?_⟩
    have s1 := same_upd ntp (o := .tup [.str "sign", .str "reserved"])
    refine ⟨tp, _, rfl, .inr (.inl (.inl upd_same)), rfl, rfl, _, rfl, ?_⟩
    rw [if_neg Bool.false_ne_true, kd_in]
    have rd1 := rd.ext s1
    obtain ⟨dx, s, a, xs, b, k, v, o, hp, hx, hat, hb, hk, hv⟩ := rd1.tok
    have q1 := q _ s1
    generalize upd H tp (.tup [.str "sign", .str "reserved"]) = H1 at hp hx hb q1
    generalize rem T i = ks at hk hv q1
    have val : ∀ l, v = .str ⟨l.toArray⟩ → Q (tx l) H1 → tRet (tOp (rIxT K) (tOp (rIxL K) (tFld K (tVar 0) "found") (tFld K (tVar 0) "at")) (tC (.int 1))) { nx := fun _ H' => Q .non H', rt := Q } [some (.ref p)] H1 := fun l e h => by
      subst e
      exact ⟨_, rfl, p, C, dx, _, _, rfl, hp, R.cl, R.nF, rf_found _ _ _, _, rfl, p, C, dx, _, _, rfl, hp, R.cl, R.nA, rf_at _ _ _, a, xs, _, _, rfl, rfl, hx, hat, b, _, _, _, rfl, rfl, hb, atI_nat (j := 1) rfl, h⟩
    match ks, hk, hv, q1 with
    | [], hk, hv, q => exact iteF q
    | .sign g :: _, hk, hv, q => exact iteT (val g hv q)
    | .num g :: _, hk, hv, q => exact iteF q
    | .text g :: _, hk, hv, q => exact iteF q
    | .word l :: _, hk, hv, q =>
      have q : Q (tx (if isRes l = true then l else [])) H1 := q
      show if isRes l = true then _ else _
      cases e : isRes l with
      | true =>
        rw [e] at q
        exact iteT (val l hv q)
      | false =>
        rw [e] at q
        exact iteF q
theorem ok_take {f C : Addr} {fd : FuncData} (F : Fun K "take" "Reader.take" s_Reader_take f fd) (M : Mg mg) (R : RdC K C) : FnOk P w K mg base CX0 1 f fd ["self"] (sp_take C K) := by
  refine F.ok sc_Reader_take (fun vs H Q E h => ?_) (fun cdv A outer s H vs Q E hr h => ?_)
  · obtain ⟨p, n, T, i, kv, r, rfl, _⟩ := h
    rfl
  · obtain ⟨p, n, T, i, kv, r, rfl, rd, er, q⟩ := h
    have hi := (rem_step er).1
    obtain ⟨dx, s, a, xs, b, k, v, o, hp, hx, hat, hb, hk, hv⟩ := rd.tok
    rw [er] at hv
    have hv : v = kvV kv := hv
    subst hv
    obtain ⟨rd2, f2⟩ := rd.step hi hp
    refine ⟨_, (pss_cons (ps_set (i := 1) sc_Reader_take.nd rfl (.inl rfl) (pe_ix (ix_tupK K) (pe_ix (ix_listK K) (pe_fld (pv 0) rfl) (pe_fld (pv 0) rfl) (fun _ _ => rfl)) pe_int (fun _ _ => rfl)))
      (pss_cons (ps_fldaug (pv 0) pe_int in_add)
      (pss_one (ps_ret (pv 1))))), ?_⟩
    refine ⟨_, rfl, p, C, dx, _, _, rfl, hp, R.cl, R.nF, rf_found _ _ _, _, rfl, p, C, dx, _, _, rfl, hp, R.cl, R.nA, rf_at _ _ _, a, xs, _, _, rfl, rfl, hx, hat, b, _, _, _, rfl, rfl, hb, atI_nat (j := 1) rfl, ?_⟩
    refine ⟨_, rfl, p, C, dx, _, _, rfl, hp, R.cl, R.nA, rf_at _ _ _, _, _, rfl, rfl, dx, _, hp, by show 3 < 1000; decide, ?_⟩
    rw [show (i : Int) + 1 = ((i + 1 : Nat) : Int) by omega, rf_put]
    exact ⟨_, rfl, q _ f2 rd2⟩
theorem ok_expect {f C : Addr} {fd : FuncData} (F : Fun K "expect" "Reader.expect" s_Reader_expect f fd) (M : Mg mg) (R : RdC K C) (c_Reader_ahead : ClM P w K mg base 2 C "ahead" (sp_ahead C K)) : FnOk P w K mg base CX0 3 f fd ["self", "word"] (sp_expect C K) := by
  refine F.ok sc_Reader_expect (fun vs H Q E h => ?_) (fun cdv A outer s H vs Q E hr h => ?_)
  · obtain ⟨p, n, T, i, g, kv, r, rfl, _⟩ := h
    rfl
  · obtain ⟨p, n, T, i, g, kv, r, rfl, rd, er, eg, q⟩ := h
    have hi := (rem_step er).1
    obtain ⟨dx0, s0, a0, xs0, hp0, _⟩ := id rd
    refine ⟨_, (pss_cons (ps_if (pt_cmpR op_ne (pe_mt0 c_Reader_ahead hr (by first | decide | omega) (pv 0)) (pv 1) (nomark _)) (pss_one ps_never) pss_nil)
      (pss_one (ps_fldaug (pv 0) pe_int in_add))), ?_⟩
    refine ⟨_, rfl, p, dx0, _, rfl, hp0, rf_no _ _ _ _ (by decide +kernel) (by decide +kernel) (by decide +kernel), p, n, T, i, rfl, rd, fun H1 s1 => ?_⟩
    rw [eg]
    refine ⟨_, rfl, rfl, _, rfl, ?_⟩
    rw [show decide (tx g = tx g) = true from decide_eq_true rfl]
    refine iteF ?_
    have rd1 := rd.ext s1
    have hp := s1 _ _ hp0
    obtain ⟨rd2, f2⟩ := rd1.step hi hp
    refine ⟨_, rfl, p, C, dx0, _, _, rfl, hp, R.cl, R.nA, rf_at _ _ _, _, _, rfl, rfl, dx0, _, hp, by show 3 < 1000; decide, ?_⟩
    rw [show (i : Int) + 1 = ((i + 1 : Nat) : Int) by omega, rf_put]
    exact q _ ((Fd.of s1).trans f2) rd2
theorem ok_tname {f C : Addr} {fd : FuncData} (F : Fun K "take_name" "Reader.take_name" s_Reader_take_name f fd) (M : Mg mg) (R : RdC K C) (c_Reader_kind : ClM P w K mg base 1 C "kind" (sp_kind C K)) (c_Reader_take : ClM P w K mg base 1 C "take" (sp_take C K)) : FnOk P w K mg base CX0 2 f fd ["self"] (sp_tname C K) := by
  refine F.ok sc_Reader_take_name (fun vs H Q E h => ?_) (fun cdv A outer s H vs Q E hr h => ?_)
  · obtain ⟨p, n, T, i, l, r, rfl, _⟩ := h
    rfl
  · obtain ⟨p, n, T, i, l, r, rfl, rd, er, nm, q⟩ := h
    have hi := (rem_step er).1
    obtain ⟨dx0, s0, a0, xs0, hp0, _⟩ := id rd
    refine ⟨_, (pss_cons (ps_if (pt_cmpR op_ne (pe_mt0 c_Reader_kind hr (by first | decide | omega) (pv 0)) pe_str (nomark _)) (pss_one ps_never) pss_nil)
      (pss_one (ps_ret (pe_mt0 c_Reader_take hr (by first | decide | omega) (pv 0))))), ?_⟩
    refine ⟨_, rfl, p, dx0, _, rfl, hp0, rf_no _ _ _ _ (by decide +kernel) (by decide +kernel) (by decide +kernel), p, n, T, i, rfl, rd, ?_⟩
    rw [er, show kdOf (.word l :: r) = "name" by show (if isRes l = true then ("reserved" : Str) else "name") = "name"; rw [nm_not nm, if_neg Bool.false_ne_true]]
    refine ⟨rfl, _, rfl, iteF ?_⟩
    exact ⟨_, rfl, p, dx0, _, rfl, hp0, rf_no _ _ _ _ (by decide +kernel) (by decide +kernel) (by decide +kernel), p, n, T, i, _, r, rfl, rd, er, q⟩
theorem ok_offset {f C : Addr} {fd : FuncData} (F : Fun K "offset" "Reader.offset" s_Reader_offset f fd) (M : Mg mg) (R : RdC K C) : FnOk P w K mg base CX0 1 f fd ["self"] (sp_offset C K) := by
  refine F.ok sc_Reader_offset (fun vs H Q E h => ?_) (fun cdv A outer s H vs Q E hr h => ?_)
  · obtain ⟨p, n, T, i, rfl, _⟩ := h
    rfl
  · obtain ⟨p, n, T, i, rfl, rd, hi, q⟩ := h
    refine ⟨_, (pss_one (ps_ret (pe_ix (ix_tupK K) (pe_ix (ix_listK K) (pe_fld (pv 0) rfl) (pe_fld (pv 0) rfl) (fun _ _ => rfl)) pe_int (fun _ _ => rfl)))), ?_⟩
    obtain ⟨dx, s, a, xs, hp, ha, da, _⟩ := id rd
    obtain ⟨x, hx, hd⟩ := DpAll.get da (show (T.map tokD ++ [endD n.len])[i]? = some (tokD T[i]) by rw [List.getElem?_append_left (by rw [List.length_map]; exact hi), List.getElem?_map, List.getElem?_eq_getElem hi]; rfl)
    obtain ⟨b, ys, rfl, hs, hy⟩ := dp_tup hd
    obtain ⟨u, o, rfl, hu, ho⟩ := dp_three hy
    cases ho
    refine ⟨_, rfl, p, C, dx, _, _, rfl, hp, R.cl, R.nF, rf_found _ _ _, _, rfl, p, C, dx, _, _, rfl, hp, R.cl, R.nA, rf_at _ _ _, a, xs, _, _, rfl, rfl, .of ha, atI_nat hx, b, _, _, _, rfl, rfl, hs, atI_nat (j := 2) rfl, ?_⟩
    rw [List.getElem?_eq_getElem hi] at q
    exact q
/-- its making: the tokens of a source, and the end behind them -/
def sp_init (C : Addr) (K : PySem.W.Frag) : Sp := fun vs H Q _ => ∃ p dx l ts, vs = [.ref p, .str ⟨l.toArray⟩] ∧ H p = some (.ins C dx []) ∧ l.length ≤ 100000 ∧ ts.length ≤ 100000 ∧ Lx l.length (skip l) ts ∧ ∀ H' b, Fd p H H' → H b = none → b ≠ p → RdA C K H' p ⟨l.length, b⟩ ts 0 → Q .non H'
theorem ok_init {f C : Addr} {fd : FuncData} (F : Fun K "__init__" "Reader.__init__" s_Reader___init__ f fd) (M : Mg mg) (R : RdC K C) (c_tokens : Cl P w K mg base 4 "tokens" (sp_tok K)) : FnOk P w K mg base CX0 5 f fd ["self", "source"] (sp_init C K) := by
  refine F.ok sc_Reader___init__ (fun vs H Q E h => ?_) (fun cdv A outer s H vs Q E hr h => ?_)
  · obtain ⟨p, dx, l, ts, rfl, _⟩ := h
    rfl
  · obtain ⟨p, dx, l, ts, rfl, hp, hl, htl, hx, q⟩ := h
    have zl : (⟨l.toArray⟩ : Str).length ≤ sizeLine := by rw [S_len']; exact Nat.le_trans hl (by decide)
    refine ⟨_, (pss_cons (ps_fld (pv 0) (pv 1) rfl)
      (pss_cons (ps_fld (pv 0) (pe_op op_cat (pe_u c_tokens hr (by first | decide | omega) (by rfl) (pa_cons (pv 1) pa_nil)) (pe_lst (pa_cons (pe_tup (pa_cons pe_str (pa_cons pe_str (pa_cons (pe_callB call_len_str (by rfl) M.len PySem.boot_len (pa_cons (pv 1) pa_nil)) pa_nil)))) pa_nil))) rfl)
      (pss_one (ps_fld (pv 0) pe_int rfl)))), ?_⟩
    refine ⟨_, rfl, _, rfl, p, C, dx, [], rfl, hp, R.cl, R.nS, by show 0 < 1000; decide, ?_⟩
    have f1 : Fd p H (upd H p (.ins C dx (putF "source" (.str ⟨l.toArray⟩) []))) := Fd.at
    have e1 : (upd H p (.ins C dx (putF "source" (.str ⟨l.toArray⟩) []))) p = some (.ins C dx (putF "source" (.str ⟨l.toArray⟩) [])) := upd_same
    generalize upd H p (.ins C dx (putF "source" (.str ⟨l.toArray⟩) [])) = H1 at f1 e1
    refine ⟨_, rfl, l, ts, rfl, hl, hx, fun H2 a xs s2 ea da => ?_⟩
    refine ⟨_, rfl, _, rfl, zl, ?_⟩
    rw [S_len']
    refine ⟨by show 3 ≤ sizeLine; decide, fun t nt => ?_⟩
    have s3 := same_upd nt (o := .tup [.str "end", .str "", .int (l.length : Int)])
    have et : (upd H2 t (.tup [.str "end", .str "", .int (l.length : Int)])) t = some (.tup [.str "end", .str "", .int (l.length : Int)]) := upd_same
    generalize upd H2 t (.tup [.str "end", .str "", .int (l.length : Int)]) = H3 at s3 et
    refine ⟨by show 1 ≤ sizeLine; decide, fun e ne => ?_⟩
    have s4 := same_upd ne (o := .lst [.ref t])
    have ee : (upd H3 e (.lst [.ref t])) e = some (.lst [.ref t]) := upd_same
    generalize upd H3 e (.lst [.ref t]) = H4 at s4 ee
    have lxs : xs.length = ts.length := by rw [DpAll.len da, List.length_map]
    refine ⟨a, e, _, _, rfl, rfl, s4 _ _ (s3 _ _ ea), ee, by rw [lxs]; exact Nat.le_trans (m := 100001) (by show _ + 1 ≤ _; omega) (by decide), fun b nb => ?_⟩
    have s5 := same_upd nb (o := .lst (xs ++ [.ref t]))
    have eb : (upd H4 b (.lst (xs ++ [.ref t]))) b = some (.lst (xs ++ [.ref t])) := upd_same
    generalize upd H4 b (.lst (xs ++ [.ref t])) = H5 at s5 eb
    have s25 := ((s2.trans s3).trans s4).trans s5
    have e5 := s25 _ _ e1
    have da5 : DpAll K H5 (xs ++ [.ref t]) (ts.map tokD ++ [endD l.length]) := DpAll.snoc (DpAll.ext ((s3.trans s4).trans s5) _ _ da) (.tup (.inl (.inl ((s4.trans s5) _ _ et))) (.cons (.str _) (.cons (.str _) (.cons (.int _) .nil))))
    refine ⟨_, rfl, p, C, dx, _, rfl, e5, R.cl, R.nF, by show 1 < 1000; decide, ?_⟩
    refine ⟨_, rfl, p, C, dx, _, rfl, upd_same, R.cl, R.nA, by show 2 < 1000; decide, ?_⟩
    have f6 : Fd p H5 (upd (upd H5 p (.ins C dx (putF "found" (.ref b) (putF "source" (.str ⟨l.toArray⟩) [])))) p (.ins C dx (putF "at" (.int 0) (putF "found" (.ref b) (putF "source" (.str ⟨l.toArray⟩) []))))) := Fd.trans Fd.at Fd.at
    refine q _ b ((f1.trans (Fd.of s25)).trans f6) (f1.back (s2.free (s3.free (s4.free nb))) (ne_of eb e5 (fun z => nomatch z))) (ne_of eb e5 (fun z => nomatch z)) ⟨dx, .str ⟨l.toArray⟩, b, _, ?_, ?_, DpAll.fdI ⟨_, _, _, e5⟩ f6 _ _ da5, Nat.zero_le _, rfl⟩
    · rw [upd_same]
      exact congrArg (fun z => some (HO.ins C dx z)) (rf_mk _ _)
    · exact f6 _ _ (ne_of eb e5 (fun z => nomatch z)) eb
end

/-! ### a query that stands alone -/
def sp_eend (C : Addr) (K : PySem.W.Frag) : Sp := fun vs H Q _ => ∃ p n T i, vs = [.ref p] ∧ RdA C K H p n T i ∧ rem T i = [] ∧ Q .non H
theorem nf_eend (s : V) (a : Addr) (i : Nat) : (rfl3 s a i).lookup ("expect_end" : Str) = none := rf_no _ _ _ _ (by decide +kernel) (by decide +kernel) (by decide +kernel)
section
variable {P : Program} {w : World} {K : PySem.W.Frag} {mg : Str → Option Value} {base : Heap} {C : Addr}
theorem ok_eend {f : Addr} {fd : FuncData} (F : Fun K "expect_end" "Reader.expect_end" s_Reader_expect_end f fd) (M : Mg mg) (R : RdC K C) (c_Reader_kind : ClM P w K mg base 1 C "kind" (sp_kind C K)) : FnOk P w K mg base CX0 2 f fd ["self"] (sp_eend C K) := by
  refine F.ok sc_Reader_expect_end (fun vs H Q E h => ?_) (fun cdv A outer s H vs Q E hr h => ?_)
  · obtain ⟨p, n, T, i, rfl, _⟩ := h
    rfl
  · obtain ⟨p, n, T, i, rfl, rd, er, q⟩ := h
    refine ⟨_, (pss_one (ps_if (pt_cmpR op_ne (pe_mt0 c_Reader_kind hr (by first | decide | omega) (pv 0)) pe_str (nomark _)) (pss_one ps_never) pss_nil)), ?_⟩
    refine ⟨_, rfl, rd.go nf_kind ⟨p, n, T, i, rfl, rd, ⟨rfl, _, rfl, ?_⟩⟩⟩
    rw [er]
    exact iteF q
end

/-! ### reading expressions -/
/-- words with which an expression of this step, or of a closer one, goes on -/
def cW (k : Nat) : List String :=
  if k = 1 then ["or", "and", "<", "<=", "=", "!=", ">=", ">", "+", "-", "*", "div", "mod", "."] else if k = 2 then ["and", "<", "<=", "=", "!=", ">=", ">", "+", "-", "*", "div", "mod", "."]
  else if k = 3 then ["<", "<=", "=", "!=", ">=", ">", "+", "-", "*", "div", "mod", "."] else if k = 4 then ["<", "<=", "=", "!=", ">=", ">", "+", "-", "*", "div", "mod", "."] else if k = 5 then ["+", "-", "*", "div", "mod", "."] else if k = 6 then ["*", "div", "mod", "."] else ["."]
def stp (k : Nat) (r : List Kv) : Prop := ahOf r ∉ (cW k).map codes
theorem cW_sub : ∀ k < 8, 1 ≤ k → ∀ x ∈ cW (k + 1), x ∈ cW k := by decide +kernel
theorem stp.up {k : Nat} {r : List Kv} (h : stp k r) (h1 : 1 ≤ k) (h2 : k < 8) : stp (k + 1) r := fun z => h (by
  obtain ⟨x, hx, e⟩ := List.mem_map.mp z
  exact List.mem_map.mpr ⟨x, cW_sub k h2 h1 x hx, e⟩)
theorem stp.to {r : List Kv} : ∀ {k j : Nat}, stp k r → 1 ≤ k → k ≤ j → j ≤ 8 → stp j r
  | k, j, h, h1, h2, h3 => by
    by_cases e : k = j
    · rw [← e]
      exact h
    · exact stp.to (h.up h1 (by omega)) (by omega) (by omega) h3
  termination_by k j => j - k
theorem stp.ne {k : Nat} {r : List Kv} (h : stp k r) (s : String) (hs : s ∈ cW k) : ahOf r ≠ codes s := fun e => h (by rw [e]; exact List.mem_map_of_mem hs)
theorem stp_sg {g : List Nat} (h : ∀ s ∈ cW 1, codes s ≠ g) (r : List Kv) : stp 1 (.sign g :: r) := fun z => by
  obtain ⟨x, hx, e⟩ := List.mem_map.mp z
  exact h x hx e
theorem stp_par (r : List Kv) : stp 1 (sK ")" :: r) := stp_sg (by decide +kernel) r
theorem stp_com (r : List Kv) : stp 1 (sK "," :: r) := stp_sg (by decide +kernel) r
theorem stp_op (o : Bop) (r : List Kv) : stp (o.lv + 1) (o.k :: r) := by
  unfold stp
  rw [o.ah]
  cases o <;> decide +kernel
theorem inV_c (l : List Nat) : ∀ ss : List String, inV (tx l) (ss.map fun s => V.str (Str.ofString s)) = decide (l ∈ ss.map codes)
  | [] => rfl
  | s :: ss => by
    have ih := inV_c l ss
    have e1 : inV (tx l) ((s :: ss).map fun s => V.str (Str.ofString s)) = ((Str.ofString s == (⟨l.toArray⟩ : Str)) || inV (tx l) (ss.map fun s => V.str (Str.ofString s))) := rfl
    rw [e1, ih]
    by_cases h : l = codes s
    · rw [h, ← codes_S, beq_self_eq_true, Bool.true_or]
      exact (decide_eq_true (List.mem_cons_self ..)).symm
    · have hn : (Str.ofString s == (⟨l.toArray⟩ : Str)) = false := by
        cases e : (Str.ofString s == (⟨l.toArray⟩ : Str)) with
        | false => rfl
        | true =>
          have e2 := eq_of_beq e
          exfalso
          apply h
          unfold codes
          rw [e2]
      rw [hn, Bool.false_or]
      by_cases h2 : l ∈ ss.map codes
      · rw [decide_eq_true h2]
        exact (decide_eq_true (List.mem_cons_of_mem _ h2)).symm
      · rw [decide_eq_false h2]
        refine (decide_eq_false fun z => ?_).symm
        rcases List.mem_cons.mp z with z | z
        · exact h z
        · exact h2 z
theorem tx_ne {l m : List Nat} (h : l ≠ m) : decide (tx l = tx m) = false := decide_eq_false fun e => h (by
  have e1 := V.str.inj e
  have e2 := congrArg Array.toList (Str.mk.inj e1)
  simpa using e2)
theorem ah_is {l : List Nat} (s : String) (h : l = codes s) : decide (tx l = V.str (Str.ofString s)) = true := by
  subst h
  exact decide_eq_true (by rw [codes_S]; rfl)
theorem ah_not {l : List Nat} (s : String) (h : l ≠ codes s) : decide (tx l = V.str (Str.ofString s)) = false := by
  have := tx_ne h
  rw [show V.str (Str.ofString s) = tx (codes s) by rw [codes_S]; rfl]
  exact this
/-- the first token of an expression -/
theorem Gx.hd {n k : Nat} {e : Ex} {ts : List Kv} (h : Gx n k e ts) : ∃ t u, ts = t :: u ∧ (4 ≤ k → ∀ r, ahOf (t :: r) ≠ codes "not") ∧ (8 ≤ k → ∀ r, ahOf (t :: r) ≠ codes "-") := by
  induction h with
  | @leaf n e ts h ok =>
    have w : ∀ s : String, isRes (codes s) = true → codes s ≠ codes "not" → codes s ≠ codes "-" → ∃ t u, [wK s] = t :: u ∧ (4 ≤ 8 → ∀ r, ahOf (t :: r) ≠ codes "not") ∧ (8 ≤ 8 → ∀ r, ahOf (t :: r) ≠ codes "-") := fun s h1 h2 h3 =>
      ⟨_, _, rfl, fun _ r => by show (if isRes (codes s) = true then codes s else []) ≠ _; rw [if_pos h1]; exact h2, fun _ r => by show (if isRes (codes s) = true then codes s else []) ≠ _; rw [if_pos h1]; exact h3⟩
    have nm : ∀ (l : List Nat) (u : List Kv), NmOk l → ∃ t u', .word l :: u = t :: u' ∧ (4 ≤ 8 → ∀ r, ahOf (t :: r) ≠ codes "not") ∧ (8 ≤ 8 → ∀ r, ahOf (t :: r) ≠ codes "-") := fun l u h =>
      ⟨_, _, rfl, fun _ r => by show (if isRes l = true then l else []) ≠ _; rw [nm_not h, if_neg Bool.false_ne_true]; decide +kernel, fun _ r => by show (if isRes l = true then l else []) ≠ _; rw [nm_not h, if_neg Bool.false_ne_true]; decide +kernel⟩
    have em : ([] : List Nat) ≠ codes "not" ∧ ([] : List Nat) ≠ codes "-" := by decide +kernel
    cases e with
    | num m => cases h; exact ⟨_, _, rfl, fun _ _ => em.1, fun _ _ => em.2⟩
    | text m => cases h; exact ⟨_, _, rfl, fun _ _ => em.1, fun _ _ => em.2⟩
    | truth b => cases h; cases b; exact w "false" (by decide +kernel) (by decide +kernel) (by decide +kernel); exact w "true" (by decide +kernel) (by decide +kernel) (by decide +kernel)
    | null => cases h; exact w "null" (by decide +kernel) (by decide +kernel) (by decide +kernel)
    | name l => cases h; exact nm l [] ok
    | field l m => cases h; exact nm l _ ok.1
    | _ => cases h
  | par _ _ => exact ⟨_, _, rfl, fun _ r => by show codes "(" ≠ _; decide +kernel, fun _ r => by show codes "(" ≠ _; decide +kernel⟩
  | @call n e tss hf _ _ _ =>
    refine ⟨_, _, rfl, fun _ r => ?_, fun _ r => ?_⟩
    all_goals
      show (if isRes e.wd.cps.toList = true then e.wd.cps.toList else []) ≠ _
      rcases (fn_wd hf).2 with z | z | z | z | z <;> rw [z] <;> decide +kernel
  | neg _ _ => exact ⟨_, _, rfl, fun _ r => by show codes "-" ≠ _; decide +kernel, fun z => absurd z (by decide)⟩
  | nt _ _ => exact ⟨_, _, rfl, fun z => absurd z (by decide), fun z => absurd z (by decide)⟩
  | @bin n o a b ta tb _ _ ih _ =>
    obtain ⟨t, u, rfl, h1, h2⟩ := ih
    exact ⟨t, _, rfl, fun z => h1 (by revert z; cases o <;> decide), fun z => absurd z (by cases o <;> decide)⟩
  | up _ _ _ ih =>
    obtain ⟨t, u, rfl, h1, h2⟩ := ih
    exact ⟨t, u, rfl, fun z => h1 (by omega), fun z => h2 (by omega)⟩
/-- an answer: the tree and its height -/
def sp_rd (C : Addr) (K : PySem.W.Frag) (k M : Nat) : Sp := fun vs H Q _ => ∃ p n T i lev m e ts r, vs = [.ref p, .int ((lev : Nat) : Int)] ∧ RdA C K H p n T i ∧ rem T i = ts ++ r ∧ m < M ∧ Gx m k e ts ∧ stp k r ∧ lev + m ≤ 12 ∧
  ∀ H' t x, Fd p H H' → RdA C K H' p n T (i + ts.length) → SqT K H' t [x, .int ((e.ht : Nat) : Int)] → Dp K H' x e.d → Q (.ref t) H'
def sp_deeper : Sp := fun vs H Q _ => ∃ (v : V) (lev : Nat), vs = [v, .int (lev : Int)] ∧ lev < 12 ∧ Q (.int ((lev + 1 : Nat) : Int)) H
def sp_rleaf (C : Addr) (K : PySem.W.Frag) (nm : Bool) : Sp := fun vs H Q _ => ∃ p n T i e ts r, vs = [.ref p] ∧ RdA C K H p n T i ∧ rem T i = ts ++ r ∧ leafT e = some ts ∧ e.ok ∧ (nm = true → (∃ l, e = .name l) ∨ ∃ l k, e = .field l k) ∧ stp 8 r ∧
  ∀ H' x, Fd p H H' → RdA C K H' p n T (i + ts.length) → Dp K H' x e.d → Q x H'
def wsS (k : Nat) : List String := if k = 1 then ["or"] else if k = 2 then ["and"] else if k = 5 then ["+", "-"] else ["*", "div", "mod"]
def wsV (k : Nat) : List V := (wsS k).map fun s => V.str (Str.ofString s)
def sp_l2r (P : Program) (w : World) (K : PySem.W.Frag) (mg : Str → Option Value) (base : Heap) (C : Addr) (kk k M : Nat) : Sp := fun vs H Q _ => ∃ p n T i lev wa f m e ts r, vs = [.ref p, .int ((lev : Nat) : Int), .ref wa, .ref f] ∧ SqT K H wa (wsV k) ∧ Hd P w K mg base kk f (sp_rd C K (k + 1) M) ∧ RdA C K H p n T i ∧ rem T i = ts ++ r ∧ m < M ∧ Gx m k e ts ∧ stp k r ∧ lev + m ≤ 12 ∧
  ∀ H' t x, Fd p H H' → RdA C K H' p n T (i + ts.length) → SqT K H' t [x, .int ((e.ht : Nat) : Int)] → Dp K H' x e.d → Q (.ref t) H'
/-- the constants of lineworks.expressions -/
structure Pe (K : PySem.W.Frag) (w : World) (mg : Str → Option Value) (aC aK aF : Addr) (eK : Array DictEntry) (nK : Nat) (eF : Array DictEntry) (nF : Nat) : Prop where
  COMPARISONS : ∃ u, mg "COMPARISONS" = some u ∧ RelV (.ref aC) u
  CONSTANTS : ∃ u, mg "CONSTANTS" = some u ∧ RelV (.ref aK) u
  FUNCTIONS : ∃ u, mg "FUNCTIONS" = some u ∧ RelV (.ref aF) u
  MOST_HEIGHT : ∃ u, mg "MOST_HEIGHT" = some u ∧ RelV (.int 30) u
  MOST_LEVEL_expressions : ∃ u, mg "MOST_LEVEL_expressions" = some u ∧ RelV (.int 12) u
  cmp : ∀ H : Hp, SqT K H aC (["<", "<=", "=", "!=", ">=", ">"].map fun s => V.str (Str.ofString s))
  CONSTANTS_D : KDict K w aK eK nK
  FUNCTIONS_D : KDict K w aF eF nF
  c1 : ∃ t : Addr, PySem.W.nsIn K aK (Str.ofString "true") = some (some (.ref t)) ∧ ∀ H : Hp, SqT K H t [.str "truth", .int 1]
  c0 : ∃ t : Addr, PySem.W.nsIn K aK (Str.ofString "false") = some (some (.ref t)) ∧ ∀ H : Hp, SqT K H t [.str "truth", .int 0]
  cn : ∃ t : Addr, PySem.W.nsIn K aK (Str.ofString "null") = some (some (.ref t)) ∧ ∀ H : Hp, SqT K H t [.str "null"]
  fhit : ∀ e : Ex, e.isf = true → ∃ tk, PySem.W.nsIn K aF e.wd = some (some (.int (e.fargs.length : Nat) tk))
  fmiss : ∀ x ∈ (["", "true", "false", "null"] : List String), PySem.W.nsIn K aF (Str.ofString x) = some none
section
variable {P : Program} {w : World} {K : PySem.W.Frag} {mg : Str → Option Value} {base : Heap} {C aC aK aF : Addr} {eK eF : Array DictEntry} {nK nF : Nat}
theorem ok_deeper {f : Addr} {fd : FuncData} (F : Fun K "deeper" "deeper" s_deeper f fd) (M : Mg mg) (G : Pe K w mg aC aK aF eK nK eF nF) : FnOk P w K mg base CX0 1 f fd ["reader", "level"] sp_deeper := by
  refine F.ok sc_deeper (fun vs H Q E h => ?_) (fun cdv A outer s H vs Q E hr h => ?_)
  · obtain ⟨v, lev, rfl, _⟩ := h
    rfl
  · obtain ⟨v, lev, rfl, hl, q⟩ := h
    refine ⟨_, (pss_cons (ps_if (pt_cmpR op_eq (pv 1) (C8.pe_gc (by rfl) G.MOST_LEVEL_expressions) (nomark _)) (pss_one ps_never) pss_nil)
      (pss_one (ps_ret (pe_op op_add (pv 1) pe_int)))), ?_⟩
    refine ⟨_, rfl, rfl, _, rfl, ?_⟩
    rw [show decide (V.int (lev : Int) = V.int 12) = false from decide_eq_false fun e => by have := V.int.inj e; omega]
    refine iteF ?_
    exact ⟨_, rfl, _, _, rfl, rfl, q⟩
theorem ok_named {f : Addr} {fd : FuncData} (F : Fun K "read_named" "read_named" s_read_named f fd) (M : Mg mg) (c_Reader_ahead : ClM P w K mg base 2 C "ahead" (sp_ahead C K)) (c_Reader_take : ClM P w K mg base 1 C "take" (sp_take C K)) (c_Reader_take_name : ClM P w K mg base 2 C "take_name" (sp_tname C K)) : FnOk P w K mg base CX0 3 f fd ["reader"] (sp_rleaf C K true) := by
  refine F.ok sc_read_named (fun vs H Q E h => ?_) (fun cdv A outer s H vs Q E hr h => ?_)
  · obtain ⟨p, n, T, i, e, ts, r, rfl, _⟩ := h
    rfl
  · obtain ⟨p, n, T, i, e, ts, r, rfl, rd, er, hl, ok, hn, st, q⟩ := h
    refine ⟨_, (pss_cons (ps_set (i := 1) sc_read_named.nd rfl (.inl rfl) (pe_mt0 c_Reader_take_name hr (by first | decide | omega) (pv 0)))
      (pss_cons (ps_if (pt_cmpR op_ne (pe_mt0 c_Reader_ahead hr (by first | decide | omega) (pv 0)) pe_str (nomark _)) (pss_one (ps_ret (pe_tup (pa_cons pe_str (pa_cons (pv 1) pa_nil))))) pss_nil)
      (pss_cons (ps_expr (pe_mt0 c_Reader_take hr (by first | decide | omega) (pv 0)))
      (pss_one (ps_ret (pe_tup (pa_cons pe_str (pa_cons (pv 1) (pa_cons (pe_mt0 c_Reader_take_name hr (by first | decide | omega) (pv 0)) pa_nil))))))))), ?_⟩
    rcases hn rfl with ⟨l, rfl⟩ | ⟨l, k, rfl⟩
    · cases hl
      refine ⟨_, rfl, rd.go nf_tname ⟨p, n, T, i, l, r, rfl, rd, er, ok, fun H1 f1 rd1 => ?_⟩⟩
      have er1 := rem_app (ts := [.word l]) er
      refine ⟨_, rfl, rd1.go nf_ahead ⟨p, n, T, _, rfl, rd1, fun H2 s2 => ⟨rfl, _, rfl, ?_⟩⟩⟩
      rw [show rem T (i + 1) = r from er1, ah_not "." (st.ne "." (by decide))]
      refine iteT ?_
      refine ⟨_, rfl, by show 2 ≤ sizeLine; decide, fun t nt => ?_⟩
      exact q _ _ ((f1.trans (Fd.of s2)).trans (Fd.new nt)) ((rd1.ext s2).ext (same_upd nt)) (.tup (.inl (.inl upd_same)) (.cons (.str _) (.cons (.str _) .nil)))
    · cases hl
      have er' : rem T i = .word l :: sK "." :: .word k :: r := er
      refine ⟨_, rfl, rd.go nf_tname ⟨p, n, T, i, l, _, rfl, rd, er', ok.1, fun H1 f1 rd1 => ?_⟩⟩
      have er1 := (rem_step er').2
      refine ⟨_, rfl, rd1.go nf_ahead ⟨p, n, T, _, rfl, rd1, fun H2 s2 => ⟨rfl, _, rfl, ?_⟩⟩⟩
      rw [er1, show ahOf (sK "." :: .word k :: r) = codes "." from rfl, ah_is "." rfl]
      refine iteF ?_
      have rd2 := rd1.ext s2
      refine ⟨_, rfl, rd2.go nf_take ⟨p, n, T, _, _, _, rfl, rd2, er1, fun H3 f3 rd3 => ?_⟩⟩
      have er3 := (rem_step er1).2
      refine ⟨_, rfl, _, rfl, rd3.go nf_tname ⟨p, n, T, _, k, r, rfl, rd3, er3, ok.2, fun H4 f4 rd4 => ?_⟩⟩
      refine ⟨by show 3 ≤ sizeLine; decide, fun t nt => ?_⟩
      exact q _ _ ((((f1.trans (Fd.of s2)).trans f3).trans f4).trans (Fd.new nt)) (rd4.ext (same_upd nt)) (.tup (.inl (.inl upd_same)) (.cons (.str _) (.cons (.str _) (.cons (.str _) .nil))))
theorem kd2 (x : String) (b : Bool) (h : inV (.str (Str.ofString x)) [.str "number", .str "text"] = b) : inV (.str (Str.ofString x)) [.str "number", .str "text"] = b := h
theorem ok_rleaf {f : Addr} {fd : FuncData} (F : Fun K "read_leaf" "read_leaf" s_read_leaf f fd) (M : Mg mg) (G : Pe K w mg aC aK aF eK nK eF nF) (c_Reader_kind : ClM P w K mg base 1 C "kind" (sp_kind C K)) (c_Reader_ahead : ClM P w K mg base 2 C "ahead" (sp_ahead C K)) (c_Reader_take : ClM P w K mg base 1 C "take" (sp_take C K)) (c_read_named : Cl P w K mg base 3 "read_named" (sp_rleaf C K true)) : FnOk P w K mg base CX0 4 f fd ["reader"] (sp_rleaf C K false) := by
  refine F.ok sc_read_leaf (fun vs H Q E h => ?_) (fun cdv A outer s H vs Q E hr h => ?_)
  · obtain ⟨p, n, T, i, e, ts, r, rfl, _⟩ := h
    rfl
  · obtain ⟨p, n, T, i, e, ts, r, rfl, rd, er, hl, ok, _, st, q⟩ := h
    have wd : ∀ (sg : String) (t : Addr) (ys : List V) (ds : List PyData), isRes (codes sg) = true → sg ≠ "name" → ts = [wK sg] → PySem.W.nsIn K aK (Str.ofString sg) = some (some (.ref t)) → (∀ H : Hp, SqT K H t ys) → (∀ H : Hp, DpAll K H ys ds) → e.d = .tuple ds → ∃ t', PSs (cxOf CX0 P w K mg base N_read_leaf "read_leaf" (defScope s_read_leaf) f cdv A outer s H E).nox ((defBody s_read_leaf)) t' ∧ t' { nx := fun _ H' => Q .non H', rt := Q } [some (.ref p), none, none] H := fun sg t ys ds hres hne ets hns ht hys ed => by
      subst ets
      have er' : rem T i = wK sg :: r := er
      refine ⟨_, (pss_cons (ps_set (i := 1) sc_read_leaf.nd rfl (.inl rfl) (pe_mt0 c_Reader_kind hr (by first | decide | omega) (pv 0)))
      (pss_cons (ps_if (pt_cmpR (inK K) (pv 1) (pe_tup (pa_cons pe_str (pa_cons pe_str pa_nil))) (by rfl)) (pss_one (ps_ret (pe_tup (pa_cons (pv 1) (pa_cons (pe_mt0 c_Reader_take hr (by first | decide | omega) (pv 0)) pa_nil))))) pss_nil)
      (pss_cons (ps_if (pt_cmpR op_eq (pv 1) pe_str (nomark _)) (pss_one (ps_ret (pe_u c_read_named hr (by first | decide | omega) (by rfl) (pa_cons (pv 0) pa_nil)))) pss_nil)
      (pss_cons (ps_set (i := 2) sc_read_leaf.nd rfl (.inl rfl) (pe_mt0 c_Reader_ahead hr (by first | decide | omega) (pv 0)))
      (pss_cons (ps_if (pt_cmpR (op_notIn_kd G.CONSTANTS_D) (pv 2) (C8.pe_gc (by rfl) G.CONSTANTS) (by rfl)) (pss_one ps_never) pss_nil)
      (pss_cons (ps_expr (pe_mt0 c_Reader_take hr (by first | decide | omega) (pv 0)))
      (pss_one (ps_ret (pe_ix ix_kdict (C8.pe_gc (by rfl) G.CONSTANTS) (pv 2) (fun _ _ => rfl)))))))))), ?_⟩
      refine ⟨_, rfl, rd.go nf_kind ⟨p, n, T, i, rfl, rd, ?_⟩⟩
      rw [er', show kdOf (wK sg :: r) = "reserved" by show (if isRes (codes sg) = true then ("reserved" : Str) else "name") = _; rw [if_pos hres]]
      refine ⟨_, rfl, by show 2 ≤ sizeLine; decide, fun tp ntp => ?_⟩
      have s1 := same_upd ntp (o := .tup [.str "number", .str "text"])
      refine ⟨tp, _, rfl, .inr (.inl (.inl upd_same)), rfl, rfl, _, rfl, ?_⟩
      rw [if_neg Bool.false_ne_true, show inV (.str "reserved") [.str "number", .str "text"] = false from kd2 "reserved" false (by decide +kernel)]
      refine iteF ?_
      refine ⟨_, rfl, rfl, _, rfl, iteF ?_⟩
      have rd1 := rd.ext s1
      refine ⟨_, rfl, rd1.go nf_ahead ⟨p, n, T, _, rfl, rd1, fun H2 s2 => ?_⟩⟩
      rw [er', show ahOf (wK sg :: r) = codes sg by show (if isRes (codes sg) = true then codes sg else []) = _; rw [if_pos hres]]
      refine ⟨_, rfl, _, _, rfl, rfl, (by rw [← codes_S]; exact hns), ?_⟩
      refine ⟨_, rfl, iteF ?_⟩
      have rd2 := rd1.ext s2
      refine ⟨_, rfl, rd2.go nf_take ⟨p, n, T, _, _, _, rfl, rd2, er', fun H3 f3 rd3 => ?_⟩⟩
      refine ⟨_, rfl, aK, _, .ref t, rfl, rfl, ⟨eK, nK, _, G.CONSTANTS_D.1, G.CONSTANTS_D.2, (by rw [← codes_S]; exact hns), rfl⟩, ?_⟩
      exact q _ _ (((Fd.of s1).trans (Fd.of s2)).trans f3) rd3 (by rw [ed]; exact .tup (ht _) (hys _))
    have val : ∀ (kv : Kv) (sg : String), ts = [kv] → kv.kd = Str.ofString sg → (∀ u, kdOf (kv :: u) = kv.kd) → inV (.str (Str.ofString sg)) [.str "number", .str "text"] = true → (∀ H : Hp, Dp K H (kvV kv) kv.val) → e.d = .tuple [.str kv.kd, kv.val] → ∃ t', PSs (cxOf CX0 P w K mg base N_read_leaf "read_leaf" (defScope s_read_leaf) f cdv A outer s H E).nox ((defBody s_read_leaf)) t' ∧ t' { nx := fun _ H' => Q .non H', rt := Q } [some (.ref p), none, none] H := fun kv sg ets hk hkd hin hv ed => by
      subst ets
      have er' : rem T i = kv :: r := er
      refine ⟨_, (pss_cons (ps_set (i := 1) sc_read_leaf.nd rfl (.inl rfl) (pe_mt0 c_Reader_kind hr (by first | decide | omega) (pv 0)))
      (pss_cons (ps_if (pt_cmpR (inK K) (pv 1) (pe_tup (pa_cons pe_str (pa_cons pe_str pa_nil))) (by rfl)) (pss_one (ps_ret (pe_tup (pa_cons (pv 1) (pa_cons (pe_mt0 c_Reader_take hr (by first | decide | omega) (pv 0)) pa_nil))))) pss_nil)
      (pss_cons (ps_if (pt_cmpR op_eq (pv 1) pe_str (nomark _)) (pss_one (ps_ret (pe_u c_read_named hr (by first | decide | omega) (by rfl) (pa_cons (pv 0) pa_nil)))) pss_nil)
      (pss_cons (ps_set (i := 2) sc_read_leaf.nd rfl (.inl rfl) (pe_mt0 c_Reader_ahead hr (by first | decide | omega) (pv 0)))
      (pss_cons (ps_if (pt_cmpR (op_notIn_kd G.CONSTANTS_D) (pv 2) (C8.pe_gc (by rfl) G.CONSTANTS) (by rfl)) (pss_one ps_never) pss_nil)
      (pss_cons (ps_expr (pe_mt0 c_Reader_take hr (by first | decide | omega) (pv 0)))
      (pss_one (ps_ret (pe_ix ix_kdict (C8.pe_gc (by rfl) G.CONSTANTS) (pv 2) (fun _ _ => rfl)))))))))), ?_⟩
      refine ⟨_, rfl, rd.go nf_kind ⟨p, n, T, i, rfl, rd, ?_⟩⟩
      rw [er', hkd]
      refine ⟨_, rfl, by show 2 ≤ sizeLine; decide, fun tp ntp => ?_⟩
      have s1 := same_upd ntp (o := .tup [.str "number", .str "text"])
      refine ⟨tp, _, rfl, .inr (.inl (.inl upd_same)), rfl, rfl, _, rfl, ?_⟩
      rw [if_neg Bool.false_ne_true, hk, hin]
      refine iteT ?_
      have rd1 := rd.ext s1
      refine ⟨_, rfl, _, rfl, rd1.go nf_take ⟨p, n, T, _, _, _, rfl, rd1, er', fun H3 f3 rd3 => ?_⟩⟩
      refine ⟨by show 2 ≤ sizeLine; decide, fun t nt => ?_⟩
      exact q _ _ (((Fd.of s1).trans f3).trans (Fd.new nt)) (rd3.ext (same_upd nt)) (by rw [ed, hk]; exact .tup (.inl (.inl upd_same)) (.cons (.str _) (.cons (hv _) .nil)))
    have nam : ∀ (l : List Nat) (u : List Kv), ts = .word l :: u → NmOk l → ((∃ l, e = .name l) ∨ ∃ l k, e = .field l k) → ∃ t', PSs (cxOf CX0 P w K mg base N_read_leaf "read_leaf" (defScope s_read_leaf) f cdv A outer s H E).nox ((defBody s_read_leaf)) t' ∧ t' { nx := fun _ H' => Q .non H', rt := Q } [some (.ref p), none, none] H := fun l u ets nm hn => by
      have er' : rem T i = .word l :: (u ++ r) := by rw [er, ets]; rfl
      refine ⟨_, (pss_cons (ps_set (i := 1) sc_read_leaf.nd rfl (.inl rfl) (pe_mt0 c_Reader_kind hr (by first | decide | omega) (pv 0)))
      (pss_cons (ps_if (pt_cmpR (inK K) (pv 1) (pe_tup (pa_cons pe_str (pa_cons pe_str pa_nil))) (by rfl)) (pss_one (ps_ret (pe_tup (pa_cons (pv 1) (pa_cons (pe_mt0 c_Reader_take hr (by first | decide | omega) (pv 0)) pa_nil))))) pss_nil)
      (pss_cons (ps_if (pt_cmpR op_eq (pv 1) pe_str (nomark _)) (pss_one (ps_ret (pe_u c_read_named hr (by first | decide | omega) (by rfl) (pa_cons (pv 0) pa_nil)))) pss_nil)
      (pss_cons (ps_set (i := 2) sc_read_leaf.nd rfl (.inl rfl) (pe_mt0 c_Reader_ahead hr (by first | decide | omega) (pv 0)))
      (pss_cons (ps_if (pt_cmpR (op_notIn_kd G.CONSTANTS_D) (pv 2) (C8.pe_gc (by rfl) G.CONSTANTS) (by rfl)) (pss_one ps_never) pss_nil)
      (pss_cons (ps_expr (pe_mt0 c_Reader_take hr (by first | decide | omega) (pv 0)))
      (pss_one (ps_ret (pe_ix ix_kdict (C8.pe_gc (by rfl) G.CONSTANTS) (pv 2) (fun _ _ => rfl)))))))))), ?_⟩
      refine ⟨_, rfl, rd.go nf_kind ⟨p, n, T, i, rfl, rd, ?_⟩⟩
      rw [er', show kdOf (.word l :: (u ++ r)) = "name" by show (if isRes l = true then ("reserved" : Str) else "name") = "name"; rw [nm_not nm, if_neg Bool.false_ne_true]]
      refine ⟨_, rfl, by show 2 ≤ sizeLine; decide, fun tp ntp => ?_⟩
      have s1 := same_upd ntp (o := .tup [.str "number", .str "text"])
      refine ⟨tp, _, rfl, .inr (.inl (.inl upd_same)), rfl, rfl, _, rfl, ?_⟩
      rw [if_neg Bool.false_ne_true, show inV (.str "name") [.str "number", .str "text"] = false from kd2 "name" false (by decide +kernel)]
      refine iteF ?_
      refine ⟨_, rfl, rfl, _, rfl, iteT ?_⟩
      have rd1 := rd.ext s1
      exact ⟨_, rfl, p, n, T, i, e, ts, r, rfl, rd1, er, hl, ok, fun _ => hn, st, fun H' x f' rd' dp => q H' x ((Fd.of s1).trans f') rd' dp⟩
    cases e with
    | num m => cases hl; exact val (.num m) "number" rfl rfl (fun _ => rfl) (by decide +kernel) (fun H => val_dp _) rfl
    | text m => cases hl; exact val (.text m) "text" rfl rfl (fun _ => rfl) (by decide +kernel) (fun H => val_dp _) rfl
    | truth b =>
      cases b with
      | true =>
        obtain ⟨t, h1, h2⟩ := G.c1
        exact wd "true" t _ _ (by decide +kernel) (by decide) (Option.some.inj hl).symm h1 h2 (fun H => .cons (.str _) (.cons (.int _) .nil)) rfl
      | false =>
        obtain ⟨t, h1, h2⟩ := G.c0
        exact wd "false" t _ _ (by decide +kernel) (by decide) (Option.some.inj hl).symm h1 h2 (fun H => .cons (.str _) (.cons (.int _) .nil)) rfl
    | null =>
      obtain ⟨t, h1, h2⟩ := G.cn
      exact wd "null" t _ _ (by decide +kernel) (by decide) (Option.some.inj hl).symm h1 h2 (fun H => .cons (.str _) .nil) rfl
    | name l => exact nam l [] (Option.some.inj hl).symm ok (.inl ⟨l, rfl⟩)
    | field l k => exact nam l _ (Option.some.inj hl).symm ok.1 (.inr ⟨l, k, rfl⟩)
    | _ => cases hl
end

section
variable {P : Program} {w : World} {K : PySem.W.Frag} {mg : Str → Option Value} {base : Heap} {C aC aK aF : Addr} {eK eF : Array DictEntry} {nK nF : Nat}
theorem Cl.mono {j k : Nat} {x : Str} {sp : Sp} (c : Cl P w K mg base j x sp) (h : j ≤ k) : Cl P w K mg base k x sp := by
  obtain ⟨f, fd, ps, F, r⟩ := c.ex
  exact ⟨f, fd, ps, F.mono h, r⟩
theorem str_tx (s : String) : V.str (Str.ofString s) = tx (codes s) := by
  rw [codes_S]
  rfl
theorem ok_paren {f : Addr} {fd : FuncData} {j z : Nat} (hj : 3 ≤ j) (F : Fun K "read_parenthesis" "read_parenthesis" s_read_parenthesis f fd) (M : Mg mg) (c_deeper : Cl P w K mg base 1 "deeper" sp_deeper) (c_Reader_take : ClM P w K mg base 1 C "take" (sp_take C K)) (c_Reader_expect : ClM P w K mg base 3 C "expect" (sp_expect C K)) (c_read_or : Cl P w K mg base j "read_or" (sp_rd C K 1 z)) :
    FnOk P w K mg base CX0 (j + 1) f fd ["reader", "level"] (fun vs H Q _ => ∃ (p : Addr) (n : Src) (T : List (Kv × Nat)) (i lev m : Nat) (e : Ex) (ts r : List Kv), vs = [.ref p, .int ((lev : Nat) : Int)] ∧ RdA C K H p n T i ∧ rem T i = sK "(" :: (ts ++ (sK ")" :: r)) ∧ m < z ∧ Gx m 1 e ts ∧ lev + (m + 1) ≤ 12 ∧
      ∀ H' t x, Fd p H H' → RdA C K H' p n T (i + (ts.length + 2)) → SqT K H' t [x, .int ((e.ht : Nat) : Int)] → Dp K H' x e.d → Q (.ref t) H') := by
  refine F.ok sc_read_parenthesis (fun vs H Q E h => ?_) (fun cdv A outer s H vs Q E hr h => ?_)
  · obtain ⟨p, n, T, i, lev, m, e, ts, r, rfl, _⟩ := h
    rfl
  · obtain ⟨p, n, T, i, lev, m, e, ts, r, rfl, rd, er, hm, g, hl, q⟩ := h
    refine ⟨_, (pss_cons (ps_set (i := 2) sc_read_parenthesis.nd rfl (.inl rfl) (pe_u c_deeper hr (by first | decide | omega) (by rfl) (pa_cons (pv 0) (pa_cons (pv 1) pa_nil))))
      (pss_cons (ps_expr (pe_mt0 c_Reader_take hr (by first | decide | omega) (pv 0)))
      (pss_cons (ps_asg (pe_u c_read_or hr (by first | decide | omega) (by rfl) (pa_cons (pv 0) (pa_cons (pv 2) pa_nil))) (pg_tup (by rfl) (pgs_cons (pg_name (i := 3) sc_read_parenthesis.nd rfl (.inl rfl)) (pgs_cons (pg_name (i := 4) sc_read_parenthesis.nd rfl (.inl rfl)) pgs_nil))))
      (pss_cons (ps_expr (pe_mt c_Reader_expect hr (by first | decide | omega) (pv 0) (pa_cons pe_str pa_nil)))
      (pss_one (ps_ret (pe_tup (pa_cons (pv 3) (pa_cons (pv 4) pa_nil))))))))), ?_⟩
    refine ⟨_, rfl, _, rfl, _, lev, rfl, by omega, ?_⟩
    refine ⟨_, rfl, rd.go nf_take ⟨p, n, T, i, _, _, rfl, rd, er, fun H1 f1 rd1 => ?_⟩⟩
    have er1 := (rem_step er).2
    refine ⟨_, rfl, _, rfl, p, n, T, _, lev + 1, m, e, ts, _, rfl, rd1, er1, hm, g, stp_par r, by omega, fun H2 t x f2 rd2 ht dp => ?_⟩
    have er2 := rem_app er1
    refine ⟨t, _, rfl, ht, rfl, _, _, rfl, _, _, rfl, rfl, ?_⟩
    refine ⟨_, rfl, rd2.go nf_expect ⟨p, n, T, _, codes ")", _, _, congrArg (fun z => [V.ref p, z]) (str_tx ")"), rd2, er2, by rw [er2]; rfl, fun H3 f3 rd3 => ?_⟩⟩
    have hp2 := rd2.ins
    refine ⟨_, rfl, _, rfl, by show 2 ≤ sizeLine; decide, fun u nu => ?_⟩
    refine q _ _ _ (((f1.trans f2).trans f3).trans (Fd.new nu)) ?_ (.inl (.inl upd_same)) (Dp.ext (same_upd nu) _ _ (Dp.fdI hp2 f3 _ _ dp))
    rw [show i + (ts.length + 2) = i + 1 + ts.length + 1 by omega]
    exact rd3.ext (same_upd nu)
/-! an argument list -/
def ct (tss : List (List Kv)) : List Kv := (tss.map fun t => sK "," :: t).flatten
theorem cj_ct : ∀ (t : List Kv) (tss : List (List Kv)), cj (t :: tss) = t ++ ct tss
  | t, [] => by
    show t = t ++ []
    rw [List.append_nil]
  | t, u :: tss => by
    show t ++ sK "," :: cj (u :: tss) = _
    rw [cj_ct u tss]
    rfl
theorem ct_stp (tss : List (List Kv)) (r : List Kv) : stp 1 (ct tss ++ (sK ")" :: r)) := by
  cases tss with
  | nil => exact stp_par r
  | cons t tss => exact stp_com _
def mxs (es : List Ex) : Nat := (es.map Ex.ht).foldl max 0
theorem mxs_snoc (es : List Ex) (e : Ex) : mxs (es ++ [e]) = max (mxs es) e.ht := by
  unfold mxs
  rw [List.map_append, List.foldl_append]
  rfl
theorem fn_ht {e : Ex} (h : e.isf = true) : e.ht = mxs e.fargs + 1 := by
  cases e with
  | f1 m a => show a.ht + 1 = max 0 a.ht + 1; omega
  | f2 m a b => show max a.ht b.ht + 1 = max (max 0 a.ht) b.ht + 1; omega
  | f3 a b c => show max a.ht (max b.ht c.ht) + 1 = max (max (max 0 a.ht) b.ht) c.ht + 1; omega
  | _ => cases h
theorem mx_int (a b : Nat) : (if (b : Int) > (a : Int) then ((b : Nat) : Int) else (a : Int)) = ((max a b : Nat) : Int) := by split <;> omega
theorem fn_res {e : Ex} (h : e.isf = true) : isRes e.wd.cps.toList = true := by
  rcases (fn_wd h).2 with z | z | z | z | z <;> rw [z] <;> decide +kernel
theorem fn_ah {e : Ex} (h : e.isf = true) (r : List Kv) : ahOf (.word e.wd.cps.toList :: r) = e.wd.cps.toList := by
  show (if isRes e.wd.cps.toList = true then e.wd.cps.toList else []) = _
  rw [if_pos (fn_res h)]
theorem S_back (x : Str) : (⟨x.cps.toList.toArray⟩ : Str) = x := SX.S_tl x
theorem exs_only : ∀ es : List Ex, tupOnlys (es.map Ex.d) = true
  | [] => rfl
  | e :: es => by
    rw [List.map_cons]
    unfold tupOnlys
    rw [exs_only es, ex_only e]
    rfl
theorem ok_call {f : Addr} {fd : FuncData} {j z : Nat} (hj : 3 ≤ j) (F : Fun K "read_call" "read_call" s_read_call f fd) (M : Mg mg) (G : Pe K w mg aC aK aF eK nK eF nF) (c_deeper : Cl P w K mg base 1 "deeper" sp_deeper) (c_Reader_take : ClM P w K mg base 1 C "take" (sp_take C K)) (c_Reader_expect : ClM P w K mg base 3 C "expect" (sp_expect C K)) (c_read_or : Cl P w K mg base j "read_or" (sp_rd C K 1 z)) :
    FnOk P w K mg base CX0 (j + 1) f fd ["reader", "level"] (fun vs H Q _ => ∃ (p : Addr) (n : Src) (T : List (Kv × Nat)) (i lev m : Nat) (e : Ex) (tss : List (List Kv)) (r : List Kv), vs = [.ref p, .int ((lev : Nat) : Int)] ∧ RdA C K H p n T i ∧ rem T i = .word e.wd.cps.toList :: sK "(" :: (cj tss ++ (sK ")" :: r)) ∧ m < z ∧ e.isf = true ∧ tss.length = e.fargs.length ∧ (∀ (j : Nat) (x : Ex) (t : List Kv), e.fargs[j]? = some x → tss[j]? = some t → Gx m 1 x t) ∧ lev + (m + 1) ≤ 12 ∧
      ∀ H' t x, Fd p H H' → RdA C K H' p n T (i + ((cj tss).length + 3)) → SqT K H' t [x, .int ((e.ht : Nat) : Int)] → Dp K H' x e.d → Q (.ref t) H') := by
  refine F.ok sc_read_call (fun vs H Q E h => ?_) (fun cdv A outer s H vs Q E hr h => ?_)
  · obtain ⟨p, n, T, i, lev, m, e, tss, r, rfl, _⟩ := h
    rfl
  · obtain ⟨p, n, T, i, lev, m, e, tss, r, rfl, rd, er, hm, hf, htl, g, hl, q⟩ := h
    obtain ⟨few1, few2⟩ := fn_few hf
    obtain ⟨e0, es, hes⟩ : ∃ e0 es, e.fargs = e0 :: es := by
      cases h : e.fargs with
      | nil => rw [h] at few1; cases few1
      | cons a b => exact ⟨a, b, rfl⟩
    obtain ⟨t0, tr, hts⟩ : ∃ t0 tr, tss = t0 :: tr := by
      cases h : tss with
      | nil => rw [h, hes] at htl; cases htl
      | cons a b => exact ⟨a, b, rfl⟩
    subst hts
    rw [cj_ct, List.append_assoc] at er
    refine ⟨_, (pss_cons (ps_set (i := 2) sc_read_call.nd rfl (.inl rfl) (pe_u c_deeper hr (by first | decide | omega) (by rfl) (pa_cons (pv 0) (pa_cons (pv 1) pa_nil))))
      (pss_cons (ps_set (i := 3) sc_read_call.nd rfl (.inl rfl) (pe_mt0 c_Reader_take hr (by first | decide | omega) (pv 0)))
      (pss_cons (ps_expr (pe_mt c_Reader_expect hr (by first | decide | omega) (pv 0) (pa_cons pe_str pa_nil)))
      (pss_cons (ps_asg (pe_u c_read_or hr (by first | decide | omega) (by rfl) (pa_cons (pv 0) (pa_cons (pv 2) pa_nil))) (pg_tup (by rfl) (pgs_cons (pg_name (i := 4) sc_read_call.nd rfl (.inl rfl)) (pgs_cons (pg_name (i := 5) sc_read_call.nd rfl (.inl rfl)) pgs_nil))))
      (pss_cons (ps_set (i := 6) sc_read_call.nd rfl (.inl rfl) (pe_lst (pa_cons (pv 4) pa_nil)))
      (pss_cons (ps_while PassesOwn.never (pt_cmpR op_lt (pe_callB (len_seqK K) (by rfl) M.len PySem.boot_len (pa_cons (pv 6) pa_nil)) (pe_ix ix_kdict (C8.pe_gc (by rfl) G.FUNCTIONS) (pv 3) (fun _ _ => rfl)) (nomark _)) (pss_cons (ps_expr (pe_mt c_Reader_expect hr (by first | decide | omega) (pv 0) (pa_cons pe_str pa_nil)))
      (pss_cons (ps_asg (pe_u c_read_or hr (by first | decide | omega) (by rfl) (pa_cons (pv 0) (pa_cons (pv 2) pa_nil))) (pg_tup (by rfl) (pgs_cons (pg_name (i := 4) sc_read_call.nd rfl (.inl rfl)) (pgs_cons (pg_name (i := 7) sc_read_call.nd rfl (.inl rfl)) pgs_nil))))
      (pss_cons (ps_expr (pe_bmK K PySem.F.plainAttrs_list PySem.F.slot_list_append PySem.F.type_list_append mt_append (pv 6) (pa_cons (pv 4) pa_nil)))
      (pss_one (ps_set (i := 5) sc_read_call.nd rfl (.inl rfl) (pe_callB (call_max2 rfl) (by rfl) M.max (by decide +kernel) (pa_cons (pv 5) (pa_cons (pv 7) pa_nil)))))))))
      (pss_cons (ps_expr (pe_mt c_Reader_expect hr (by first | decide | omega) (pv 0) (pa_cons pe_str pa_nil)))
      (pss_one (ps_ret (pe_tup (pa_cons (pe_tup (pa_cons (pv 3) (StX.pa_star (pv 6) pa_nil))) (pa_cons (pe_op op_add (pv 5) pe_int) pa_nil)))))))))))), ?_⟩
    refine ⟨_, rfl, _, rfl, _, lev, rfl, by omega, ?_⟩
    refine ⟨_, rfl, rd.go nf_take ⟨p, n, T, i, _, _, rfl, rd, er, fun H1 f1 rd1 => ?_⟩⟩
    have er1 := (rem_step er).2
    refine ⟨_, rfl, rd1.go nf_expect ⟨p, n, T, _, codes "(", _, _, congrArg (fun z => [V.ref p, z]) (str_tx "("), rd1, er1, by rw [er1]; rfl, fun H2 f2 rd2 => ?_⟩⟩
    have er2 := (rem_step er1).2
    refine ⟨_, rfl, _, rfl, p, n, T, _, lev + 1, m, e0, t0, _, rfl, rd2, er2, hm, g 0 e0 t0 (by rw [hes]; rfl) rfl, ct_stp tr r, by omega, fun H3 u x f3 rd3 hu dp => ?_⟩
    have er3 := rem_app er2
    refine ⟨u, _, rfl, hu, rfl, _, _, rfl, _, _, rfl, rfl, ?_⟩
    refine ⟨_, rfl, by show 1 ≤ sizeLine; decide, fun D nD => ?_⟩
    have f4 : Fd p H3 (upd H3 D (.lst [x])) := Fd.new nD
    obtain ⟨nDa, nDp⟩ := rd3.new nD
    have nD0 := ((f1.trans f2).trans f3).back nD nDp
    have rd4 := rd3.ext (same_upd nD (o := .lst [x]))
    have eD : (upd H3 D (.lst [x])) D = some (.lst [x]) := upd_same
    have dp4 := Dp.ext (same_upd nD (o := .lst [x])) _ _ dp
    have f04 := ((f1.trans f2).trans f3).trans f4
    generalize upd H3 D (.lst [x]) = H4 at rd4 eD dp4 f04
    have es1 : e.fargs.length = es.length + 1 := by rw [hes]; rfl
    have trl : tr.length = es.length := by rw [es1] at htl; exact Nat.succ.inj htl
    have lt1000 : (1000 : Nat) < sizeLine := by decide
    have erd : ∀ k, k ≤ tr.length → rem T (i + 2 + t0.length + (ct (tr.take k)).length) = ct (tr.drop k) ++ (sK ")" :: r) := fun k hk => by
      refine rem_app ?_
      rw [show i + 2 + t0.length = i + 1 + 1 + t0.length by omega, er3, ← List.append_assoc]
      congr 1
      unfold ct
      rw [← List.flatten_append, ← List.map_append, List.take_append_drop]
    refine ⟨fun k σ Hi => ∃ (c : Nat) (xs : List V) (y4 y7 : Option V), σ = [some (.ref p), some (.int ((lev : Nat) : Int)), some (.int ((lev + 1 : Nat) : Int)), some (.str ⟨e.wd.cps.toList.toArray⟩), y4, some (.int ((mxs (e0 :: es.take c) : Nat) : Int)), some (.ref D), y7] ∧ k = es.length - c ∧ c ≤ es.length ∧ Fd p H Hi ∧ RdA C K Hi p n T (i + 2 + t0.length + (ct (tr.take c)).length) ∧ Hi D = some (.lst xs) ∧ DpAll K Hi xs ((e0 :: es.take c).map Ex.d),
      ⟨_, 0, [x], _, _, by rw [show mxs (e0 :: es.take 0) = e0.ht by show max 0 e0.ht = _; omega]; rfl, rfl, Nat.zero_le _, f04, by rw [show i + 2 + t0.length + (ct (tr.take 0)).length = i + 1 + 1 + t0.length by show i + 2 + t0.length + 0 = _; omega]; exact rd4, eD, .cons dp4 .nil⟩, fun k σ Hi hW => ?_⟩
    obtain ⟨c, xs, y4, y7, rfl, rfl, hc, fi, rdi, eDi, dai⟩ := hW
    have xl : xs.length = c + 1 := by
      rw [DpAll.len dai, List.length_map, List.length_cons, List.length_take]
      omega
    obtain ⟨tk, hit⟩ := G.fhit e hf
    have hpD : p ≠ D := by
      obtain ⟨_, _, _, hz⟩ := rdi.ins
      exact ne_of hz eDi (fun z => nomatch z)
    refine ⟨_, rfl, D, xs, rfl, .inl (.of eDi), _, rfl, aF, _, .int (e.fargs.length : Nat), rfl, rfl, ⟨eF, nF, _, G.FUNCTIONS_D.1, G.FUNCTIONS_D.2, (by rw [S_back]; exact hit), ⟨_, rfl⟩⟩, _, _, rfl, rfl, _, rfl, ?_⟩
    rw [xl, es1]
    by_cases hlt : c < es.length
    · rw [decide_eq_true (show (((c + 1 : Nat)) : Int) < ((es.length + 1 : Nat) : Int) by omega)]
      refine iteT ?_
      refine ⟨fun σ H' => ∃ (xs : List V) (y4 y7 : Option V), σ = [some (.ref p), some (.int ((lev : Nat) : Int)), some (.int ((lev + 1 : Nat) : Int)), some (.str ⟨e.wd.cps.toList.toArray⟩), y4, some (.int ((mxs (e0 :: es.take (c + 1)) : Nat) : Int)), some (.ref D), y7] ∧ Fd p H H' ∧ RdA C K H' p n T (i + 2 + t0.length + (ct (tr.take (c + 1))).length) ∧ H' D = some (.lst xs) ∧ DpAll K H' xs ((e0 :: es.take (c + 1)).map Ex.d), fun σ H' hN => ?_, ?_⟩
      · obtain ⟨xs, y4, y7, rfl, h1, h2, h3, h4⟩ := hN
        exact ⟨es.length - (c + 1), by omega, c + 1, xs, y4, y7, rfl, rfl, by omega, h1, h2, h3, h4⟩
      · have htc : c < tr.length := by omega
        have er5 := erd c (by omega)
        have er5' : rem T (i + 2 + t0.length + (ct (tr.take c)).length) = sK "," :: (tr[c] ++ (ct (tr.drop (c + 1)) ++ (sK ")" :: r))) := by
          rw [er5, List.drop_eq_getElem_cons htc]
          show (sK "," :: tr[c] ++ ct (tr.drop (c + 1))) ++ _ = _
          simp
        have et : tr.take (c + 1) = tr.take c ++ [tr[c]] := by rw [List.take_add_one, List.getElem?_eq_getElem htc]; rfl
        have ee : es.take (c + 1) = es.take c ++ [es[c]] := by rw [List.take_add_one, List.getElem?_eq_getElem hlt]; rfl
        refine ⟨_, rfl, rdi.go nf_expect ⟨p, n, T, _, codes ",", _, _, congrArg (fun z => [V.ref p, z]) (str_tx ","), rdi, er5', by rw [er5']; rfl, fun H5 f5 rd5 => ?_⟩⟩
        have er6 := (rem_step er5').2
        refine ⟨_, rfl, _, rfl, p, n, T, _, lev + 1, m, es[c], tr[c], _, rfl, rd5, er6, hm, g (c + 1) es[c] tr[c] (by rw [hes]; exact List.getElem?_eq_getElem hlt) (List.getElem?_eq_getElem htc), ct_stp _ r, by omega, fun H6 u x f6 rd6 hu dp => ?_⟩
        have hp5 := rdi.ins
        have hp6 := rd5.ins
        have eD6 := f6 _ _ hpD.symm (f5 _ _ hpD.symm eDi)
        have da6 := DpAll.fdI hp6 f6 _ _ (DpAll.fdI hp5 f5 _ _ dai)
        refine ⟨u, _, rfl, hu, rfl, _, _, rfl, _, _, rfl, rfl, ?_⟩
        refine ⟨_, rfl, .inl ⟨rfl, _, .of eD6⟩, _, rfl, D, xs, _, rfl, rfl, eD6, by rw [xl]; omega, ?_⟩
        refine ⟨_, rfl, _, rfl, _, _, rfl, ?_⟩
        rw [mx_int]
        refine ⟨xs ++ [x], some x, some (.int ((es[c].ht : Nat) : Int)), ?_, ?_, ?_, upd_same, ?_⟩
        · rw [ee, show mxs (e0 :: (es.take c ++ [es[c]])) = max (mxs (e0 :: es.take c)) es[c].ht from mxs_snoc (e0 :: es.take c) es[c]]
          rfl
        · exact ((fi.trans f5).trans f6).lst nD0
        · rw [et, show i + 2 + t0.length + (ct (tr.take c ++ [tr[c]])).length = i + 2 + t0.length + (ct (tr.take c)).length + 1 + tr[c].length by
            unfold ct
            rw [List.map_append, List.flatten_append, List.length_append]
            show _ + (_ + (sK "," :: tr[c] ++ []).length) = _
            rw [List.append_nil, List.length_cons]
            omega]
          exact rd6.lst eD6 nDa
        · rw [ee, show (e0 :: (es.take c ++ [es[c]])).map Ex.d = (e0 :: es.take c).map Ex.d ++ [es[c].d] by show (([e0] ++ es.take c) ++ [es[c]]).map Ex.d = _; rw [List.map_append]; rfl]
          have on : tupOnlys ((e0 :: es.take c).map Ex.d) = true := exs_only _
          exact DpAll.snoc (DpAll.away eD6 _ _ on da6) (Dp.away eD6 _ _ (ex_only _) dp)
    · rw [decide_eq_false (show ¬ (((c + 1 : Nat)) : Int) < ((es.length + 1 : Nat) : Int) by omega)]
      refine iteF ?_
      obtain rfl : c = es.length := by omega
      have er5 := erd es.length (by omega)
      rw [show tr.drop es.length = [] from List.drop_eq_nil_of_le (by omega), show tr.take es.length = tr from List.take_of_length_le (by omega)] at er5
      rw [show tr.take es.length = tr from List.take_of_length_le (by omega)] at rdi
      rw [show es.take es.length = es from List.take_of_length_le (Nat.le_refl _)] at dai
      rw [show es.take es.length = es from List.take_of_length_le (Nat.le_refl _)]
      have er5' : rem T (i + 2 + t0.length + (ct tr).length) = sK ")" :: r := er5
      refine ⟨_, rfl, rdi.go nf_expect ⟨p, n, T, _, codes ")", _, _, congrArg (fun z => [V.ref p, z]) (str_tx ")"), rdi, er5', by rw [er5']; rfl, fun H5 f5 rd5 => ?_⟩⟩
      have hp5 := rdi.ins
      have eD5 := f5 _ _ hpD.symm eDi
      have da5 := DpAll.fdI hp5 f5 _ _ dai
      refine ⟨_, rfl, _, rfl, D, xs, rfl, .inr (.of eD5), ?_, fun t1 n1 => ?_⟩
      · show (xs ++ []).length + 1 ≤ _
        rw [List.append_nil, xl]
        exact Nat.le_trans (m := 1000) (by omega) (by decide)
      have s6 := same_upd n1 (o := .tup (V.str ⟨e.wd.cps.toList.toArray⟩ :: (xs ++ [])))
      refine ⟨_, rfl, _, _, rfl, rfl, by show 2 ≤ sizeLine; decide, fun t2 n2 => ?_⟩
      have s7 := same_upd n2 (o := .tup [.ref t1, .int (((mxs (e0 :: es) : Nat) : Int) + 1)])
      refine q _ t2 (.ref t1) (((fi.trans f5).trans (Fd.of s6)).trans (Fd.of s7)) ?_ ?_ ?_
      · rw [cj_ct, show i + ((t0 ++ ct tr).length + 3) = i + 2 + t0.length + (ct tr).length + 1 by rw [List.length_append]; omega]
        exact (rd5.ext s6).ext s7
      · rw [fn_ht hf, hes]
        exact .inl (.inl upd_same)
      · rw [fn_d hf, hes]
        have key : ∀ (Hf : Hp) (ds : List PyData), DpAll K Hf xs ds → DpAll K Hf (V.str ⟨e.wd.cps.toList.toArray⟩ :: (xs ++ [])) (.str e.wd :: ds) := fun Hf ds h => by
          rw [List.append_nil, S_back]
          exact .cons (.str _) h
        exact .tup (.inl (.inl (s7 _ _ upd_same))) (key _ _ (DpAll.ext (s6.trans s7) _ _ da5))
end

def sp_par (C : Addr) (K : PySem.W.Frag) (z : Nat) : Sp := fun vs H Q _ => ∃ (p : Addr) (n : Src) (T : List (Kv × Nat)) (i lev m : Nat) (e : Ex) (ts r : List Kv), vs = [.ref p, .int ((lev : Nat) : Int)] ∧ RdA C K H p n T i ∧ rem T i = sK "(" :: (ts ++ (sK ")" :: r)) ∧ m < z ∧ Gx m 1 e ts ∧ lev + (m + 1) ≤ 12 ∧
  ∀ H' t x, Fd p H H' → RdA C K H' p n T (i + (ts.length + 2)) → SqT K H' t [x, .int ((e.ht : Nat) : Int)] → Dp K H' x e.d → Q (.ref t) H'
def sp_call (C : Addr) (K : PySem.W.Frag) (z : Nat) : Sp := fun vs H Q _ => ∃ (p : Addr) (n : Src) (T : List (Kv × Nat)) (i lev m : Nat) (e : Ex) (tss : List (List Kv)) (r : List Kv), vs = [.ref p, .int ((lev : Nat) : Int)] ∧ RdA C K H p n T i ∧ rem T i = .word e.wd.cps.toList :: sK "(" :: (cj tss ++ (sK ")" :: r)) ∧ m < z ∧ e.isf = true ∧ tss.length = e.fargs.length ∧ (∀ (j : Nat) (x : Ex) (t : List Kv), e.fargs[j]? = some x → tss[j]? = some t → Gx m 1 x t) ∧ lev + (m + 1) ≤ 12 ∧
  ∀ H' t x, Fd p H H' → RdA C K H' p n T (i + ((cj tss).length + 3)) → SqT K H' t [x, .int ((e.ht : Nat) : Int)] → Dp K H' x e.d → Q (.ref t) H'
section
variable {P : Program} {w : World} {K : PySem.W.Frag} {mg : Str → Option Value} {base : Heap} {C aC aK aF : Addr} {eK eF : Array DictEntry} {nK nF : Nat}
theorem leaf_not {e : Ex} {ts : List Kv} (h : leafT e = some ts) (ok : e.ok) : ∃ t u, ts = t :: u ∧ ∀ r, ahOf (t :: r) ∈ (["", "true", "false", "null"] : List String).map codes := by
  have nm : ∀ (l : List Nat) (r : List Kv), NmOk l → ahOf (.word l :: r) ∈ (["", "true", "false", "null"] : List String).map codes := fun l r h => by
    show (if isRes l = true then l else []) ∈ _
    rw [nm_not h, if_neg Bool.false_ne_true]
    decide +kernel
  have em : ([] : List Nat) ∈ (["", "true", "false", "null"] : List String).map codes := by decide +kernel
  cases e with
  | num m => cases h; exact ⟨_, _, rfl, fun _ => em⟩
  | text m => cases h; exact ⟨_, _, rfl, fun _ => em⟩
  | truth b =>
    cases h
    cases b
    · exact ⟨_, _, rfl, fun r => by show (if isRes (codes "false") = true then codes "false" else []) ∈ _; decide +kernel⟩
    · exact ⟨_, _, rfl, fun r => by show (if isRes (codes "true") = true then codes "true" else []) ∈ _; decide +kernel⟩
  | null => cases h; exact ⟨_, _, rfl, fun r => by show (if isRes (codes "null") = true then codes "null" else []) ∈ _; decide +kernel⟩
  | name l => cases h; exact ⟨_, _, rfl, fun r => nm l r ok⟩
  | field l m => cases h; exact ⟨_, _, rfl, fun r => nm l r ok.1⟩
  | _ => cases h
theorem ok_atom {f : Addr} {fd : FuncData} {j z : Nat} (hj : 4 ≤ j) (F : Fun K "read_atom" "read_atom" s_read_atom f fd) (M : Mg mg) (G : Pe K w mg aC aK aF eK nK eF nF) (c_Reader_ahead : ClM P w K mg base 2 C "ahead" (sp_ahead C K)) (c_read_parenthesis : Cl P w K mg base j "read_parenthesis" (sp_par C K z)) (c_read_call : Cl P w K mg base j "read_call" (sp_call C K z)) (c_read_leaf : Cl P w K mg base 4 "read_leaf" (sp_rleaf C K false)) : FnOk P w K mg base CX0 (j + 1) f fd ["reader", "level"] (sp_rd C K 8 (z + 1)) := by
  refine F.ok sc_read_atom (fun vs H Q E h => ?_) (fun cdv A outer s H vs Q E hr h => ?_)
  · obtain ⟨p, n, T, i, lev, m, e, ts, r, rfl, _⟩ := h
    rfl
  · obtain ⟨p, n, T, i, lev, m, e, ts, r, rfl, rd, er, hm, g, st, hl, q⟩ := h
    refine ⟨_, (pss_cons (ps_if (pt_cmpR op_eq (pe_mt0 c_Reader_ahead hr (by first | decide | omega) (pv 0)) pe_str (nomark _)) (pss_one (ps_ret (pe_u c_read_parenthesis hr (by first | decide | omega) (by rfl) (pa_cons (pv 0) (pa_cons (pv 1) pa_nil))))) pss_nil)
      (pss_cons (ps_if (pt_cmpR (op_in_kd G.FUNCTIONS_D) (pe_mt0 c_Reader_ahead hr (by first | decide | omega) (pv 0)) (C8.pe_gc (by rfl) G.FUNCTIONS) (by rfl)) (pss_one (ps_ret (pe_u c_read_call hr (by first | decide | omega) (by rfl) (pa_cons (pv 0) (pa_cons (pv 1) pa_nil))))) pss_nil)
      (pss_one (ps_ret (pe_tup (pa_cons (pe_u c_read_leaf hr (by first | decide | omega) (by rfl) (pa_cons (pv 0) pa_nil)) (pa_cons pe_int pa_nil))))))), ?_⟩
    obtain ⟨k8, h8⟩ : ∃ k8, 8 = k8 := ⟨_, rfl⟩
    rw [h8] at g
    cases g with
    | @leaf m e ts h ok =>
      obtain ⟨t, u, rfl, ha⟩ := leaf_not h ok
      have ha := ha (u ++ r)
      refine ⟨_, rfl, rd.go nf_ahead ⟨p, n, T, i, rfl, rd, fun H1 s1 => ⟨rfl, _, rfl, ?_⟩⟩⟩
      have er' : rem T i = t :: (u ++ r) := er
      rw [er', ah_not "(" (fun z => by rw [z] at ha; revert ha; decide +kernel)]
      refine iteF ?_
      have rd1 := rd.ext s1
      refine ⟨_, rfl, rd1.go nf_ahead ⟨p, n, T, i, rfl, rd1, fun H2 s2 => ?_⟩⟩
      have miss : PySem.W.nsIn K aF (⟨(ahOf (rem T i)).toArray⟩ : Str) = some none := by
        rw [er']
        obtain ⟨x, hx, ex⟩ := List.mem_map.mp ha
        rw [← ex, ← codes_S]
        exact G.fmiss x hx
      refine ⟨_, _, rfl, rfl, miss, _, rfl, iteF ?_⟩
      refine ⟨_, rfl, p, n, T, i, e, t :: u, r, rfl, rd1.ext s2, er, h, ok, (fun z => nomatch z), st, fun H3 x f3 rd3 dp => ?_⟩
      refine ⟨by show 2 ≤ sizeLine; decide, fun t2 n2 => ?_⟩
      have e0 : e.ht = 0 := by cases e <;> first | rfl | cases h
      refine q _ t2 x (((Fd.of (s1.trans s2)).trans f3).trans (Fd.new n2)) (rd3.ext (same_upd n2)) ?_ (Dp.ext (same_upd n2) _ _ dp)
      rw [e0]
      exact .inl (.inl upd_same)
    | @par m e ts g' =>
      have er' : rem T i = sK "(" :: (ts ++ (sK ")" :: r)) := by rw [er, List.cons_append, List.append_assoc]; rfl
      refine ⟨_, rfl, rd.go nf_ahead ⟨p, n, T, i, rfl, rd, fun H1 s1 => ⟨rfl, _, rfl, ?_⟩⟩⟩
      rw [er', show ahOf (sK "(" :: (ts ++ (sK ")" :: r))) = codes "(" from rfl, ah_is "(" rfl]
      refine iteT ?_
      refine ⟨_, rfl, _, rfl, p, n, T, i, lev, m, e, ts, r, rfl, rd.ext s1, er', by omega, g', by omega, fun H2 t x f2 rd2 ht dp => q H2 t x ((Fd.of s1).trans f2) ?_ ht dp⟩
      rw [show i + (sK "(" :: (ts ++ [sK ")"])).length = i + (ts.length + 2) by rw [List.length_cons, List.length_append]; rfl]
      exact rd2
    | @call m e tss hf htl g' =>
      have er' : rem T i = .word e.wd.cps.toList :: sK "(" :: (cj tss ++ (sK ")" :: r)) := by rw [er]; simp
      refine ⟨_, rfl, rd.go nf_ahead ⟨p, n, T, i, rfl, rd, fun H1 s1 => ⟨rfl, _, rfl, ?_⟩⟩⟩
      rw [er', fn_ah hf, ah_not "(" (by rcases (fn_wd hf).2 with z | z | z | z | z <;> rw [z] <;> decide +kernel)]
      refine iteF ?_
      have rd1 := rd.ext s1
      refine ⟨_, rfl, rd1.go nf_ahead ⟨p, n, T, i, rfl, rd1, fun H2 s2 => ?_⟩⟩
      obtain ⟨tk, hit⟩ := G.fhit e hf
      have hit' : PySem.W.nsIn K aF (⟨(ahOf (rem T i)).toArray⟩ : Str) = some (some (.int (e.fargs.length : Nat) tk)) := by
        rw [er', fn_ah hf, S_back]
        exact hit
      refine ⟨_, _, rfl, rfl, hit', _, rfl, iteT ?_⟩
      refine ⟨_, rfl, _, rfl, p, n, T, i, lev, m, e, tss, r, rfl, rd1.ext s2, er', by omega, hf, htl, g', by omega, fun H3 t x f3 rd3 ht dp => q H3 t x ((Fd.of (s1.trans s2)).trans f3) ?_ ht dp⟩
      rw [show i + (Kv.word e.wd.cps.toList :: sK "(" :: (cj tss ++ [sK ")"])).length = i + ((cj tss).length + 3) by rw [List.length_cons, List.length_cons, List.length_append]; rfl]
      exact rd3
    | neg _ => cases h8
    | nt _ => cases h8
    | @bin _ o _ _ _ _ _ _ => exact absurd h8 (by cases o <;> decide)
    | @up _ k _ _ h1 h2 _ => omega
/-- what stands below read at this step -/
theorem rd_up {z k : Nat} {vs : List V} {H : Hp} {Q : VK} (p : Addr) (n : Src) (T : List (Kv × Nat)) (i lev m : Nat) (e : Ex) (ts r : List Kv) (hv : vs = [.ref p, .int ((lev : Nat) : Int)]) (rd : RdA C K H p n T i) (er : rem T i = ts ++ r) (hm : m < z) (g : Gx m k e ts) (st : stp k r) (hl : lev + m ≤ 12) (q : ∀ H' t x, Fd p H H' → RdA C K H' p n T (i + ts.length) → SqT K H' t [x, .int ((e.ht : Nat) : Int)] → Dp K H' x e.d → Q (.ref t) H') : sp_rd C K k z vs H Q E0 := ⟨p, n, T, i, lev, m, e, ts, r, hv, rd, er, hm, g, st, hl, q⟩
theorem ok_neg {f : Addr} {fd : FuncData} {j z : Nat} (hj : 4 ≤ j) (F : Fun K "read_negation" "read_negation" s_read_negation f fd) (M : Mg mg) (c_Reader_ahead : ClM P w K mg base 2 C "ahead" (sp_ahead C K)) (c_Reader_take : ClM P w K mg base 1 C "take" (sp_take C K)) (c_deeper : Cl P w K mg base 1 "deeper" sp_deeper) (c_read_atom : Cl P w K mg base j "read_atom" (sp_rd C K 8 (z + 1))) (c_read_negation : Cl P w K mg base j "read_negation" (sp_rd C K 7 z)) : FnOk P w K mg base CX0 (j + 1) f fd ["reader", "level"] (sp_rd C K 7 (z + 1)) := by
  refine F.ok sc_read_negation (fun vs H Q E h => ?_) (fun cdv A outer s H vs Q E hr h => ?_)
  · obtain ⟨p, n, T, i, lev, m, e, ts, r, rfl, _⟩ := h
    rfl
  · obtain ⟨p, n, T, i, lev, m, e, ts, r, rfl, rd, er, hm, g, st, hl, q⟩ := h
    refine ⟨_, (pss_cons (ps_if (pt_cmpR op_ne (pe_mt0 c_Reader_ahead hr (by first | decide | omega) (pv 0)) pe_str (nomark _)) (pss_one (ps_ret (pe_u c_read_atom hr (by first | decide | omega) (by rfl) (pa_cons (pv 0) (pa_cons (pv 1) pa_nil))))) pss_nil)
      (pss_cons (ps_set (i := 2) sc_read_negation.nd rfl (.inl rfl) (pe_u c_deeper hr (by first | decide | omega) (by rfl) (pa_cons (pv 0) (pa_cons (pv 1) pa_nil))))
      (pss_cons (ps_expr (pe_mt0 c_Reader_take hr (by first | decide | omega) (pv 0)))
      (pss_cons (ps_asg (pe_u c_read_negation hr (by first | decide | omega) (by rfl) (pa_cons (pv 0) (pa_cons (pv 2) pa_nil))) (pg_tup (by rfl) (pgs_cons (pg_name (i := 3) sc_read_negation.nd rfl (.inl rfl)) (pgs_cons (pg_name (i := 4) sc_read_negation.nd rfl (.inl rfl)) pgs_nil))))
      (pss_one (ps_ret (pe_tup (pa_cons (pe_tup (pa_cons pe_str (pa_cons (pv 3) pa_nil))) (pa_cons (pe_op op_add (pv 4) pe_int) pa_nil))))))))), ?_⟩
    obtain ⟨k8, h8⟩ : ∃ k8, 7 = k8 := ⟨_, rfl⟩
    rw [h8] at g
    cases g with
    | @neg m a ts g' =>
      have er' : rem T i = sK "-" :: (ts ++ r) := er
      refine ⟨_, rfl, rd.go nf_ahead ⟨p, n, T, i, rfl, rd, fun H1 s1 => ⟨rfl, _, rfl, ?_⟩⟩⟩
      rw [er', show ahOf (sK "-" :: (ts ++ r)) = codes "-" from rfl, ah_is "-" rfl]
      refine iteF ?_
      have rd1 := rd.ext s1
      refine ⟨_, rfl, _, rfl, _, lev, rfl, by omega, ?_⟩
      refine ⟨_, rfl, rd1.go nf_take ⟨p, n, T, i, _, _, rfl, rd1, er', fun H2 f2 rd2 => ?_⟩⟩
      have er2 := (rem_step er').2
      refine ⟨_, rfl, _, rfl, p, n, T, _, lev + 1, m, a, ts, r, rfl, rd2, er2, by omega, g', st, by omega, fun H3 t x f3 rd3 ht dp => ?_⟩
      refine ⟨t, _, rfl, ht, rfl, _, _, rfl, _, _, rfl, rfl, ?_⟩
      refine ⟨_, rfl, by show 2 ≤ sizeLine; decide, fun t1 n1 => ?_⟩
      have s4 := same_upd n1 (o := .tup [.str "negate", x])
      refine ⟨_, rfl, _, _, rfl, rfl, by show 2 ≤ sizeLine; decide, fun t2 n2 => ?_⟩
      have s5 := same_upd n2 (o := .tup [.ref t1, .int (((a.ht : Nat) : Int) + 1)])
      refine q _ t2 (.ref t1) ((((Fd.of s1).trans f2).trans f3).trans ((Fd.of s4).trans (Fd.of s5))) ?_ (.inl (.inl upd_same)) (.tup (.inl (.inl (s5 _ _ upd_same))) (.cons (.str _) (.cons (Dp.ext (s4.trans s5) _ _ dp) .nil)))
      rw [show i + (sK "-" :: ts).length = i + 1 + ts.length by rw [List.length_cons]; omega]
      exact (rd3.ext s4).ext s5
    | @up m k e ts h1 h2 g' =>
      obtain rfl : k8 = 7 := h8.symm
      obtain ⟨t, u, rfl, hh1, hh2⟩ := g'.hd
      refine ⟨_, rfl, rd.go nf_ahead ⟨p, n, T, i, rfl, rd, fun H1 s1 => ⟨rfl, _, rfl, ?_⟩⟩⟩
      rw [er, List.cons_append, ah_not "-" (hh2 (by decide) (u ++ r))]
      refine iteT ?_
      exact ⟨_, rfl, _, rfl, rd_up p n T i lev m e (t :: u) r rfl (rd.ext s1) er hm g' (st.up (by decide) (by decide)) hl fun H' t x f' => q H' t x ((Fd.of s1).trans f')⟩
    | leaf _ _ => cases h8
    | par _ => cases h8
    | call _ _ _ => cases h8
    | nt _ => cases h8
    | @bin _ o _ _ _ _ _ _ => exact absurd h8 (by cases o <;> decide)
theorem ok_not {f : Addr} {fd : FuncData} {j z : Nat} (hj : 4 ≤ j) (F : Fun K "read_not" "read_not" s_read_not f fd) (M : Mg mg) (c_Reader_ahead : ClM P w K mg base 2 C "ahead" (sp_ahead C K)) (c_Reader_take : ClM P w K mg base 1 C "take" (sp_take C K)) (c_deeper : Cl P w K mg base 1 "deeper" sp_deeper) (c_read_comparison : Cl P w K mg base j "read_comparison" (sp_rd C K 4 (z + 1))) (c_read_not : Cl P w K mg base j "read_not" (sp_rd C K 3 z)) : FnOk P w K mg base CX0 (j + 1) f fd ["reader", "level"] (sp_rd C K 3 (z + 1)) := by
  refine F.ok sc_read_not (fun vs H Q E h => ?_) (fun cdv A outer s H vs Q E hr h => ?_)
  · obtain ⟨p, n, T, i, lev, m, e, ts, r, rfl, _⟩ := h
    rfl
  · obtain ⟨p, n, T, i, lev, m, e, ts, r, rfl, rd, er, hm, g, st, hl, q⟩ := h
    refine ⟨_, (pss_cons (ps_if (pt_cmpR op_ne (pe_mt0 c_Reader_ahead hr (by first | decide | omega) (pv 0)) pe_str (nomark _)) (pss_one (ps_ret (pe_u c_read_comparison hr (by first | decide | omega) (by rfl) (pa_cons (pv 0) (pa_cons (pv 1) pa_nil))))) pss_nil)
      (pss_cons (ps_set (i := 2) sc_read_not.nd rfl (.inl rfl) (pe_u c_deeper hr (by first | decide | omega) (by rfl) (pa_cons (pv 0) (pa_cons (pv 1) pa_nil))))
      (pss_cons (ps_expr (pe_mt0 c_Reader_take hr (by first | decide | omega) (pv 0)))
      (pss_cons (ps_asg (pe_u c_read_not hr (by first | decide | omega) (by rfl) (pa_cons (pv 0) (pa_cons (pv 2) pa_nil))) (pg_tup (by rfl) (pgs_cons (pg_name (i := 3) sc_read_not.nd rfl (.inl rfl)) (pgs_cons (pg_name (i := 4) sc_read_not.nd rfl (.inl rfl)) pgs_nil))))
      (pss_one (ps_ret (pe_tup (pa_cons (pe_tup (pa_cons pe_str (pa_cons (pv 3) pa_nil))) (pa_cons (pe_op op_add (pv 4) pe_int) pa_nil))))))))), ?_⟩
    obtain ⟨k8, h8⟩ : ∃ k8, 3 = k8 := ⟨_, rfl⟩
    rw [h8] at g
    cases g with
    | @nt m a ts g' =>
      have er' : rem T i = wK "not" :: (ts ++ r) := er
      refine ⟨_, rfl, rd.go nf_ahead ⟨p, n, T, i, rfl, rd, fun H1 s1 => ⟨rfl, _, rfl, ?_⟩⟩⟩
      rw [er', show ahOf (wK "not" :: (ts ++ r)) = codes "not" by show (if isRes (codes "not") = true then codes "not" else []) = _; decide +kernel, ah_is "not" rfl]
      refine iteF ?_
      have rd1 := rd.ext s1
      refine ⟨_, rfl, _, rfl, _, lev, rfl, by omega, ?_⟩
      refine ⟨_, rfl, rd1.go nf_take ⟨p, n, T, i, _, _, rfl, rd1, er', fun H2 f2 rd2 => ?_⟩⟩
      have er2 := (rem_step er').2
      refine ⟨_, rfl, _, rfl, p, n, T, _, lev + 1, m, a, ts, r, rfl, rd2, er2, by omega, g', st, by omega, fun H3 t x f3 rd3 ht dp => ?_⟩
      refine ⟨t, _, rfl, ht, rfl, _, _, rfl, _, _, rfl, rfl, ?_⟩
      refine ⟨_, rfl, by show 2 ≤ sizeLine; decide, fun t1 n1 => ?_⟩
      have s4 := same_upd n1 (o := .tup [.str "not", x])
      refine ⟨_, rfl, _, _, rfl, rfl, by show 2 ≤ sizeLine; decide, fun t2 n2 => ?_⟩
      have s5 := same_upd n2 (o := .tup [.ref t1, .int (((a.ht : Nat) : Int) + 1)])
      refine q _ t2 (.ref t1) ((((Fd.of s1).trans f2).trans f3).trans ((Fd.of s4).trans (Fd.of s5))) ?_ (.inl (.inl upd_same)) (.tup (.inl (.inl (s5 _ _ upd_same))) (.cons (.str _) (.cons (Dp.ext (s4.trans s5) _ _ dp) .nil)))
      rw [show i + (wK "not" :: ts).length = i + 1 + ts.length by rw [List.length_cons]; omega]
      exact (rd3.ext s4).ext s5
    | @up m k e ts h1 h2 g' =>
      obtain rfl : k8 = 3 := h8.symm
      obtain ⟨t, u, rfl, hh1, hh2⟩ := g'.hd
      refine ⟨_, rfl, rd.go nf_ahead ⟨p, n, T, i, rfl, rd, fun H1 s1 => ⟨rfl, _, rfl, ?_⟩⟩⟩
      rw [er, List.cons_append, ah_not "not" (hh1 (by decide) (u ++ r))]
      refine iteT ?_
      exact ⟨_, rfl, _, rfl, rd_up p n T i lev m e (t :: u) r rfl (rd.ext s1) er hm g' (st.up (by decide) (by decide)) hl fun H' t x f' => q H' t x ((Fd.of s1).trans f')⟩
    | leaf _ _ => cases h8
    | par _ => cases h8
    | call _ _ _ => cases h8
    | neg _ => cases h8
    | @bin _ o _ _ _ _ _ _ => exact absurd h8 (by cases o <;> decide)
theorem cmp_op {o : Bop} (h : o.lv = 4) (r : List Kv) : ahOf (o.k :: r) ∈ (["<", "<=", "=", "!=", ">=", ">"] : List String).map codes ∧ kvV o.k = .str o.w ∧ o.lf = 5 ∧ o.rt = 5 := by
  rw [o.ah]
  cases o <;> first | exact absurd h (by decide) | exact ⟨by decide +kernel, str_tx _ ▸ rfl, rfl, rfl⟩
theorem ok_cmp {f : Addr} {fd : FuncData} {j z : Nat} (hj : 4 ≤ j) (F : Fun K "read_comparison" "read_comparison" s_read_comparison f fd) (M : Mg mg) (G : Pe K w mg aC aK aF eK nK eF nF) (c_Reader_ahead : ClM P w K mg base 2 C "ahead" (sp_ahead C K)) (c_Reader_take : ClM P w K mg base 1 C "take" (sp_take C K)) (c_read_sum : Cl P w K mg base j "read_sum" (sp_rd C K 5 z)) : FnOk P w K mg base CX0 (j + 1) f fd ["reader", "level"] (sp_rd C K 4 z) := by
  refine F.ok sc_read_comparison (fun vs H Q E h => ?_) (fun cdv A outer s H vs Q E hr h => ?_)
  · obtain ⟨p, n, T, i, lev, m, e, ts, r, rfl, _⟩ := h
    rfl
  · obtain ⟨p, n, T, i, lev, m, e, ts, r, rfl, rd, er, hm, g, st, hl, q⟩ := h
    refine ⟨_, (pss_cons (ps_asg (pe_u c_read_sum hr (by first | decide | omega) (by rfl) (pa_cons (pv 0) (pa_cons (pv 1) pa_nil))) (pg_tup (by rfl) (pgs_cons (pg_name (i := 2) sc_read_comparison.nd rfl (.inl rfl)) (pgs_cons (pg_name (i := 3) sc_read_comparison.nd rfl (.inl rfl)) pgs_nil))))
      (pss_cons (ps_if (pt_cmpR (notInK K) (pe_mt0 c_Reader_ahead hr (by first | decide | omega) (pv 0)) (C8.pe_gc (by rfl) G.COMPARISONS) (by rfl)) (pss_one (ps_ret (pe_tup (pa_cons (pv 2) (pa_cons (pv 3) pa_nil))))) pss_nil)
      (pss_cons (ps_set (i := 4) sc_read_comparison.nd rfl (.inl rfl) (pe_mt0 c_Reader_take hr (by first | decide | omega) (pv 0)))
      (pss_cons (ps_asg (pe_u c_read_sum hr (by first | decide | omega) (by rfl) (pa_cons (pv 0) (pa_cons (pv 1) pa_nil))) (pg_tup (by rfl) (pgs_cons (pg_name (i := 5) sc_read_comparison.nd rfl (.inl rfl)) (pgs_cons (pg_name (i := 6) sc_read_comparison.nd rfl (.inl rfl)) pgs_nil))))
      (pss_one (ps_ret (pe_tup (pa_cons (pe_tup (pa_cons (pv 4) (pa_cons (pv 2) (pa_cons (pv 5) pa_nil)))) (pa_cons (pe_op op_add pe_int (pe_callB (call_max2 rfl) (by rfl) M.max (by decide +kernel) (pa_cons (pv 3) (pa_cons (pv 6) pa_nil)))) pa_nil))))))))), ?_⟩
    obtain ⟨k8, h8⟩ : ∃ k8, 4 = k8 := ⟨_, rfl⟩
    rw [h8] at g
    cases g with
    | @bin m o a b ta tb ga gb =>
      obtain ⟨c1, c2, c3, c4⟩ := cmp_op h8.symm (tb ++ r)
      rw [c3] at ga
      rw [c4] at gb
      have er' : rem T i = ta ++ (o.k :: (tb ++ r)) := by rw [er, List.append_assoc]; rfl
      have st5 : stp 5 (o.k :: (tb ++ r)) := by
        have := stp_op o (tb ++ r)
        rw [← h8] at this
        exact this
      refine ⟨_, rfl, _, rfl, p, n, T, i, lev, m, a, ta, _, rfl, rd, er', hm, ga, st5, hl, fun H1 t x f1 rd1 ht dp => ?_⟩
      have er1 := rem_app er'
      refine ⟨t, _, rfl, ht, rfl, _, _, rfl, _, _, rfl, rfl, ?_⟩
      refine ⟨_, rfl, rd1.go nf_ahead ⟨p, n, T, _, rfl, rd1, fun H2 s2 => ?_⟩⟩
      refine ⟨aC, _, rfl, .inr (G.cmp H2), rfl, rfl, _, rfl, ?_⟩
      rw [if_pos rfl, er1, inV_c, decide_eq_true c1]
      refine iteF ?_
      have rd2 := rd1.ext s2
      refine ⟨_, rfl, rd2.go nf_take ⟨p, n, T, _, _, _, rfl, rd2, er1, fun H3 f3 rd3 => ?_⟩⟩
      have er3 := (rem_step er1).2
      refine ⟨_, rfl, _, rfl, p, n, T, _, lev, m, b, tb, r, rfl, rd3, er3, hm, gb, st.up (by decide) (by decide), hl, fun H4 t' y f4 rd4 ht' dp' => ?_⟩
      refine ⟨t', _, rfl, ht', rfl, _, _, rfl, _, _, rfl, rfl, ?_⟩
      refine ⟨_, rfl, _, rfl, _, rfl, by show 3 ≤ sizeLine; decide, fun t1 n1 => ?_⟩
      have s5 := same_upd n1 (o := .tup [kvV o.k, x, y])
      refine ⟨_, rfl, _, rfl, _, _, rfl, ?_⟩
      rw [mx_int]
      refine ⟨_, _, rfl, rfl, by show 2 ≤ sizeLine; decide, fun t2 n2 => ?_⟩
      have s6 := same_upd n2 (o := .tup [.ref t1, .int (1 + ((max a.ht b.ht : Nat) : Int))])
      have dx := Dp.fdI rd3.ins f4 _ _ (Dp.fdI rd2.ins f3 _ _ (Dp.ext s2 _ _ dp))
      refine q _ t2 (.ref t1) ((((f1.trans (Fd.of s2)).trans f3).trans f4).trans ((Fd.of s5).trans (Fd.of s6))) ?_ ?_ ?_
      · rw [show i + (ta ++ o.k :: tb).length = i + ta.length + 1 + tb.length by rw [List.length_append, List.length_cons]; omega]
        exact (rd4.ext s5).ext s6
      · rw [show (((Ex.bin o a b).ht : Nat) : Int) = 1 + ((max a.ht b.ht : Nat) : Int) by show ((max a.ht b.ht + 1 : Nat) : Int) = _; omega]
        exact .inl (.inl upd_same)
      · have key : ∀ Hf : Hp, SqT K Hf t1 [kvV o.k, x, y] → Dp K Hf x a.d → Dp K Hf y b.d → Dp K Hf (.ref t1) (Ex.bin o a b).d := fun Hf h1 h2 h3 => by
          rw [c2] at h1
          exact .tup h1 (.cons (.str _) (.cons h2 (.cons h3 .nil)))
        exact key _ (.inl (.inl (s6 _ _ upd_same))) (Dp.ext (s5.trans s6) _ _ dx) (Dp.ext (s5.trans s6) _ _ dp')
    | @up m k e ts h1 h2 g' =>
      obtain rfl : k8 = 4 := h8.symm
      refine ⟨_, rfl, _, rfl, p, n, T, i, lev, m, e, ts, r, rfl, rd, er, hm, g', st.up (by decide) (by decide), hl, fun H1 t x f1 rd1 ht dp => ?_⟩
      have er1 := rem_app er
      refine ⟨t, _, rfl, ht, rfl, _, _, rfl, _, _, rfl, rfl, ?_⟩
      refine ⟨_, rfl, rd1.go nf_ahead ⟨p, n, T, _, rfl, rd1, fun H2 s2 => ?_⟩⟩
      refine ⟨aC, _, rfl, .inr (G.cmp H2), rfl, rfl, _, rfl, ?_⟩
      rw [if_pos rfl, er1, inV_c, decide_eq_false (fun z => st (by
        obtain ⟨y, hy, e⟩ := List.mem_map.mp z
        exact List.mem_map.mpr ⟨y, (by decide : ∀ y ∈ (["<", "<=", "=", "!=", ">=", ">"] : List String), y ∈ cW 4) y hy, e⟩))]
      refine iteT ?_
      refine ⟨_, rfl, _, rfl, by show 2 ≤ sizeLine; decide, fun t2 n2 => ?_⟩
      exact q _ t2 x ((f1.trans (Fd.of s2)).trans (Fd.new n2)) ((rd1.ext s2).ext (same_upd n2)) (.inl (.inl upd_same)) (Dp.ext (s2.trans (same_upd n2)) _ _ dp)
    | leaf _ _ => cases h8
    | par _ => cases h8
    | call _ _ _ => cases h8
    | neg _ => cases h8
    | nt _ => cases h8
end

section
variable {P : Program} {w : World} {K : PySem.W.Frag} {mg : Str → Option Value} {base : Heap} {C aC aK aF : Addr} {eK eF : Array DictEntry} {nK nF : Nat}
theorem kv_op (o : Bop) : kvV o.k = .str o.w := by cases o <;> exact (str_tx _).symm
def flo (ops : List (Bop × Ex × List Kv)) : List Kv := (ops.map fun x => x.1.k :: x.2.2).flatten
def acc (e0 : Ex) (ops : List (Bop × Ex × List Kv)) : Ex := ops.foldl (fun a x => .bin x.1 a x.2.1) e0
theorem flo_stp {k : Nat} {r : List Kv} (st : stp k r) (h1 : 1 ≤ k) (h8 : k < 8) : ∀ ops : List (Bop × Ex × List Kv), (∀ x ∈ ops, x.1.lv = k) → stp (k + 1) (flo ops ++ r)
  | [], _ => st.up h1 h8
  | x :: ops, h => by
    have := h x (List.mem_cons_self ..)
    rw [← this]
    exact stp_op x.1 _
theorem ws_flat (k : Nat) : (wsV k).all flatV = true := by
  unfold wsV
  rw [List.all_map]
  exact List.all_eq_true.mpr fun x _ => rfl
theorem ws_in {o : Bop} {k : Nat} (h : o.lv = k) (hk : k = 1 ∨ k = 2 ∨ k = 5 ∨ k = 6) : codes o.s ∈ (wsS k).map codes := by
  subst h
  cases o <;> first | decide +kernel | (exfalso; revert hk; decide)
theorem ws_not {r : List Kv} {k : Nat} (st : stp k r) (hk : k = 1 ∨ k = 2 ∨ k = 5 ∨ k = 6) : ahOf r ∉ (wsS k).map codes := fun z => st (by
  obtain ⟨y, hy, e⟩ := List.mem_map.mp z
  refine List.mem_map.mpr ⟨y, ?_, e⟩
  rcases hk with rfl | rfl | rfl | rfl
  · exact (by decide : ∀ y ∈ wsS 1, y ∈ cW 1) y hy
  · exact (by decide : ∀ y ∈ wsS 2, y ∈ cW 2) y hy
  · exact (by decide : ∀ y ∈ wsS 5, y ∈ cW 5) y hy
  · exact (by decide : ∀ y ∈ wsS 6, y ∈ cW 6) y hy)
theorem ok_l2r {f : Addr} {fd : FuncData} {kk k z : Nat} (h4 : 4 ≤ kk) (hk : k = 1 ∨ k = 2 ∨ k = 5 ∨ k = 6) (F : Fun K "read_left_to_right" "read_left_to_right" s_read_left_to_right f fd) (M : Mg mg) (c_Reader_ahead : ClM P w K mg base 2 C "ahead" (sp_ahead C K)) (c_Reader_take : ClM P w K mg base 1 C "take" (sp_take C K)) : FnOk P w K mg base CX0 (kk + 1) f fd ["reader", "level", "words", "read_operand"] (sp_l2r P w K mg base C kk k z) := by
  refine F.ok sc_read_left_to_right (fun vs H Q E h => ?_) (fun cdv A outer s H vs Q E hr h => ?_)
  · obtain ⟨p, n, T, i, lev, wa, fo, m, e, ts, r, rfl, _⟩ := h
    rfl
  · obtain ⟨p, n, T, i, lev, wa, fo, m, e, ts, r, rfl, hw, hd, rd, er, hm, g, st, hl, q⟩ := h
    obtain ⟨e0, t0, ops, g0, hops, ets, ee⟩ := g.spine hk
    have hlv : ∀ x ∈ ops, x.1.lv = k := fun x hx => (hops x hx).1
    have hk1 : 1 ≤ k := by omega
    have hk8 : k < 8 := by omega
    have er0 : rem T i = t0 ++ (flo ops ++ r) := by rw [er, ets, List.append_assoc]; rfl
    have erd : ∀ c, rem T (i + t0.length + (flo (ops.take c)).length) = flo (ops.drop c) ++ r := fun c => by
      refine rem_app ?_
      rw [rem_app er0, ← List.append_assoc]
      congr 1
      unfold flo
      rw [← List.flatten_append, ← List.map_append, List.take_append_drop]
    refine ⟨_, (pss_cons (ps_asg (pe_callH (k := kk) hr (by first | decide | omega) (i := 3) rfl (.inl rfl) (pa_cons (pv 0) (pa_cons (pv 1) pa_nil))) (pg_tup (by rfl) (pgs_cons (pg_name (i := 4) sc_read_left_to_right.nd rfl (.inl rfl)) (pgs_cons (pg_name (i := 5) sc_read_left_to_right.nd rfl (.inl rfl)) pgs_nil))))
      (pss_cons (ps_while PassesOwn.never (pt_cmpR (inK K) (pe_mt0 c_Reader_ahead hr (by first | decide | omega) (pv 0)) (pv 2) (by rfl)) (pss_cons (ps_set (i := 6) sc_read_left_to_right.nd rfl (.inl rfl) (pe_mt0 c_Reader_take hr (by first | decide | omega) (pv 0)))
      (pss_cons (ps_asg (pe_callH (k := kk) hr (by first | decide | omega) (i := 3) rfl (.inl rfl) (pa_cons (pv 0) (pa_cons (pv 1) pa_nil))) (pg_tup (by rfl) (pgs_cons (pg_name (i := 7) sc_read_left_to_right.nd rfl (.inl rfl)) (pgs_cons (pg_name (i := 8) sc_read_left_to_right.nd rfl (.inl rfl)) pgs_nil))))
      (pss_cons (ps_set (i := 4) sc_read_left_to_right.nd rfl (.inl rfl) (pe_tup (pa_cons (pv 6) (pa_cons (pv 4) (pa_cons (pv 7) pa_nil)))))
      (pss_one (ps_set (i := 5) sc_read_left_to_right.nd rfl (.inl rfl) (pe_op op_add pe_int (pe_callB (call_max2 rfl) (by rfl) M.max (by decide +kernel) (pa_cons (pv 5) (pa_cons (pv 8) pa_nil))))))))))
      (pss_one (ps_ret (pe_tup (pa_cons (pv 4) (pa_cons (pv 5) pa_nil))))))), ?_⟩
    refine ⟨fo, _, rfl, hd, _, rfl, _, rfl, p, n, T, i, lev, m, e0, t0, _, rfl, rd, er0, hm, g0, flo_stp st hk1 hk8 ops hlv, hl, fun H1 t x f1 rd1 ht dp => ?_⟩
    refine ⟨t, _, rfl, ht, rfl, _, _, rfl, _, _, rfl, rfl, ?_⟩
    refine ⟨fun k' σ Hi => ∃ (c : Nat) (x : V) (y6 y7 y8 : Option V), σ = [some (.ref p), some (.int ((lev : Nat) : Int)), some (.ref wa), some (.ref fo), some x, some (.int (((acc e0 (ops.take c)).ht : Nat) : Int)), y6, y7, y8] ∧ k' = ops.length - c ∧ c ≤ ops.length ∧ Fd p H Hi ∧ RdA C K Hi p n T (i + t0.length + (flo (ops.take c)).length) ∧ Dp K Hi x (acc e0 (ops.take c)).d,
      ⟨_, 0, x, none, none, none, rfl, rfl, Nat.zero_le _, f1, rd1, dp⟩, fun k' σ Hi hW => ?_⟩
    obtain ⟨c, x, y6, y7, y8, rfl, rfl, hc, fi, rdi, dpi⟩ := hW
    refine ⟨_, rfl, rdi.go nf_ahead ⟨p, n, T, _, rfl, rdi, fun H2 s2 => ?_⟩⟩
    have hp := rd.ins
    have hw2 : SqT K H2 wa (wsV k) := SqT.ext s2 (SqT.fdI hp fi hw)
    refine ⟨_, rfl, wa, _, rfl, .inr hw2, rfl, ws_flat k, _, rfl, ?_⟩
    rw [if_neg Bool.false_ne_true, erd c]
    have rd2 := rdi.ext s2
    have dp2 := Dp.ext s2 _ _ dpi
    by_cases hlt : c < ops.length
    · have hx := hops ops[c] (List.getElem_mem hlt)
      have edr : flo (ops.drop c) ++ r = ops[c].1.k :: (ops[c].2.2 ++ (flo (ops.drop (c + 1)) ++ r)) := by
        rw [List.drop_eq_getElem_cons hlt]
        show (ops[c].1.k :: ops[c].2.2 ++ flo (ops.drop (c + 1))) ++ r = _
        simp
      have et : ops.take (c + 1) = ops.take c ++ [ops[c]] := by rw [List.take_add_one, List.getElem?_eq_getElem hlt]; rfl
      have er2 := erd c
      rw [edr] at er2
      rw [edr, show inV (tx (ahOf (ops[c].1.k :: (ops[c].2.2 ++ (flo (ops.drop (c + 1)) ++ r))))) (wsV k) = true by rw [ops[c].1.ah]; exact (inV_c _ _).trans (decide_eq_true (ws_in hx.1 hk))]
      refine iteT ?_
      refine ⟨fun σ H' => ∃ (x : V) (y6 y7 y8 : Option V), σ = [some (.ref p), some (.int ((lev : Nat) : Int)), some (.ref wa), some (.ref fo), some x, some (.int (((acc e0 (ops.take (c + 1))).ht : Nat) : Int)), y6, y7, y8] ∧ Fd p H H' ∧ RdA C K H' p n T (i + t0.length + (flo (ops.take (c + 1))).length) ∧ Dp K H' x (acc e0 (ops.take (c + 1))).d, fun σ H' hN => ?_, ?_⟩
      · obtain ⟨x, y6, y7, y8, rfl, h1, h2, h3⟩ := hN
        exact ⟨ops.length - (c + 1), by omega, c + 1, x, y6, y7, y8, rfl, rfl, by omega, h1, h2, h3⟩
      · refine ⟨_, rfl, rd2.go nf_take ⟨p, n, T, _, _, _, rfl, rd2, er2, fun H3 f3 rd3 => ?_⟩⟩
        have er3 := (rem_step er2).2
        refine ⟨fo, _, rfl, hd, _, rfl, _, rfl, p, n, T, _, lev, m, ops[c].2.1, ops[c].2.2, _, rfl, rd3, er3, hm, hx.2, flo_stp st hk1 hk8 _ (fun y hy => hlv y (List.mem_of_mem_drop hy)), hl, fun H4 t' y f4 rd4 ht' dp' => ?_⟩
        refine ⟨t', _, rfl, ht', rfl, _, _, rfl, _, _, rfl, rfl, ?_⟩
        refine ⟨_, rfl, _, rfl, _, rfl, by show 3 ≤ sizeLine; decide, fun t1 n1 => ?_⟩
        have s5 := same_upd n1 (o := .tup [kvV ops[c].1.k, x, y])
        refine ⟨_, rfl, _, rfl, _, _, rfl, ?_⟩
        rw [mx_int]
        refine ⟨_, _, rfl, rfl, ?_⟩
        have dx := Dp.fdI rd3.ins f4 _ _ (Dp.fdI rd2.ins f3 _ _ dp2)
        have ea : acc e0 (ops.take (c + 1)) = .bin ops[c].1 (acc e0 (ops.take c)) ops[c].2.1 := by
          unfold acc
          rw [et, List.foldl_append]
          rfl
        refine ⟨.ref t1, some (kvV ops[c].1.k), some y, some (.int ((ops[c].2.1.ht : Nat) : Int)), ?_, ((((fi.trans (Fd.of s2)).trans f3).trans f4).trans (Fd.of s5)), ?_, ?_⟩
        · rw [ea, show (((Ex.bin ops[c].1 (acc e0 (ops.take c)) ops[c].2.1).ht : Nat) : Int) = 1 + ((max (acc e0 (ops.take c)).ht ops[c].2.1.ht : Nat) : Int) by show ((max (acc e0 (ops.take c)).ht ops[c].2.1.ht + 1 : Nat) : Int) = _; omega]
          rfl
        · rw [et, show i + t0.length + (flo (ops.take c ++ [ops[c]])).length = i + t0.length + (flo (ops.take c)).length + 1 + ops[c].2.2.length by
            unfold flo
            rw [List.map_append, List.flatten_append, List.length_append]
            show _ + (_ + (ops[c].1.k :: ops[c].2.2 ++ []).length) = _
            rw [List.append_nil, List.length_cons]
            omega]
          exact rd4.ext s5
        · rw [ea]
          have key : ∀ (Hf : Hp) (v : V), v = .str ops[c].1.w → SqT K Hf t1 [v, x, y] → Dp K Hf x (acc e0 (ops.take c)).d → Dp K Hf y ops[c].2.1.d → Dp K Hf (.ref t1) (Ex.bin ops[c].1 (acc e0 (ops.take c)) ops[c].2.1).d := fun Hf v hv h1 h2 h3 => by
            subst hv
            exact .tup h1 (.cons (.str _) (.cons h2 (.cons h3 .nil)))
          exact key _ _ (kv_op _) (.inl (.inl upd_same)) (Dp.ext s5 _ _ dx) (Dp.ext s5 _ _ dp')
    · obtain rfl : c = ops.length := by omega
      rw [show ops.drop ops.length = [] from List.drop_length, show flo [] ++ r = r from rfl, show inV (tx (ahOf r)) (wsV k) = false from (inV_c _ _).trans (decide_eq_false (ws_not st hk))]
      refine iteF ?_
      rw [List.take_length] at rd2 dp2 ⊢
      refine ⟨_, rfl, _, rfl, by show 2 ≤ sizeLine; decide, fun t2 n2 => ?_⟩
      have ee' : e = acc e0 ops := ee
      subst ee'
      refine q _ t2 x ((fi.trans (Fd.of s2)).trans (Fd.new n2)) ?_ (.inl (.inl upd_same)) (Dp.ext (same_upd n2) _ _ dp2)
      rw [ets, show i + (t0 ++ (ops.map fun x => x.1.k :: x.2.2).flatten).length = i + t0.length + (flo ops).length by rw [List.length_append]; unfold flo; omega]
      exact rd2.ext (same_upd n2)
theorem ok_or {f : Addr} {fd : FuncData} {kk z : Nat} (h4 : 4 ≤ kk) (F : Fun K "read_or" "read_or" s_read_or f fd) (M : Mg mg) (c_read_left_to_right : Cl P w K mg base (kk + 1) "read_left_to_right" (sp_l2r P w K mg base C kk 1 z)) (c_read_and : Cl P w K mg base kk "read_and" (sp_rd C K 2 z)) : FnOk P w K mg base CX0 (kk + 2) f fd ["reader", "level"] (sp_rd C K 1 z) := by
  refine F.ok sc_read_or (fun vs H Q E h => ?_) (fun cdv A outer s H vs Q E hr h => ?_)
  · obtain ⟨p, n, T, i, lev, m, e, ts, r, rfl, _⟩ := h
    rfl
  · obtain ⟨p, n, T, i, lev, m, e, ts, r, rfl, rd, er, hm, g, st, hl, q⟩ := h
    obtain ⟨fo, hm_read_and, hd⟩ := c_read_and.hd
    refine ⟨_, (pss_one (ps_ret (pe_u c_read_left_to_right hr (by first | decide | omega) (by rfl) (pa_cons (pv 0) (pa_cons (pv 1) (pa_cons (pe_tup (pa_cons pe_str pa_nil)) (pa_cons (C8.pe_gc (v := .ref _) (by rfl) ⟨_, hm_read_and, rfl⟩) pa_nil))))))), ?_⟩
    refine ⟨_, rfl, _, rfl, by show 1 ≤ sizeLine; decide, fun wa nwa => ?_⟩
    have s1 := same_upd nwa (o := .tup [.str "or"])
    exact ⟨p, n, T, i, lev, wa, fo, m, e, ts, r, rfl, .inl (.inl upd_same), hd, rd.ext s1, er, hm, g, st, hl, fun H' t x f' => q H' t x ((Fd.of s1).trans f')⟩
theorem ok_and {f : Addr} {fd : FuncData} {kk z : Nat} (h4 : 4 ≤ kk) (F : Fun K "read_and" "read_and" s_read_and f fd) (M : Mg mg) (c_read_left_to_right : Cl P w K mg base (kk + 1) "read_left_to_right" (sp_l2r P w K mg base C kk 2 z)) (c_read_not : Cl P w K mg base kk "read_not" (sp_rd C K 3 z)) : FnOk P w K mg base CX0 (kk + 2) f fd ["reader", "level"] (sp_rd C K 2 z) := by
  refine F.ok sc_read_and (fun vs H Q E h => ?_) (fun cdv A outer s H vs Q E hr h => ?_)
  · obtain ⟨p, n, T, i, lev, m, e, ts, r, rfl, _⟩ := h
    rfl
  · obtain ⟨p, n, T, i, lev, m, e, ts, r, rfl, rd, er, hm, g, st, hl, q⟩ := h
    obtain ⟨fo, hm_read_not, hd⟩ := c_read_not.hd
    refine ⟨_, (pss_one (ps_ret (pe_u c_read_left_to_right hr (by first | decide | omega) (by rfl) (pa_cons (pv 0) (pa_cons (pv 1) (pa_cons (pe_tup (pa_cons pe_str pa_nil)) (pa_cons (C8.pe_gc (v := .ref _) (by rfl) ⟨_, hm_read_not, rfl⟩) pa_nil))))))), ?_⟩
    refine ⟨_, rfl, _, rfl, by show 1 ≤ sizeLine; decide, fun wa nwa => ?_⟩
    have s1 := same_upd nwa (o := .tup [.str "and"])
    exact ⟨p, n, T, i, lev, wa, fo, m, e, ts, r, rfl, .inl (.inl upd_same), hd, rd.ext s1, er, hm, g, st, hl, fun H' t x f' => q H' t x ((Fd.of s1).trans f')⟩
theorem ok_sum {f : Addr} {fd : FuncData} {kk z : Nat} (h4 : 4 ≤ kk) (F : Fun K "read_sum" "read_sum" s_read_sum f fd) (M : Mg mg) (c_read_left_to_right : Cl P w K mg base (kk + 1) "read_left_to_right" (sp_l2r P w K mg base C kk 5 z)) (c_read_product : Cl P w K mg base kk "read_product" (sp_rd C K 6 z)) : FnOk P w K mg base CX0 (kk + 2) f fd ["reader", "level"] (sp_rd C K 5 z) := by
  refine F.ok sc_read_sum (fun vs H Q E h => ?_) (fun cdv A outer s H vs Q E hr h => ?_)
  · obtain ⟨p, n, T, i, lev, m, e, ts, r, rfl, _⟩ := h
    rfl
  · obtain ⟨p, n, T, i, lev, m, e, ts, r, rfl, rd, er, hm, g, st, hl, q⟩ := h
    obtain ⟨fo, hm_read_product, hd⟩ := c_read_product.hd
    refine ⟨_, (pss_one (ps_ret (pe_u c_read_left_to_right hr (by first | decide | omega) (by rfl) (pa_cons (pv 0) (pa_cons (pv 1) (pa_cons (pe_tup (pa_cons pe_str (pa_cons pe_str pa_nil))) (pa_cons (C8.pe_gc (v := .ref _) (by rfl) ⟨_, hm_read_product, rfl⟩) pa_nil))))))), ?_⟩
    refine ⟨_, rfl, _, rfl, by show 2 ≤ sizeLine; decide, fun wa nwa => ?_⟩
    have s1 := same_upd nwa (o := .tup [.str "+", .str "-"])
    exact ⟨p, n, T, i, lev, wa, fo, m, e, ts, r, rfl, .inl (.inl upd_same), hd, rd.ext s1, er, hm, g, st, hl, fun H' t x f' => q H' t x ((Fd.of s1).trans f')⟩
theorem ok_product {f : Addr} {fd : FuncData} {kk z : Nat} (h4 : 4 ≤ kk) (F : Fun K "read_product" "read_product" s_read_product f fd) (M : Mg mg) (c_read_left_to_right : Cl P w K mg base (kk + 1) "read_left_to_right" (sp_l2r P w K mg base C kk 6 z)) (c_read_negation : Cl P w K mg base kk "read_negation" (sp_rd C K 7 z)) : FnOk P w K mg base CX0 (kk + 2) f fd ["reader", "level"] (sp_rd C K 6 z) := by
  refine F.ok sc_read_product (fun vs H Q E h => ?_) (fun cdv A outer s H vs Q E hr h => ?_)
  · obtain ⟨p, n, T, i, lev, m, e, ts, r, rfl, _⟩ := h
    rfl
  · obtain ⟨p, n, T, i, lev, m, e, ts, r, rfl, rd, er, hm, g, st, hl, q⟩ := h
    obtain ⟨fo, hm_read_negation, hd⟩ := c_read_negation.hd
    refine ⟨_, (pss_one (ps_ret (pe_u c_read_left_to_right hr (by first | decide | omega) (by rfl) (pa_cons (pv 0) (pa_cons (pv 1) (pa_cons (pe_tup (pa_cons pe_str (pa_cons pe_str (pa_cons pe_str pa_nil)))) (pa_cons (C8.pe_gc (v := .ref _) (by rfl) ⟨_, hm_read_negation, rfl⟩) pa_nil))))))), ?_⟩
    refine ⟨_, rfl, _, rfl, by show 3 ≤ sizeLine; decide, fun wa nwa => ?_⟩
    have s1 := same_upd nwa (o := .tup [.str "*", .str "div", .str "mod"])
    exact ⟨p, n, T, i, lev, wa, fo, m, e, ts, r, rfl, .inl (.inl upd_same), hd, rd.ext s1, er, hm, g, st, hl, fun H' t x f' => q H' t x ((Fd.of s1).trans f')⟩
def sp_rexp (C : Addr) (K : PySem.W.Frag) (z : Nat) : Sp := fun vs H Q _ => ∃ (p : Addr) (n : Src) (T : List (Kv × Nat)) (i m : Nat) (e : Ex) (ts r : List Kv), vs = [.ref p] ∧ RdA C K H p n T i ∧ rem T i = ts ++ r ∧ m < z ∧ Gx m 1 e ts ∧ stp 1 r ∧ m ≤ 12 ∧ e.ht ≤ 30 ∧
  ∀ H' x, Fd p H H' → RdA C K H' p n T (i + ts.length) → Dp K H' x e.d → Q x H'
theorem ok_rexp {f : Addr} {fd : FuncData} {j z : Nat} (F : Fun K "read_expression" "read_expression" s_read_expression f fd) (M : Mg mg) (G : Pe K w mg aC aK aF eK nK eF nF) (c_read_or : Cl P w K mg base j "read_or" (sp_rd C K 1 z)) : FnOk P w K mg base CX0 (j + 1) f fd ["reader"] (sp_rexp C K z) := by
  refine F.ok sc_read_expression (fun vs H Q E h => ?_) (fun cdv A outer s H vs Q E hr h => ?_)
  · obtain ⟨p, n, T, i, m, e, ts, r, rfl, _⟩ := h
    rfl
  · obtain ⟨p, n, T, i, m, e, ts, r, rfl, rd, er, hm, g, st, hl, h30, q⟩ := h
    refine ⟨_, (pss_cons (ps_asg (pe_u c_read_or hr (by first | decide | omega) (by rfl) (pa_cons (pv 0) (pa_cons pe_int pa_nil))) (pg_tup (by rfl) (pgs_cons (pg_name (i := 1) sc_read_expression.nd rfl (.inl rfl)) (pgs_cons (pg_name (i := 2) sc_read_expression.nd rfl (.inl rfl)) pgs_nil))))
      (pss_cons (ps_if (pt_cmpR op_gt (pv 2) (C8.pe_gc (by rfl) G.MOST_HEIGHT) (nomark _)) (pss_one ps_never) pss_nil)
      (pss_one (ps_ret (pv 1))))), ?_⟩
    refine ⟨_, rfl, p, n, T, i, 0, m, e, ts, r, rfl, rd, er, hm, g, st, by omega, fun H1 t x f1 rd1 ht dp => ?_⟩
    refine ⟨t, _, rfl, ht, rfl, _, _, rfl, _, _, rfl, rfl, ?_⟩
    refine ⟨_, rfl, _, _, rfl, rfl, _, rfl, ?_⟩
    rw [decide_eq_false (show ¬ ((e.ht : Nat) : Int) > 30 by omega)]
    refine iteF ?_
    exact ⟨_, rfl, q H1 x f1 rd1 dp⟩
/-! all of them, by how deep an expression stands in itself -/
def HasF (K : PySem.W.Frag) (mg : Str → Option Value) (x : Str) (st : Stmt) (ps : List Str) : Prop := ∃ f fd, Fun K x x st f fd ∧ mg x = some (.ref f) ∧ Binds K fd ps []
theorem HasF.cl {x : Str} {st : Stmt} {ps : List Str} {k : Nat} {sp : Sp} (h : HasF K mg x st ps) (ok : ∀ {f : Addr} {fd : FuncData}, Fun K x x st f fd → FnOk P w K mg base CX0 k f fd ps sp) : Cl P w K mg base k x sp := by
  obtain ⟨f, fd, F, hm, b⟩ := h
  exact FnOk.cl (ok F) F hm b
structure Ex3 (P : Program) (w : World) (K : PySem.W.Frag) (mg : Str → Option Value) (base : Heap) (C : Addr) (z : Nat) : Prop where
  or : Cl P w K mg base (13 * z + 4) "read_or" (sp_rd C K 1 z)
  nt : Cl P w K mg base (13 * z + 4) "read_not" (sp_rd C K 3 z)
  ng : Cl P w K mg base (13 * z + 4) "read_negation" (sp_rd C K 7 z)
structure ExF (K : PySem.W.Frag) (mg : Str → Option Value) : Prop where
  or : HasF K mg "read_or" s_read_or ["reader", "level"]
  an : HasF K mg "read_and" s_read_and ["reader", "level"]
  nt : HasF K mg "read_not" s_read_not ["reader", "level"]
  cm : HasF K mg "read_comparison" s_read_comparison ["reader", "level"]
  sm : HasF K mg "read_sum" s_read_sum ["reader", "level"]
  pd : HasF K mg "read_product" s_read_product ["reader", "level"]
  ng : HasF K mg "read_negation" s_read_negation ["reader", "level"]
  lr : HasF K mg "read_left_to_right" s_read_left_to_right ["reader", "level", "words", "read_operand"]
  at_ : HasF K mg "read_atom" s_read_atom ["reader", "level"]
  pa : HasF K mg "read_parenthesis" s_read_parenthesis ["reader", "level"]
  ca : HasF K mg "read_call" s_read_call ["reader", "level"]
theorem cl_exp (h : ExF K mg) (M : Mg mg) (G : Pe K w mg aC aK aF eK nK eF nF) (AH : ClM P w K mg base 2 C "ahead" (sp_ahead C K)) (TA : ClM P w K mg base 1 C "take" (sp_take C K)) (EX : ClM P w K mg base 3 C "expect" (sp_expect C K)) (DE : Cl P w K mg base 1 "deeper" sp_deeper) (LF : Cl P w K mg base 4 "read_leaf" (sp_rleaf C K false)) : ∀ z, Ex3 P w K mg base C z
  | 0 => ⟨h.or.cl fun F => F.ok sc_read_or (fun vs H Q E h => by obtain ⟨p, n, T, i, lev, m, e, ts, r, rfl, _⟩ := h; rfl) (fun cdv A outer s H vs Q E hr h => by obtain ⟨p, n, T, i, lev, m, e, ts, r, rfl, _, _, hm, _⟩ := h; omega),
      h.nt.cl fun F => F.ok sc_read_not (fun vs H Q E h => by obtain ⟨p, n, T, i, lev, m, e, ts, r, rfl, _⟩ := h; rfl) (fun cdv A outer s H vs Q E hr h => by obtain ⟨p, n, T, i, lev, m, e, ts, r, rfl, _, _, hm, _⟩ := h; omega),
      h.ng.cl fun F => F.ok sc_read_negation (fun vs H Q E h => by obtain ⟨p, n, T, i, lev, m, e, ts, r, rfl, _⟩ := h; rfl) (fun cdv A outer s H vs Q E hr h => by obtain ⟨p, n, T, i, lev, m, e, ts, r, rfl, _, _, hm, _⟩ := h; omega)⟩
  | z + 1 => by
    have E := cl_exp h M G AH TA EX DE LF z
    have PA := h.pa.cl fun F => ok_paren (by omega) F M DE TA EX E.or
    have CA := h.ca.cl fun F => ok_call (by omega) F M G DE TA EX E.or
    have AT := h.at_.cl fun F => ok_atom (j := 13 * z + 5) (by omega) F M G AH PA CA LF
    have NG := h.ng.cl fun F => ok_neg (j := 13 * z + 6) (by omega) F M AH TA DE AT (E.ng.mono (by omega))
    have PD := h.pd.cl fun F => ok_product (kk := 13 * z + 7) (by omega) F M (h.lr.cl fun F => ok_l2r (by omega) (by omega) F M AH TA) NG
    have SM := h.sm.cl fun F => ok_sum (kk := 13 * z + 9) (by omega) F M (h.lr.cl fun F => ok_l2r (by omega) (by omega) F M AH TA) PD
    have CM := h.cm.cl fun F => ok_cmp (j := 13 * z + 11) (by omega) F M G AH TA SM
    have NT := h.nt.cl fun F => ok_not (j := 13 * z + 12) (by omega) F M AH TA DE CM (E.nt.mono (by omega))
    have AN := h.an.cl fun F => ok_and (kk := 13 * z + 13) (by omega) F M (h.lr.cl fun F => ok_l2r (by omega) (by omega) F M AH TA) NT
    have OR := h.or.cl fun F => ok_or (kk := 13 * z + 15) (by omega) F M (h.lr.cl fun F => ok_l2r (by omega) (by omega) F M AH TA) AN
    exact ⟨OR, NT.mono (by omega), NG.mono (by omega)⟩
end

/-! ### words of queries -/
def Ex.last : Ex → Option (List Nat)
  | .name l => some l | .field _ m => some m | _ => none
def AGG : List String := ["distinct", "sum", "min", "max"]
def JOI : List String := ["inner", "left", "semi", "anti"]
def KND : List String := ["int", "text", "truth"]
def SETS : List String := ["union", "except", "intersect"]
theorem last_at {K : PySem.W.Frag} {H : Hp} {p : V} {e : Ex} {m : List Nat} (h : Dp K H p e.d) (hl : e.last = some m) : ∃ a xs, p = .ref a ∧ SqT K H a xs ∧ atI xs (0 : Int) = some (.str e.wd) ∧ atI xs (-1 : Int) = some (tx m) := by
  cases e with
  | name l =>
    have : l = m := Option.some.inj hl
    subst this
    obtain ⟨a, xs, rfl, hs, ha⟩ := dp_tup h
    obtain ⟨v, rfl, hv⟩ := dp_two ha
    cases hv
    exact ⟨a, _, rfl, hs, rfl, rfl⟩
  | field l k =>
    have : k = m := Option.some.inj hl
    subst this
    obtain ⟨a, xs, rfl, hs, ha⟩ := dp_tup h
    obtain ⟨v, u, rfl, hv, hu⟩ := dp_three ha
    cases hv
    cases hu
    exact ⟨a, _, rfl, hs, rfl, rfl⟩
  | _ => cases hl
theorem nf_in (x : String) (b : Bool) (h : inV (.str (Str.ofString x)) [.str "name", .str "field"] = b) : inV (.str (Str.ofString x)) [.str "name", .str "field"] = b := h
theorem nf (e : Ex) : inV (.str e.wd) [.str "name", .str "field"] = e.last.isSome := by
  cases e with
  | bin o a b => cases o <;> exact nf_in _ false (by decide +kernel)
  | num n => exact nf_in "number" false (by decide +kernel)
  | text l => exact nf_in "text" false (by decide +kernel)
  | truth b => exact nf_in "truth" false (by decide +kernel)
  | null => exact nf_in "null" false (by decide +kernel)
  | name l => exact nf_in "name" true (by decide +kernel)
  | field l m => exact nf_in "field" true (by decide +kernel)
  | neg a => exact nf_in "negate" false (by decide +kernel)
  | nt a => exact nf_in "not" false (by decide +kernel)
  | f1 m a => cases m; exact nf_in "length" false (by decide +kernel); exact nf_in "missing" false (by decide +kernel)
  | f2 m a b => cases m; exact nf_in "coalesce" false (by decide +kernel); exact nf_in "starts" false (by decide +kernel)
  | f3 a b c => exact nf_in "if" false (by decide +kernel)

/-! ### data in which lists stand, and what may change beside them -/
mutual
inductive DpL (L : Addr → Prop) (K : PySem.W.Frag) (H : Hp) : V → PyData → Prop
  | non : DpL L K H .non .none
  | bl (b : Bool) : DpL L K H (.bl b) (.bool b)
  | int (i : Int) : DpL L K H (.int i) (.int i)
  | str (x : Str) : DpL L K H (.str x) (.str x)
  | lst {a : Addr} {xs : List V} {ds : List PyData} : L a → H a = some (.lst xs) → DpLs L K H xs ds → DpL L K H (.ref a) (.list ds)
  | tup {a : Addr} {xs : List V} {ds : List PyData} : SqT K H a xs → DpLs L K H xs ds → DpL L K H (.ref a) (.tuple ds)
inductive DpLs (L : Addr → Prop) (K : PySem.W.Frag) (H : Hp) : List V → List PyData → Prop
  | nil : DpLs L K H [] []
  | cons {v : V} {vs : List V} {d : PyData} {ds : List PyData} : DpL L K H v d → DpLs L K H vs ds → DpLs L K H (v :: vs) (d :: ds)
end
def Chg (L : Addr → Prop) (H H' : Hp) : Prop := ∀ b o, H b = some o → (∃ xs, o = .lst xs ∧ ¬ L b) ∨ (∃ C dx fs, o = .ins C dx fs) ∨ H' b = some o
section
variable {L L' : Addr → Prop} {K : PySem.W.Frag} {H H' : Hp}
theorem Chg.of (h : Same H H') : Chg L H H' := fun b o e => .inr (.inr (h b o e))
theorem Chg.fd {p : Addr} (hp : ∃ C dx fs, H p = some (.ins C dx fs)) (h : Fd p H H') : Chg L H H' := fun b o e => by
  by_cases n : b = p
  · subst n
    obtain ⟨C, dx, fs, hz⟩ := hp
    rw [hz] at e
    cases e
    exact .inr (.inl ⟨_, _, _, rfl⟩)
  · exact .inr (.inr (h b o n e))
theorem Chg.at {D : Addr} {zs : List V} {o : HO} (hD : H D = some (.lst zs)) (n : ¬ L D) : Chg L H (upd H D o) := fun b x e => by
  by_cases nb : b = D
  · subst nb
    rw [hD] at e
    cases e
    exact .inl ⟨_, rfl, n⟩
  · exact .inr (.inr (by rw [upd_ne nb]; exact e))
theorem Chg.tup {a : Addr} {xs : List V} (c : Chg L H H') (h : SqT K H a xs) : SqT K H' a xs := by
  rcases h with (h | ⟨o, h⟩) | h
  · rcases c _ _ h with ⟨_, z, _⟩ | ⟨_, _, _, z⟩ | h
    · cases z
    · cases z
    · exact .inl (.inl h)
  · rcases c _ _ h with ⟨_, z, _⟩ | ⟨_, _, _, z⟩ | h
    · cases z
    · cases z
    · exact .inl (.inr ⟨o, h⟩)
  · exact .inr h
mutual
theorem DpL.chg (c : Chg L H H') : ∀ (d : PyData) (v : V), DpL L K H v d → DpL L K H' v d
  | .none, _, h => by cases h; exact .non
  | .bool b, _, h => by cases h; exact .bl b
  | .int i, _, h => by cases h; exact .int i
  | .str x, _, h => by cases h; exact .str x
  | .list ds, _, h => by
    cases h with
    | lst hl hs ha =>
      refine .lst hl ?_ (DpLs.chg c ds _ ha)
      rcases c _ _ hs with ⟨_, _, z⟩ | ⟨_, _, _, z⟩ | h
      · exact absurd hl z
      · cases z
      · exact h
  | .tuple ds, _, h => by
    cases h with
    | tup hs ha => exact .tup (c.tup hs) (DpLs.chg c ds _ ha)
  | .dict _, _, h => by cases h
theorem DpLs.chg (c : Chg L H H') : ∀ (ds : List PyData) (vs : List V), DpLs L K H vs ds → DpLs L K H' vs ds
  | [], _, h => by cases h; exact .nil
  | d :: ds, _, h => by
    cases h with
    | cons h1 h2 => exact .cons (DpL.chg c d _ h1) (DpLs.chg c ds _ h2)
end
mutual
/-- the same under another L, as far as lists stand -/
theorem DpL.wide (w : ∀ a xs, H a = some (.lst xs) → L a → L' a) : ∀ (d : PyData) (v : V), DpL L K H v d → DpL L' K H v d
  | .none, _, h => by cases h; exact .non
  | .bool b, _, h => by cases h; exact .bl b
  | .int i, _, h => by cases h; exact .int i
  | .str x, _, h => by cases h; exact .str x
  | .list ds, _, h => by
    cases h with
    | lst hl hs ha => exact .lst (w _ _ hs hl) hs (DpLs.wide w ds _ ha)
  | .tuple ds, _, h => by
    cases h with
    | tup hs ha => exact .tup hs (DpLs.wide w ds _ ha)
  | .dict _, _, h => by cases h
theorem DpLs.wide (w : ∀ a xs, H a = some (.lst xs) → L a → L' a) : ∀ (ds : List PyData) (vs : List V), DpLs L K H vs ds → DpLs L' K H vs ds
  | [], _, h => by cases h; exact .nil
  | d :: ds, _, h => by
    cases h with
    | cons h1 h2 => exact .cons (DpL.wide w d _ h1) (DpLs.wide w ds _ h2)
end
mutual
theorem DpL.dp : ∀ (d : PyData) (v : V), DpL L K H v d → Dp K H v d
  | .none, _, h => by cases h; exact .non
  | .bool b, _, h => by cases h; exact .bl b
  | .int i, _, h => by cases h; exact .int i
  | .str x, _, h => by cases h; exact .str x
  | .list ds, _, h => by
    cases h with
    | lst _ hs ha => exact .lst (.of hs) (DpLs.dp ds _ ha)
  | .tuple ds, _, h => by
    cases h with
    | tup hs ha => exact .tup hs (DpLs.dp ds _ ha)
  | .dict _, _, h => by cases h
theorem DpLs.dp : ∀ (ds : List PyData) (vs : List V), DpLs L K H vs ds → DpAll K H vs ds
  | [], _, h => by cases h; exact .nil
  | d :: ds, _, h => by
    cases h with
    | cons h1 h2 => exact .cons (DpL.dp d _ h1) (DpLs.dp ds _ h2)
end
mutual
theorem Dp.toL : ∀ (d : PyData) (v : V), tupOnly d = true → Dp K H v d → DpL L K H v d
  | .none, _, _, h => by cases h; exact .non
  | .bool b, _, _, h => by cases h; exact .bl b
  | .int i, _, _, h => by cases h; exact .int i
  | .str x, _, _, h => by cases h; exact .str x
  | .list ds, _, e, _ => by unfold tupOnly at e; cases e
  | .tuple ds, _, e, h => by
    unfold tupOnly at e
    cases h with
    | tup hs ha => exact .tup hs (DpAll.toL ds _ e ha)
  | .dict _, _, _, h => by cases h
theorem DpAll.toL : ∀ (ds : List PyData) (vs : List V), tupOnlys ds = true → DpAll K H vs ds → DpLs L K H vs ds
  | [], _, _, h => by cases h; exact .nil
  | d :: ds, _, e, h => by
    unfold tupOnlys at e
    rw [Bool.and_eq_true] at e
    cases h with
    | cons h1 h2 => exact .cons (Dp.toL d _ e.1 h1) (DpAll.toL ds _ e.2 h2)
end
theorem DpLs.snoc : ∀ {ds : List PyData} {xs : List V} {v : V} {d : PyData}, DpLs L K H xs ds → DpL L K H v d → DpLs L K H (xs ++ [v]) (ds ++ [d])
  | [], _, _, _, h, h2 => by cases h; exact .cons h2 .nil
  | _ :: ds, _, _, _, h, h2 => by
    cases h with
    | cons a b => exact .cons a (DpLs.snoc b h2)
theorem DpLs.len : ∀ {ds : List PyData} {vs : List V}, DpLs L K H vs ds → vs.length = ds.length
  | [], _, h => by cases h; rfl
  | d :: ds, _, h => by
    cases h with
    | cons h1 h2 => exact congrArg (· + 1) (DpLs.len h2)
end
theorem Fd.nn {p : Addr} {H H' : Hp} (f : Fd p H H') (hp : ∃ o, H' p = some o) : ∀ a, H' a = none → H a = none := fun a h => by
  refine f.back h fun e => ?_
  subst e
  obtain ⟨o, ho⟩ := hp
  rw [ho] at h
  cases h

/-! ### queries over tokens -/
def GE (z : Nat) (e : Ex) (te : List Kv) : Prop := e.ok ∧ e.ht ≤ 30 ∧ ∃ m, m < z ∧ m ≤ 12 ∧ Gx m 1 e te
def GO (z : Nat) (d : PyData) (ts : List Kv) : Prop := ∃ e l te, GE z e te ∧ NmOk l ∧ d = .tuple [e.d, .str ⟨l.toArray⟩] ∧ ((e.last = some l ∧ ts = te) ∨ ts = te ++ [wK "as", .word l])
def GTo (z : Nat) (d : PyData) (ts : List Kv) : Prop := ∃ f tf l, NmOk l ∧ d = .tuple [f, .str ⟨l.toArray⟩] ∧ ts = tf ++ [wK "as", .word l] ∧
  ((f = .tuple [.str "count"] ∧ tf = [wK "count"]) ∨ ∃ w e te, w ∈ AGG ∧ GE z e te ∧ f = .tuple [.str (Str.ofString w), e.d] ∧ tf = wK w :: sK "(" :: (te ++ [sK ")"]))
inductive A2 (R : PyData → List Kv → Prop) : List PyData → List (List Kv) → Prop
  | nil : A2 R [] []
  | cons {d : PyData} {t : List Kv} {ds : List PyData} {ts : List (List Kv)} (h : R d t) (r : A2 R ds ts) : A2 R (d :: ds) (t :: ts)
theorem A2.len {R : PyData → List Kv → Prop} {ds : List PyData} {ts : List (List Kv)} (h : A2 R ds ts) : ds.length = ts.length := by
  induction h with
  | nil => rfl
  | cons _ _ ih => rw [List.length_cons, List.length_cons, ih]
theorem A2.get {R : PyData → List Kv → Prop} {ds : List PyData} {ts : List (List Kv)} (h : A2 R ds ts) : ∀ {i : Nat} (h1 : i < ds.length) (h2 : i < ts.length), R ds[i] ts[i] := by
  induction h with
  | nil => intro i h1; exact absurd h1 (Nat.not_lt_zero i)
  | cons h _ ih =>
    intro i h1 h2
    cases i with
    | zero => exact h
    | succ i => exact ih (by simpa using h1) (by simpa using h2)
def joiK (h : String) : List Kv := if h = "inner" then [wK "join"] else [wK h, wK "join"]
def GP (GQ : PyData → List Kv → Prop) (d : PyData) (ts : List Kv) : Prop :=
  (∃ l m, NmOk l ∧ NmOk m ∧ d = .tuple [.str "named", .str ⟨l.toArray⟩, .str ⟨m.toArray⟩] ∧ ((l = m ∧ ts = [.word l]) ∨ ts = [.word l, wK "as", .word m])) ∨
  ∃ q tq m, NmOk m ∧ GQ q tq ∧ d = .tuple [.str "inside", q, .str ⟨m.toArray⟩] ∧ ts = sK "(" :: (tq ++ [sK ")", wK "as", .word m])
def GS (z : Nat) (GP : PyData → List Kv → Prop) (d : PyData) (ts : List Kv) : Prop :=
  (∃ h o to e te, h ∈ JOI ∧ GP o to ∧ GE z e te ∧ d = .tuple [.str "join", .str (Str.ofString h), o, e.d] ∧ ts = joiK h ++ (to ++ wK "on" :: te)) ∨
  (∃ e te, GE z e te ∧ d = .tuple [.str "where", e.d] ∧ ts = wK "where" :: te) ∨
  (∃ ds tss, A2 (GO z) ds tss ∧ ds ≠ [] ∧ ds.length ≤ 1000 ∧ d = .tuple [.str "select", .list ds] ∧ ts = wK "select" :: cj tss) ∨
  ∃ ds tss us uss, A2 (GO z) ds tss ∧ A2 (GTo z) us uss ∧ (ds ≠ [] ∨ us ≠ []) ∧ ds.length ≤ 1000 ∧ us.length ≤ 1000 ∧ d = .tuple [.str "group", .list ds, .list us] ∧ ts = wK "group" :: (cj tss ++ if us = [] then [] else wK "with" :: cj uss)
def GC (z : Nat) (GP : PyData → List Kv → Prop) (first : Bool) (d : PyData) (ts : List Kv) : Prop := ∃ o to ss sss, GP o to ∧ A2 (GS z GP) ss sss ∧ ss.length ≤ 1000 ∧
  ((first = true ∧ d = .tuple [.none, .tuple [o, .list ss]] ∧ ts = wK "from" :: (to ++ sss.flatten)) ∨ (first = false ∧ ∃ s ∈ SETS, d = .tuple [.str (Str.ofString s), .tuple [o, .list ss]] ∧ ts = wK s :: wK "from" :: (to ++ sss.flatten)))
def GQ (z : Nat) : Nat → PyData → List Kv → Prop
  | 0, _, _ => False
  | n + 1, d, ts => ∃ c cs t tss, GC z (GP (GQ z n)) true c t ∧ A2 (GC z (GP (GQ z n)) false) cs tss ∧ cs.length ≤ 1000 ∧ d = .list (c :: cs) ∧ ts = t ++ tss.flatten
/-! what may follow -/
def STW : List String := ["left", "semi", "anti", "join", "where", "group", "select"]
def FQ : List String := ["", ")", ";"]
def FC : List String := SETS ++ FQ
def FS : List String := STW ++ FC
def FO : List String := "with" :: FS
def fol (S : List String) (r : List Kv) : Prop := ahOf r ∈ S.map codes
theorem fol.mono {S S' : List String} {r : List Kv} (h : fol S r) (w : ∀ x ∈ S, x ∈ S') : fol S' r := by
  obtain ⟨x, hx, e⟩ := List.mem_map.mp h
  exact List.mem_map.mpr ⟨x, w x hx, e⟩
theorem fol.ne {S : List String} {r : List Kv} (h : fol S r) (s : String) (hs : ∀ x ∈ S, codes x ≠ codes s) : ahOf r ≠ codes s := fun e => by
  obtain ⟨x, hx, e'⟩ := List.mem_map.mp h
  exact hs x hx (e'.trans e)
theorem fol.stp {S : List String} {r : List Kv} (h : fol S r) (hs : ∀ x ∈ S, codes x ∉ (cW 1).map codes) : stp 1 r := fun z => by
  obtain ⟨x, hx, e'⟩ := List.mem_map.mp h
  exact hs x hx (e' ▸ z)
theorem fol.inn {S : List String} {r : List Kv} (h : fol S r) (W : List String) (hs : ∀ x ∈ S, codes x ∉ W.map codes) : ahOf r ∉ W.map codes := fun z => by
  obtain ⟨x, hx, e'⟩ := List.mem_map.mp h
  exact hs x hx (e' ▸ z)
theorem wK_ah (s : String) (h : isRes (codes s) = true) (r : List Kv) : ahOf (wK s :: r) = codes s := by
  show (if isRes (codes s) = true then codes s else []) = _
  rw [if_pos h]
theorem fol_w {S : List String} (s : String) (h : isRes (codes s) = true) (hs : s ∈ S) (r : List Kv) : fol S (wK s :: r) := by
  unfold fol
  rw [wK_ah s h]
  exact List.mem_map_of_mem hs
/-- a part that is read -/
def sp_part (C : Addr) (K : PySem.W.Frag) (R : PyData → List Kv → Prop) (S : List String) : Sp := fun vs H Q _ => ∃ (p : Addr) (n : Src) (T : List (Kv × Nat)) (i : Nat) (d : PyData) (ts r : List Kv), vs = [.ref p] ∧ RdA C K H p n T i ∧ rem T i = ts ++ r ∧ R d ts ∧ fol S r ∧
  ∀ H' x, Fd p H H' → RdA C K H' p n T (i + ts.length) → DpL (fun a => H a = none) K H' x d → Q x H'
/-- the same at a level -/
def sp_partL (C : Addr) (K : PySem.W.Frag) (k : Nat) (R : PyData → List Kv → Prop) (S : List String) : Sp := fun vs H Q _ => ∃ (p : Addr) (n : Src) (T : List (Kv × Nat)) (i lev : Nat) (d : PyData) (ts r : List Kv), vs = [.ref p, .int ((lev : Nat) : Int)] ∧ lev + k ≤ 7 ∧ RdA C K H p n T i ∧ rem T i = ts ++ r ∧ R d ts ∧ fol S r ∧
  ∀ H' x, Fd p H H' → RdA C K H' p n T (i + ts.length) → DpL (fun a => H a = none) K H' x d → Q x H'
def sp_list (P : Program) (w : World) (K : PySem.W.Frag) (mg : Str → Option Value) (base : Heap) (C : Addr) (kk : Nat) (R : PyData → List Kv → Prop) (S : List String) : Sp := fun vs H Q _ => ∃ (p : Addr) (n : Src) (T : List (Kv × Nat)) (i : Nat) (fo : Addr) (ds : List PyData) (tss : List (List Kv)) (r : List Kv), vs = [.ref p, .ref fo] ∧ Hd P w K mg base kk fo (sp_part C K R ("," :: S)) ∧ RdA C K H p n T i ∧ rem T i = cj tss ++ r ∧ A2 R ds tss ∧ ds ≠ [] ∧ ds.length ≤ 1000 ∧ fol S r ∧
  ∀ H' x, Fd p H H' → RdA C K H' p n T (i + (cj tss).length) → DpL (fun a => H a = none) K H' x (.list ds) → Q x H'
section
variable {P : Program} {w : World} {K : PySem.W.Frag} {mg : Str → Option Value} {base : Heap} {C : Addr}
theorem ct_step (t : List Kv) (tss : List (List Kv)) : ct (t :: tss) = sK "," :: (t ++ ct tss) := rfl
theorem ct_fol {S : List String} {r : List Kv} (h : fol S r) (tss : List (List Kv)) : fol ("," :: S) (ct tss ++ r) := by
  cases tss with
  | nil => exact h.mono fun x hx => List.mem_cons_of_mem _ hx
  | cons t tss => exact List.mem_map.mpr ⟨",", List.mem_cons_self .., rfl⟩
theorem ok_list {f : Addr} {fd : FuncData} {kk : Nat} (h4 : 4 ≤ kk) {R : PyData → List Kv → Prop} {S : List String} (hS : ∀ x ∈ S, codes x ≠ codes ",") (F : Fun K "read_list" "read_list" s_read_list f fd) (M : Mg mg) (c_Reader_ahead : ClM P w K mg base 2 C "ahead" (sp_ahead C K)) (c_Reader_take : ClM P w K mg base 1 C "take" (sp_take C K)) : FnOk P w K mg base CX0 (kk + 1) f fd ["reader", "read_part"] (sp_list P w K mg base C kk R S) := by
  refine F.ok sc_read_list (fun vs H Q E h => ?_) (fun cdv A outer s H vs Q E hr h => ?_)
  · obtain ⟨p, n, T, i, fo, ds, tss, r, rfl, _⟩ := h
    rfl
  · obtain ⟨p, n, T, i, fo, ds, tss, r, rfl, hd, rd, er, ha, hne, hfew, st, q⟩ := h
    cases ha with
    | nil => exact absurd rfl hne
    | @cons d0 t0 ds tss hR har =>
      have hl2 := har.len
      have few : ds.length ≤ 1000 := by rw [List.length_cons] at hfew; omega
      rw [cj_ct, List.append_assoc] at er
      have erd : ∀ c, rem T (i + t0.length + (ct (tss.take c)).length) = ct (tss.drop c) ++ r := fun c => by
        refine rem_app ?_
        rw [rem_app er, ← List.append_assoc]
        congr 1
        unfold ct
        rw [← List.flatten_append, ← List.map_append, List.take_append_drop]
      have lt1 : (1002 : Nat) < sizeLine := by decide
      refine ⟨_, (pss_cons (ps_set (i := 2) sc_read_list.nd rfl (.inl rfl) (pe_lst (pa_cons (pe_callH (k := kk) hr (by first | decide | omega) (i := 1) rfl (.inl rfl) (pa_cons (pv 0) pa_nil)) pa_nil)))
      (pss_cons (ps_while PassesOwn.never (pt_cmpR op_eq (pe_mt0 c_Reader_ahead hr (by first | decide | omega) (pv 0)) pe_str (nomark _)) (pss_cons (ps_expr (pe_mt0 c_Reader_take hr (by first | decide | omega) (pv 0)))
      (pss_one (ps_expr (pe_bmK K PySem.F.plainAttrs_list PySem.F.slot_list_append PySem.F.type_list_append mt_append (pv 2) (pa_cons (pe_callH (k := kk) hr (by first | decide | omega) (i := 1) rfl (.inl rfl) (pa_cons (pv 0) pa_nil)) pa_nil))))))
      (pss_one (ps_ret (pv 2))))), ?_⟩
      refine ⟨fo, _, rfl, hd, _, rfl, p, n, T, i, d0, t0, _, rfl, rd, er, hR, ct_fol st tss, fun H1 x f1 rd1 dp => ?_⟩
      refine ⟨by show 1 ≤ sizeLine; decide, fun D nD => ?_⟩
      obtain ⟨nDa, nDp⟩ := rd1.new nD
      have nD0 := f1.back nD nDp
      have dp1 := DpL.wide (L' := fun a => H a = none ∧ a ≠ D) (fun a xs e hl => ⟨hl, ne_of_none e nD⟩) _ _ dp
      have s2 := same_upd nD (o := .lst [x])
      refine ⟨fun k σ Hi => ∃ (c : Nat) (xs : List V), σ = [some (.ref p), some (.ref fo), some (.ref D)] ∧ k = ds.length - c ∧ c ≤ ds.length ∧ Fd p H Hi ∧ RdA C K Hi p n T (i + t0.length + (ct (tss.take c)).length) ∧ Hi D = some (.lst xs) ∧ DpLs (fun a => H a = none ∧ a ≠ D) K Hi xs (d0 :: ds.take c),
        ⟨_, 0, [x], rfl, rfl, Nat.zero_le _, f1.trans (Fd.of s2), rd1.ext s2, upd_same, .cons (DpL.chg (Chg.of s2) _ _ dp1) .nil⟩, fun k σ Hi hW => ?_⟩
      obtain ⟨c, xs, rfl, rfl, hc, fi, rdi, eD, da⟩ := hW
      have xl : xs.length = c + 1 := by
        rw [da.len, List.length_cons, List.length_take]
        omega
      refine ⟨_, rfl, rdi.go nf_ahead ⟨p, n, T, _, rfl, rdi, fun H2 s2 => ⟨rfl, _, rfl, ?_⟩⟩⟩
      rw [erd c]
      have rd2 := rdi.ext s2
      by_cases hlt : c < ds.length
      · have htc : c < tss.length := by omega
        have edr : ct (tss.drop c) ++ r = sK "," :: (tss[c] ++ (ct (tss.drop (c + 1)) ++ r)) := by
          rw [List.drop_eq_getElem_cons htc, ct_step, List.cons_append, List.append_assoc]
        have er2 := erd c
        rw [edr] at er2
        rw [edr, ah_is "," (show ahOf (sK "," :: (tss[c] ++ (ct (tss.drop (c + 1)) ++ r))) = codes "," from rfl)]
        refine iteT ?_
        have ett : tss.take (c + 1) = tss.take c ++ [tss[c]] := by rw [List.take_add_one, List.getElem?_eq_getElem htc]; rfl
        have etd : ds.take (c + 1) = ds.take c ++ [ds[c]] := by rw [List.take_add_one, List.getElem?_eq_getElem hlt]; rfl
        refine ⟨fun σ H' => ∃ (xs : List V), σ = [some (.ref p), some (.ref fo), some (.ref D)] ∧ Fd p H H' ∧ RdA C K H' p n T (i + t0.length + (ct (tss.take (c + 1))).length) ∧ H' D = some (.lst xs) ∧ DpLs (fun a => H a = none ∧ a ≠ D) K H' xs (d0 :: ds.take (c + 1)), fun σ H' hN => ?_, ?_⟩
        · obtain ⟨xs, rfl, h1, h2, h3, h4⟩ := hN
          exact ⟨ds.length - (c + 1), by omega, c + 1, xs, rfl, rfl, by omega, h1, h2, h3, h4⟩
        · refine ⟨_, rfl, rd2.go nf_take ⟨p, n, T, _, _, _, rfl, rd2, er2, fun H3 f3 rd3 => ?_⟩⟩
          have er3 := (rem_step er2).2
          have eD3 := f3 _ _ nDp (s2 _ _ eD)
          refine ⟨_, rfl, .inl ⟨rfl, _, .of eD3⟩, fo, _, rfl, hd, _, rfl, p, n, T, _, ds[c], tss[c], _, rfl, rd3, er3, har.get hlt htc, ct_fol st _, fun H4 y f4 rd4 dy => ?_⟩
          have eD4 := f4 _ _ nDp eD3
          refine ⟨D, xs, _, rfl, rfl, eD4, by rw [xl]; omega, ?_⟩
          have f03 := (fi.trans (Fd.of s2)).trans f3
          have dy' := DpL.wide (L' := fun a => H a = none ∧ a ≠ D) (fun a xs e hl => ⟨f03.nn ⟨_, rd3.ins.choose_spec.choose_spec.choose_spec⟩ a hl, fun z => by rw [z, eD3] at hl; cases hl⟩) _ _ dy
          have c34 : Chg (fun a => H a = none ∧ a ≠ D) H2 H4 := Chg.fd rd2.ins (f3.trans f4)
          have cD : Chg (fun a => H a = none ∧ a ≠ D) H4 (upd H4 D (.lst (xs ++ [y]))) := Chg.at eD4 fun z => z.2 rfl
          refine ⟨xs ++ [y], rfl, (f03.trans f4).lst nD0, ?_, upd_same, ?_⟩
          · rw [ett, show i + t0.length + (ct (tss.take c ++ [tss[c]])).length = i + t0.length + (ct (tss.take c)).length + 1 + tss[c].length by
              unfold ct
              rw [List.map_append, List.flatten_append, List.length_append]
              show _ + (_ + (sK "," :: tss[c] ++ []).length) = _
              rw [List.append_nil, List.length_cons]
              omega]
            exact rd4.lst eD4 nDa
          · rw [etd, ← List.cons_append]
            exact DpLs.snoc (DpLs.chg cD _ _ (DpLs.chg c34 _ _ (DpLs.chg (Chg.of s2) _ _ da))) (DpL.chg cD _ _ dy')
      · obtain rfl : c = ds.length := by omega
        rw [show tss.drop ds.length = [] from List.drop_eq_nil_of_le (by omega), show ct [] ++ r = r from rfl, ah_not "," (st.ne "," hS)]
        refine iteF ?_
        rw [show tss.take ds.length = tss from List.take_of_length_le (by omega)] at rd2
        rw [List.take_length] at da
        refine ⟨_, rfl, q H2 _ (fi.trans (Fd.of s2)) ?_ (.lst nD0 (s2 _ _ eD) (DpLs.wide (fun a xs _ h => h.1) _ _ (DpLs.chg (Chg.of s2) _ _ da)))⟩
        rw [cj_ct, List.length_append, ← Nat.add_assoc]
        exact rd2
theorem ok_rout {f : Addr} {fd : FuncData} {j z : Nat} (hj : 3 ≤ j) (F : Fun K "read_output" "read_output" s_read_output f fd) (M : Mg mg) (c_Reader_ahead : ClM P w K mg base 2 C "ahead" (sp_ahead C K)) (c_Reader_expect : ClM P w K mg base 3 C "expect" (sp_expect C K)) (c_Reader_take_name : ClM P w K mg base 2 C "take_name" (sp_tname C K)) (c_read_expression : Cl P w K mg base j "read_expression" (sp_rexp C K z)) : FnOk P w K mg base CX0 (j + 1) f fd ["reader"] (sp_part C K (GO z) ("," :: FO)) := by
  refine F.ok sc_read_output (fun vs H Q E h => ?_) (fun cdv A outer s H vs Q E hr h => ?_)
  · obtain ⟨p, n, T, i, d, ts, r, rfl, _⟩ := h
    rfl
  · obtain ⟨p, n, T, i, d, ts, r, rfl, rd, er, ⟨e, l, te, ⟨ok, h30, m, hm, h12, g⟩, nm, rfl, ho⟩, st, q⟩ := h
    -- with a name behind as
    obtain ⟨t, ht', hq⟩ : ∃ t, PSs (cxOf CX0 P w K mg base N_read_output "read_output" (defScope s_read_output) f cdv A outer s H E).nox ((defBody s_read_output).drop 2) t ∧ ∀ H' x i', ts = te ++ [wK "as", .word l] → i' = i + te.length → rem T i' = wK "as" :: .word l :: r → Fd p H H' → RdA C K H' p n T i' → Dp K H' x e.d → t { nx := fun _ H' => Q .non H', rt := Q } [some (.ref p), some x] H' := by
      refine ⟨_, (pss_cons (ps_expr (pe_mt c_Reader_expect hr (by first | decide | omega) (pv 0) (pa_cons pe_str pa_nil)))
      (pss_one (ps_ret (pe_tup (pa_cons (pv 1) (pa_cons (pe_mt0 c_Reader_take_name hr (by first | decide | omega) (pv 0)) pa_nil)))))), fun H' x i' ets ei er' f' rd' dp => ?_⟩
      refine ⟨_, rfl, rd'.go nf_expect ⟨p, n, T, _, codes "as", _, _, congrArg (fun z => [V.ref p, z]) (str_tx "as"), rd', er', by rw [er', wK_ah "as" (by decide +kernel)], fun H2 f2 rd2 => ?_⟩⟩
      have er2 := (rem_step er').2
      refine ⟨_, rfl, _, rfl, rd2.go nf_tname ⟨p, n, T, _, l, r, rfl, rd2, er2, nm, fun H3 f3 rd3 => ?_⟩⟩
      refine ⟨by show 2 ≤ sizeLine; decide, fun u nu => ?_⟩
      have dp3 := Dp.ext (same_upd nu (o := .tup [x, tx l])) _ _ (Dp.fdI rd2.ins f3 _ _ (Dp.fdI rd'.ins f2 _ _ dp))
      refine q _ _ (((f'.trans f2).trans f3).trans (Fd.new nu)) ?_ (.tup (.inl (.inl upd_same)) (.cons (Dp.toL _ _ (ex_only e) dp3) (.cons (.str _) .nil)))
      rw [ets, List.length_append, show i + (te.length + [wK "as", Kv.word l].length) = i' + 1 + 1 by rw [ei]; show i + (te.length + 2) = _; omega]
      exact rd3.ext (same_upd nu)
    refine ⟨_, (pss_cons (ps_set (i := 1) sc_read_output.nd rfl (.inl rfl) (pe_u c_read_expression hr (by first | decide | omega) (by rfl) (pa_cons (pv 0) pa_nil)))
      (pss_cons (ps_if (PW.pt (pw_and (pt_cmpR (inK K) (pe_ix (ix_tupK K) (pv 1) pe_int (fun _ _ => rfl)) (pe_tup (pa_cons pe_str (pa_cons pe_str pa_nil))) (by rfl)) (pw_and1 (pt_cmpR op_ne (pe_mt0 c_Reader_ahead hr (by first | decide | omega) (pv 0)) pe_str (nomark _))))) (pss_one (ps_ret (pe_tup (pa_cons (pv 1) (pa_cons (pe_ix (ix_tupK K) (pv 1) (pe_un un_neg pe_int) (fun _ _ => rfl)) pa_nil))))) pss_nil)
      ht')), ?_⟩
    have er0 : rem T i = te ++ (ts.drop te.length ++ r) := by
      rcases ho with ⟨_, rfl⟩ | rfl
      · rw [er, List.drop_length]
        rfl
      · rw [er, List.drop_left, List.append_assoc]
    have st0 : stp 1 (ts.drop te.length ++ r) := by
      rcases ho with ⟨_, rfl⟩ | rfl
      · rw [List.drop_length]
        exact st.stp (by decide +kernel)
      · rw [List.drop_left]
        exact (fol_w (S := ["as"]) "as" (by decide +kernel) (by decide) _).stp (by decide +kernel)
    refine ⟨_, rfl, p, n, T, i, m, e, te, _, rfl, rd, er0, hm, g, st0, h12, h30, fun H1 x f1 rd1 dp => ?_⟩
    have er1 := rem_app er0
    have asT : ts = te ++ [wK "as", .word l] → rem T (i + te.length) = wK "as" :: .word l :: r := fun z => by
      rw [er1, z, List.drop_left]
      rfl
    cases hla : e.last with
    | none =>
      have hts : ts = te ++ [wK "as", .word l] := by
        rcases ho with ⟨z, _⟩ | z
        · rw [hla] at z; cases z
        · exact z
      obtain ⟨b, ys, rfl, hs1⟩ := ex_word dp
      refine ⟨_, rfl, b, _, _, _, rfl, rfl, hs1, atI_nat (j := 0) rfl, ?_⟩
      refine ⟨by show 2 ≤ sizeLine; decide, fun tp ntp => ?_⟩
      refine ⟨tp, _, rfl, .inr (.inl (.inl upd_same)), rfl, rfl, _, rfl, ?_⟩
      rw [if_neg Bool.false_ne_true, nf, hla]
      refine iteF ?_
      have s2 := same_upd ntp (o := .tup [.str "name", .str "field"])
      exact hq _ _ _ hts rfl (asT hts) (f1.trans (Fd.of s2)) (rd1.ext s2) (Dp.ext s2 _ _ dp)
    | some k =>
      obtain ⟨b, ys, rfl, hs1, at0, atl⟩ := last_at dp hla
      refine ⟨_, rfl, b, _, _, _, rfl, rfl, hs1, at0, ?_⟩
      refine ⟨by show 2 ≤ sizeLine; decide, fun tp ntp => ?_⟩
      refine ⟨tp, _, rfl, .inr (.inl (.inl upd_same)), rfl, rfl, _, rfl, ?_⟩
      rw [if_neg Bool.false_ne_true, nf, hla]
      refine iteT ?_
      have s2 := same_upd ntp (o := .tup [.str "name", .str "field"])
      have rd2 := rd1.ext s2
      refine ⟨_, rfl, rd2.go nf_ahead ⟨p, n, T, _, rfl, rd2, fun H3 s3 => ⟨rfl, _, rfl, ?_⟩⟩⟩
      have s23 := s2.trans s3
      rcases ho with ⟨hl, rfl⟩ | hts
      · rw [er1, List.drop_length, ah_not "as" (show ahOf ([] ++ r) ≠ codes "as" from st.ne "as" (by decide +kernel))]
        refine iteT ?_
        have ekl : k = l := by rw [hla] at hl; exact Option.some.inj hl
        subst ekl
        refine ⟨_, rfl, _, rfl, _, rfl, b, _, _, _, rfl, rfl, SqT.ext s23 hs1, atl, by show 2 ≤ sizeLine; decide, fun u nu => ?_⟩
        have s4 := same_upd nu (o := .tup [.ref b, tx k])
        exact q _ _ ((f1.trans (Fd.of s23)).trans (Fd.of s4)) ((rd1.ext s23).ext s4) (.tup (.inl (.inl upd_same)) (.cons (Dp.toL _ _ (ex_only e) (Dp.ext (s23.trans s4) _ _ dp)) (.cons (.str _) .nil)))
      · rw [asT hts, ah_is "as" (wK_ah "as" (by decide +kernel) _)]
        refine iteF ?_
        exact hq _ _ _ hts rfl (asT hts) (f1.trans (Fd.of s23)) (rd1.ext s23) (Dp.ext s23 _ _ dp)
end

/-- what an expression begins with -/
def hdS : List String := ["", "true", "false", "null", "(", "missing", "length", "starts", "coalesce", "if", "-", "not"]
theorem Gx.hd2 {n k : Nat} {e : Ex} {ts : List Kv} (h : Gx n k e ts) : ∃ t u, ts = t :: u ∧ ∀ r, ahOf (t :: r) ∈ hdS.map codes := by
  induction h with
  | leaf h ok =>
    obtain ⟨t, u, rfl, ha⟩ := leaf_not h ok
    refine ⟨t, u, rfl, fun r => ?_⟩
    obtain ⟨x, hx, e⟩ := List.mem_map.mp (ha r)
    exact List.mem_map.mpr ⟨x, (by decide : ∀ x ∈ (["", "true", "false", "null"] : List String), x ∈ hdS) x hx, e⟩
  | par _ _ => exact ⟨_, _, rfl, fun r => by show codes "(" ∈ _; decide +kernel⟩
  | @call n e tss hf _ _ _ =>
    refine ⟨_, _, rfl, fun r => ?_⟩
    rw [fn_ah hf]
    rcases (fn_wd hf).2 with z | z | z | z | z <;> rw [z] <;> decide +kernel
  | neg _ _ => exact ⟨_, _, rfl, fun r => by show codes "-" ∈ _; decide +kernel⟩
  | nt _ _ => exact ⟨_, _, rfl, fun r => by rw [wK_ah "not" (by decide +kernel)]; decide +kernel⟩
  | bin _ _ ih _ =>
    obtain ⟨t, u, rfl, h⟩ := ih
    exact ⟨t, _, rfl, h⟩
  | up _ _ _ ih => exact ih
def GF (z : Nat) (f : PyData) (tf : List Kv) : Prop := (f = .tuple [.str "count"] ∧ tf = [wK "count"]) ∨ ∃ w e te, w ∈ AGG ∧ GE z e te ∧ f = .tuple [.str (Str.ofString w), e.d] ∧ tf = wK w :: sK "(" :: (te ++ [sK ")"])
def GGr (z : Nat) (d : PyData) (ts : List Kv) : Prop := ∃ ds tss us uss, A2 (GO z) ds tss ∧ A2 (GTo z) us uss ∧ (ds ≠ [] ∨ us ≠ []) ∧ ds.length ≤ 1000 ∧ us.length ≤ 1000 ∧ d = .tuple [.str "group", .list ds, .list us] ∧ ts = cj tss ++ if us = [] then [] else wK "with" :: cj uss
theorem GO.hd {z : Nat} {d : PyData} {ts : List Kv} (h : GO z d ts) : ∃ t u, ts = t :: u ∧ ∀ r, ahOf (t :: r) ∈ hdS.map codes := by
  obtain ⟨e, l, te, ⟨_, _, m, _, _, g⟩, _, _, ho⟩ := h
  obtain ⟨t, u, rfl, ha⟩ := g.hd2
  rcases ho with ⟨_, rfl⟩ | rfl
  · exact ⟨t, u, rfl, ha⟩
  · exact ⟨t, _, rfl, ha⟩
theorem hd_ne {l : List Nat} (h : l ∈ hdS.map codes) (s : String) (hs : ∀ x ∈ hdS, codes x ≠ codes s) : l ≠ codes s := fun e => by
  obtain ⟨x, hx, e'⟩ := List.mem_map.mp h
  exact hs x hx (e'.trans e)
/-- the constants of lineworks.parsing -/
structure Pq (K : PySem.W.Frag) (mg : Str → Option Value) (aA aJ aS aU : Addr) : Prop where
  ARGUMENT_TOTALS : ∃ u, mg "ARGUMENT_TOTALS" = some u ∧ RelV (.ref aA) u
  JOIN_WORDS : ∃ u, mg "JOIN_WORDS" = some u ∧ RelV (.ref aJ) u
  STAGE_WORDS : ∃ u, mg "STAGE_WORDS" = some u ∧ RelV (.ref aS) u
  UNION_WORDS : ∃ u, mg "UNION_WORDS" = some u ∧ RelV (.ref aU) u
  MOST_LEVEL_parsing : ∃ u, mg "MOST_LEVEL_parsing" = some u ∧ RelV (.int 6) u
  agg : ∀ H : Hp, SqT K H aA (AGG.map fun s => V.str (Str.ofString s))
  joi : ∀ H : Hp, SqT K H aJ (["left", "semi", "anti"].map fun s => V.str (Str.ofString s))
  stw : ∀ H : Hp, SqT K H aS (STW.map fun s => V.str (Str.ofString s))
  sets : ∀ H : Hp, SqT K H aU (SETS.map fun s => V.str (Str.ofString s))
theorem str_flat (ss : List String) : (ss.map fun s => V.str (Str.ofString s)).all flatV = true := by
  rw [List.all_map]
  exact List.all_eq_true.mpr fun x _ => rfl
section
variable {P : Program} {w : World} {K : PySem.W.Frag} {mg : Str → Option Value} {base : Heap} {C aA aJ aS aU : Addr}
theorem agg_f (w : String) (h : w ∈ AGG) : isRes (codes w) = true ∧ codes w ≠ codes "count" := by
  simp only [AGG, List.mem_cons, List.not_mem_nil, or_false] at h
  rcases h with rfl | rfl | rfl | rfl <;> decide +kernel
theorem ok_rform {f : Addr} {fd : FuncData} {j z : Nat} (hj : 3 ≤ j) (F : Fun K "read_form" "read_form" s_read_form f fd) (M : Mg mg) (G : Pq K mg aA aJ aS aU) (c_Reader_ahead : ClM P w K mg base 2 C "ahead" (sp_ahead C K)) (c_Reader_take : ClM P w K mg base 1 C "take" (sp_take C K)) (c_Reader_expect : ClM P w K mg base 3 C "expect" (sp_expect C K)) (c_read_expression : Cl P w K mg base j "read_expression" (sp_rexp C K z)) : FnOk P w K mg base CX0 (j + 1) f fd ["reader"] (sp_part C K (GF z) ["as"]) := by
  refine F.ok sc_read_form (fun vs H Q E h => ?_) (fun cdv A outer s H vs Q E hr h => ?_)
  · obtain ⟨p, n, T, i, d, ts, r, rfl, _⟩ := h
    rfl
  · obtain ⟨p, n, T, i, d, ts, r, rfl, rd, er, hf, st, q⟩ := h
    refine ⟨_, (pss_cons (ps_set (i := 1) sc_read_form.nd rfl (.inl rfl) (pe_mt0 c_Reader_ahead hr (by first | decide | omega) (pv 0)))
      (pss_cons (ps_if (pt_cmpR op_eq (pv 1) pe_str (nomark _)) (pss_cons (ps_expr (pe_mt0 c_Reader_take hr (by first | decide | omega) (pv 0)))
      (pss_one (ps_ret (pe_tup (pa_cons (pv 1) pa_nil))))) pss_nil)
      (pss_cons (ps_if (pt_cmpR (notInK K) (pv 1) (C8.pe_gc (by rfl) G.ARGUMENT_TOTALS) (by rfl)) (pss_one ps_never) pss_nil)
      (pss_cons (ps_expr (pe_mt0 c_Reader_take hr (by first | decide | omega) (pv 0)))
      (pss_cons (ps_expr (pe_mt c_Reader_expect hr (by first | decide | omega) (pv 0) (pa_cons pe_str pa_nil)))
      (pss_cons (ps_set (i := 2) sc_read_form.nd rfl (.inl rfl) (pe_u c_read_expression hr (by first | decide | omega) (by rfl) (pa_cons (pv 0) pa_nil)))
      (pss_cons (ps_expr (pe_mt c_Reader_expect hr (by first | decide | omega) (pv 0) (pa_cons pe_str pa_nil)))
      (pss_one (ps_ret (pe_tup (pa_cons (pv 1) (pa_cons (pv 2) pa_nil)))))))))))), ?_⟩
    rcases hf with ⟨rfl, rfl⟩ | ⟨w', e, te, hw, ⟨ok, h30, m, hm, h12, g⟩, rfl, rfl⟩
    · have er' : rem T i = wK "count" :: r := er
      refine ⟨_, rfl, rd.go nf_ahead ⟨p, n, T, i, rfl, rd, fun H1 s1 => ?_⟩⟩
      rw [er', wK_ah "count" (by decide +kernel)]
      refine ⟨_, rfl, rfl, _, rfl, ?_⟩
      rw [ah_is "count" rfl]
      refine iteT ?_
      have rd1 := rd.ext s1
      refine ⟨_, rfl, rd1.go nf_take ⟨p, n, T, _, _, _, rfl, rd1, er', fun H2 f2 rd2 => ?_⟩⟩
      refine ⟨_, rfl, by show 1 ≤ sizeLine; decide, fun u nu => ?_⟩
      refine q _ _ (((Fd.of s1).trans f2).trans (Fd.new nu)) (rd2.ext (same_upd nu)) (.tup (.inl (.inl upd_same)) ?_)
      rw [← str_tx "count"]
      exact .cons (.str _) .nil
    · obtain ⟨hres, hnc⟩ := agg_f w' hw
      have er' : rem T i = wK w' :: (sK "(" :: (te ++ (sK ")" :: r))) := by rw [er]; simp
      refine ⟨_, rfl, rd.go nf_ahead ⟨p, n, T, i, rfl, rd, fun H1 s1 => ?_⟩⟩
      rw [er', wK_ah w' hres]
      refine ⟨_, rfl, rfl, _, rfl, ?_⟩
      rw [ah_not "count" hnc]
      refine iteF ?_
      refine ⟨_, rfl, aA, _, rfl, .inr (G.agg _), rfl, str_flat _, _, rfl, ?_⟩
      rw [if_pos rfl, inV_c, decide_eq_true (List.mem_map_of_mem hw)]
      refine iteF ?_
      have rd1 := rd.ext s1
      refine ⟨_, rfl, rd1.go nf_take ⟨p, n, T, _, _, _, rfl, rd1, er', fun H2 f2 rd2 => ?_⟩⟩
      have er2 := (rem_step er').2
      refine ⟨_, rfl, rd2.go nf_expect ⟨p, n, T, _, codes "(", _, _, congrArg (fun z => [V.ref p, z]) (str_tx "("), rd2, er2, by rw [er2]; rfl, fun H3 f3 rd3 => ?_⟩⟩
      have er3 := (rem_step er2).2
      refine ⟨_, rfl, p, n, T, _, m, e, te, _, rfl, rd3, er3, hm, g, stp_par r, h12, h30, fun H4 x f4 rd4 dp => ?_⟩
      have er4 := rem_app er3
      refine ⟨_, rfl, rd4.go nf_expect ⟨p, n, T, _, codes ")", _, _, congrArg (fun z => [V.ref p, z]) (str_tx ")"), rd4, er4, by rw [er4]; rfl, fun H5 f5 rd5 => ?_⟩⟩
      refine ⟨_, rfl, _, rfl, by show 2 ≤ sizeLine; decide, fun u nu => ?_⟩
      have dp5 := Dp.ext (same_upd nu (o := .tup [tx (codes w'), x])) _ _ (Dp.fdI rd4.ins f5 _ _ dp)
      refine q _ _ ((((((Fd.of s1).trans f2).trans f3).trans f4).trans f5).trans (Fd.new nu)) ?_ ?_
      · rw [show i + (wK w' :: sK "(" :: (te ++ [sK ")"])).length = i + 1 + 1 + te.length + 1 by rw [List.length_cons, List.length_cons, List.length_append]; show i + (te.length + 1 + 1 + 1) = _; omega]
        exact rd5.ext (same_upd nu)
      · have key : ∀ Hf : Hp, SqT K Hf u [tx (codes w'), x] → Dp K Hf x e.d → DpL (fun a => H a = none) K Hf (.ref u) (.tuple [.str (Str.ofString w'), e.d]) := fun Hf h1 h2 => by
          rw [← str_tx w'] at h1
          exact .tup h1 (.cons (.str _) (.cons (Dp.toL _ _ (ex_only e) h2) .nil))
        exact key _ (.inl (.inl upd_same)) dp5
theorem ok_rtotal {f : Addr} {fd : FuncData} {j z : Nat} (hj : 3 ≤ j) (F : Fun K "read_total" "read_total" s_read_total f fd) (M : Mg mg) (c_Reader_expect : ClM P w K mg base 3 C "expect" (sp_expect C K)) (c_Reader_take_name : ClM P w K mg base 2 C "take_name" (sp_tname C K)) (c_read_form : Cl P w K mg base j "read_form" (sp_part C K (GF z) ["as"])) : FnOk P w K mg base CX0 (j + 1) f fd ["reader"] (sp_part C K (GTo z) ("," :: FO)) := by
  refine F.ok sc_read_total (fun vs H Q E h => ?_) (fun cdv A outer s H vs Q E hr h => ?_)
  · obtain ⟨p, n, T, i, d, ts, r, rfl, _⟩ := h
    rfl
  · obtain ⟨p, n, T, i, d, ts, r, rfl, rd, er, ⟨fo, tf, l, nm, rfl, rfl, hf⟩, st, q⟩ := h
    refine ⟨_, (pss_cons (ps_set (i := 1) sc_read_total.nd rfl (.inl rfl) (pe_u c_read_form hr (by first | decide | omega) (by rfl) (pa_cons (pv 0) pa_nil)))
      (pss_cons (ps_expr (pe_mt c_Reader_expect hr (by first | decide | omega) (pv 0) (pa_cons pe_str pa_nil)))
      (pss_one (ps_ret (pe_tup (pa_cons (pv 1) (pa_cons (pe_mt0 c_Reader_take_name hr (by first | decide | omega) (pv 0)) pa_nil))))))), ?_⟩
    rw [List.append_assoc] at er
    refine ⟨_, rfl, p, n, T, i, fo, tf, _, rfl, rd, er, hf, fol_w "as" (by decide +kernel) (by decide) _, fun H1 x f1 rd1 dp => ?_⟩
    have er1 : rem T (i + tf.length) = wK "as" :: .word l :: r := rem_app er
    refine ⟨_, rfl, rd1.go nf_expect ⟨p, n, T, _, codes "as", _, _, congrArg (fun z => [V.ref p, z]) (str_tx "as"), rd1, er1, by rw [er1, wK_ah "as" (by decide +kernel)], fun H2 f2 rd2 => ?_⟩⟩
    have er2 := (rem_step er1).2
    refine ⟨_, rfl, _, rfl, rd2.go nf_tname ⟨p, n, T, _, l, r, rfl, rd2, er2, nm, fun H3 f3 rd3 => ?_⟩⟩
    refine ⟨by show 2 ≤ sizeLine; decide, fun u nu => ?_⟩
    have c : Chg (fun a => H a = none) H1 (upd H3 u (.tup [x, tx l])) := Chg.fd rd1.ins ((f2.trans f3).trans (Fd.new nu))
    refine q _ _ (((f1.trans f2).trans f3).trans (Fd.new nu)) ?_ (.tup (.inl (.inl upd_same)) (.cons (DpL.chg c _ _ dp) (.cons (.str _) .nil)))
    rw [List.length_append, show i + (tf.length + [wK "as", Kv.word l].length) = i + tf.length + 1 + 1 by show i + (tf.length + 2) = _; omega]
    exact rd3.ext (same_upd nu)
theorem cj_hd {z : Nat} {ds : List PyData} {tss : List (List Kv)} (h : A2 (GO z) ds tss) (hd : ds ≠ []) : ∃ t u, cj tss = t :: u ∧ ∀ r, ahOf (t :: r) ∈ hdS.map codes := by
  cases h with
  | nil => exact absurd rfl hd
  | @cons d t ds tss h r =>
    obtain ⟨t', u, rfl, ha⟩ := h.hd
    exact ⟨t', _, by rw [cj_ct]; rfl, ha⟩
theorem ok_rgroup {f : Addr} {fd : FuncData} {j z : Nat} (hj : 4 ≤ j) (F : Fun K "read_group" "read_group" s_read_group f fd) (M : Mg mg) (c_Reader_ahead : ClM P w K mg base 2 C "ahead" (sp_ahead C K)) (c_Reader_take : ClM P w K mg base 1 C "take" (sp_take C K)) (lsO : Cl P w K mg base (j + 1) "read_list" (sp_list P w K mg base C j (GO z) FO)) (lsT : Cl P w K mg base (j + 1) "read_list" (sp_list P w K mg base C j (GTo z) FO)) (c_read_output : Cl P w K mg base j "read_output" (sp_part C K (GO z) ("," :: FO))) (c_read_total : Cl P w K mg base j "read_total" (sp_part C K (GTo z) ("," :: FO))) : FnOk P w K mg base CX0 (j + 2) f fd ["reader"] (sp_part C K (GGr z) FS) := by
  refine F.ok sc_read_group (fun vs H Q E h => ?_) (fun cdv A outer s H vs Q E hr h => ?_)
  · obtain ⟨p, n, T, i, d, ts, r, rfl, _⟩ := h
    rfl
  · obtain ⟨p, n, T, i, d, ts, r, rfl, rd, er, ⟨ds, tss, us, uss, hds, hus, hne, k1, k2, rfl, rfl⟩, st, q⟩ := h
    obtain ⟨fo, hm_read_output, hdo⟩ := c_read_output.hd
    obtain ⟨ft, hm_read_total, hdt⟩ := c_read_total.hd
    -- the totals, and what is given back
    obtain ⟨t, ht', hq⟩ : ∃ t, PSs (cxOf CX0 P w K mg base N_read_group "read_group" (defScope s_read_group) f cdv A outer s H E).nox ((defBody s_read_group).drop 3) t ∧ ∀ H' ao to_, Fd p H H' → RdA C K H' p n T (i + (cj tss).length) → DpL (fun a => H a = none) K H' ao (.list ds) → H to_ = none → H' to_ = some (.lst []) → t { nx := fun _ H' => Q .non H', rt := Q } [some (.ref p), some ao, some (.ref to_)] H' := by
      have c_read_list := lsT
      refine ⟨_, (pss_cons (ps_if (pt_cmpR op_eq (pe_mt0 c_Reader_ahead hr (by first | decide | omega) (pv 0)) pe_str (nomark _)) (pss_cons (ps_expr (pe_mt0 c_Reader_take hr (by first | decide | omega) (pv 0)))
      (pss_one (ps_set (i := 2) sc_read_group.nd rfl (.inl rfl) (pe_u c_read_list hr (by first | decide | omega) (by rfl) (pa_cons (pv 0) (pa_cons (C8.pe_gc (v := .ref _) (by rfl) ⟨_, hm_read_total, rfl⟩) pa_nil)))))) pss_nil)
      (pss_one (ps_ret (pe_tup (pa_cons pe_str (pa_cons (pv 1) (pa_cons (pv 2) pa_nil))))))), fun H' ao to_ f' rd' da nt et => ?_⟩
      rw [List.append_assoc] at er
      have er1 := rem_app er
      refine ⟨_, rfl, rd'.go nf_ahead ⟨p, n, T, _, rfl, rd', fun H2 s2 => ⟨rfl, _, rfl, ?_⟩⟩⟩
      rw [er1]
      have rd2 := rd'.ext s2
      have da2 := DpL.chg (Chg.of (L := fun a => H a = none) s2) _ _ da
      by_cases hu : us = []
      · rw [if_pos hu, ah_not "with" (show ahOf ([] ++ r) ≠ codes "with" from st.ne "with" (by decide +kernel))]
        refine iteF ?_
        refine ⟨_, rfl, _, rfl, by show 3 ≤ sizeLine; decide, fun u nu => ?_⟩
        subst hu
        have c : Chg (fun a => H a = none) H2 (upd H2 u (.tup [.str "group", ao, .ref to_])) := Chg.of (same_upd nu)
        refine q _ _ ((f'.trans (Fd.of s2)).trans (Fd.new nu)) ?_ (.tup (.inl (.inl upd_same)) (.cons (.str _) (.cons (DpL.chg c _ _ da2) (.cons (.lst nt ((same_upd nu) _ _ (s2 _ _ et)) .nil) .nil))))
        rw [if_pos rfl, List.append_nil]
        exact rd2.ext (same_upd nu)
      · rw [if_neg hu] at er1 ⊢
        rw [List.cons_append, ah_is "with" (wK_ah "with" (by decide +kernel) _)]
        refine iteT ?_
        have er1' : rem T (i + (cj tss).length) = wK "with" :: (cj uss ++ r) := er1
        refine ⟨_, rfl, rd2.go nf_take ⟨p, n, T, _, _, _, rfl, rd2, er1', fun H3 f3 rd3 => ?_⟩⟩
        have er3 := (rem_step er1').2
        refine ⟨_, rfl, p, n, T, _, ft, us, uss, r, rfl, hdt, rd3, er3, hus, hu, k2, st.mono (by decide), fun H4 x f4 rd4 dx => ?_⟩
        have f03 := (f'.trans (Fd.of s2)).trans f3
        have dx' := DpL.wide (L' := fun a => H a = none) (fun a xs _ hl => f03.nn ⟨_, rd3.ins.choose_spec.choose_spec.choose_spec⟩ a hl) _ _ dx
        refine ⟨_, rfl, _, rfl, by show 3 ≤ sizeLine; decide, fun u nu => ?_⟩
        have c : Chg (fun a => H a = none) H4 (upd H4 u (.tup [.str "group", ao, x])) := Chg.of (same_upd nu)
        have c2 : Chg (fun a => H a = none) H2 H4 := Chg.fd rd2.ins (f3.trans f4)
        refine q _ _ ((f03.trans f4).trans (Fd.new nu)) ?_ (.tup (.inl (.inl upd_same)) (.cons (.str _) (.cons (DpL.chg c _ _ (DpL.chg c2 _ _ da2)) (.cons (DpL.chg c _ _ dx') .nil))))
        rw [if_neg hu, List.length_append, List.length_cons, show i + ((cj tss).length + ((cj uss).length + 1)) = i + (cj tss).length + 1 + (cj uss).length by omega]
        exact rd4.ext (same_upd nu)
    have c_read_list := lsO
    refine ⟨_, (pss_cons (ps_set (i := 1) sc_read_group.nd rfl (.inl rfl) (pe_lst pa_nil))
      (pss_cons (ps_set (i := 2) sc_read_group.nd rfl (.inl rfl) (pe_lst pa_nil))
      (pss_cons (ps_if (pt_cmpR op_ne (pe_mt0 c_Reader_ahead hr (by first | decide | omega) (pv 0)) pe_str (nomark _)) (pss_one (ps_set (i := 1) sc_read_group.nd rfl (.inl rfl) (pe_u c_read_list hr (by first | decide | omega) (by rfl) (pa_cons (pv 0) (pa_cons (C8.pe_gc (v := .ref _) (by rfl) ⟨_, hm_read_output, rfl⟩) pa_nil))))) pss_nil)
      ht'))), ?_⟩
    refine ⟨Nat.zero_le _, fun o1 no => ?_⟩
    have s1 := same_upd no (o := .lst [])
    have eo : (upd H o1 (.lst [])) o1 = some (.lst []) := upd_same
    generalize upd H o1 (.lst []) = H1 at s1 eo
    refine ⟨Nat.zero_le _, fun t1 nt => ?_⟩
    have s2 := same_upd nt (o := .lst [])
    have nt0 : H t1 = none := s1.free nt
    have et : (upd H1 t1 (.lst [])) t1 = some (.lst []) := upd_same
    have eo2 := s2 _ _ eo
    generalize upd H1 t1 (.lst []) = H2 at s2 et eo2
    have s02 := s1.trans s2
    have rd2 := rd.ext s02
    refine ⟨_, rfl, rd2.go nf_ahead ⟨p, n, T, _, rfl, rd2, fun H3 s3 => ⟨rfl, _, rfl, ?_⟩⟩⟩
    have s03 := s02.trans s3
    have rd3 := rd2.ext s3
    by_cases hd0 : ds = []
    · have hu : us ≠ [] := by
        rcases hne with z | z
        · exact absurd hd0 z
        · exact z
      subst hd0
      cases hds
      have er' : rem T i = wK "with" :: (cj uss ++ r) := by rw [er, if_neg hu]; rfl
      rw [er', ah_is "with" (wK_ah "with" (by decide +kernel) _)]
      refine iteF ?_
      exact hq H3 _ _ (Fd.of s03) rd3 (.lst no (s3 _ _ eo2) .nil) nt0 (s3 _ _ et)
    · obtain ⟨t', u', ecj, ha⟩ := cj_hd hds hd0
      rw [List.append_assoc] at er
      have er' := er
      rw [ecj] at er'
      rw [er', List.cons_append, ah_not "with" (hd_ne (ha _) "with" (by decide +kernel))]
      refine iteT ?_
      have st2 : fol FO ((if us = [] then [] else wK "with" :: cj uss) ++ r) := by
        by_cases hu : us = []
        · rw [if_pos hu]
          exact st.mono (by decide)
        · rw [if_neg hu]
          exact fol_w "with" (by decide +kernel) (by decide) _
      refine ⟨_, rfl, p, n, T, _, fo, ds, tss, _, rfl, hdo, rd3, er, hds, hd0, k1, st2, fun H4 x f4 rd4 dx => ?_⟩
      have dx' := DpL.wide (L' := fun a => H a = none) (fun a xs _ hl => s03.free hl) _ _ dx
      obtain ⟨_, _, _, hz⟩ := rd3.ins
      have np : t1 ≠ p := (ne_of hz (s3 _ _ et) (fun z => nomatch z)).symm
      exact hq H4 _ _ ((Fd.of s03).trans f4) rd4 dx' nt0 (f4 _ _ np (s3 _ _ et))
end

def GI (GQ : PyData → List Kv → Prop) (d : PyData) (ts : List Kv) : Prop := ∃ q tq m, NmOk m ∧ GQ q tq ∧ d = .tuple [.str "inside", q, .str ⟨m.toArray⟩] ∧ ts = sK "(" :: (tq ++ [sK ")", wK "as", .word m])
def GJ (z : Nat) (GP : PyData → List Kv → Prop) (h : String) (d : PyData) (ts : List Kv) : Prop := ∃ o to e te, GP o to ∧ GE z e te ∧ d = .tuple [.str "join", .str (Str.ofString h), o, e.d] ∧ ts = to ++ wK "on" :: te
def GCh (z : Nat) (GP : PyData → List Kv → Prop) (d : PyData) (ts : List Kv) : Prop := ∃ o to ss sss, GP o to ∧ A2 (GS z GP) ss sss ∧ ss.length ≤ 1000 ∧ d = .tuple [o, .list ss] ∧ ts = wK "from" :: (to ++ sss.flatten)
def FP : List String := "on" :: FS
theorem joi_f (h : String) (hh : h ∈ JOI) (hn : h ≠ "inner") : isRes (codes h) = true ∧ codes h ∈ (["left", "semi", "anti"] : List String).map codes ∧ codes h ≠ codes "where" ∧ codes h ≠ codes "select" ∧ codes h ≠ codes "group" ∧ codes h ∈ STW.map codes := by
  simp only [JOI, List.mem_cons, List.not_mem_nil, or_false] at hh
  rcases hh with rfl | rfl | rfl | rfl
  · exact absurd rfl hn
  all_goals decide +kernel
theorem GS.hd {z : Nat} {GP : PyData → List Kv → Prop} {d : PyData} {ts : List Kv} (h : GS z GP d ts) : ∃ t u, ts = t :: u ∧ ∀ r, ahOf (t :: r) ∈ STW.map codes := by
  rcases h with ⟨h, o, to, e, te, hh, _, _, _, rfl⟩ | ⟨e, te, _, _, rfl⟩ | ⟨ds, tss, _, _, _, _, rfl⟩ | ⟨ds, tss, us, uss, _, _, _, _, _, _, rfl⟩
  · by_cases hi : h = "inner"
    · refine ⟨wK "join", _, by unfold joiK; rw [if_pos hi]; rfl, fun r => ?_⟩
      rw [wK_ah "join" (by decide +kernel)]
      decide +kernel
    · have k := joi_f h hh hi
      refine ⟨wK h, _, by unfold joiK; rw [if_neg hi]; rfl, fun r => ?_⟩
      rw [wK_ah h k.1]
      exact k.2.2.2.2.2
  · exact ⟨_, _, rfl, fun r => by rw [wK_ah "where" (by decide +kernel)]; decide +kernel⟩
  · exact ⟨_, _, rfl, fun r => by rw [wK_ah "select" (by decide +kernel)]; decide +kernel⟩
  · exact ⟨_, _, rfl, fun r => by rw [wK_ah "group" (by decide +kernel)]; decide +kernel⟩
theorem sf_fol {z : Nat} {GP : PyData → List Kv → Prop} {r : List Kv} (h : fol FC r) {ss : List PyData} {sss : List (List Kv)} (ha : A2 (GS z GP) ss sss) : fol FS (sss.flatten ++ r) := by
  cases ha with
  | nil => exact h.mono (by decide)
  | @cons d t ds ts h1 _ =>
    obtain ⟨t', u, rfl, hh⟩ := h1.hd
    obtain ⟨x, hx, e⟩ := List.mem_map.mp (hh (u ++ ts.flatten ++ r))
    exact List.mem_map.mpr ⟨x, (by decide : ∀ x ∈ STW, x ∈ FS) x hx, by rw [e]; simp⟩
def sp_join (C : Addr) (K : PySem.W.Frag) (k z : Nat) (GP : PyData → List Kv → Prop) (S : List String) : Sp := fun vs H Q _ => ∃ (p : Addr) (n : Src) (T : List (Kv × Nat)) (i lev : Nat) (h : String) (d : PyData) (ts r : List Kv), vs = [.ref p, .int ((lev : Nat) : Int), .str (Str.ofString h)] ∧ lev + k ≤ 7 ∧ RdA C K H p n T i ∧ rem T i = ts ++ r ∧ GJ z GP h d ts ∧ fol S r ∧
  ∀ H' x, Fd p H H' → RdA C K H' p n T (i + ts.length) → DpL (fun a => H a = none) K H' x d → Q x H'
section
variable {P : Program} {w : World} {K : PySem.W.Frag} {mg : Str → Option Value} {base : Heap} {C aA aJ aS aU : Addr}
theorem ok_rin {f : Addr} {fd : FuncData} {j z n' : Nat} (hj : 3 ≤ j) (F : Fun K "read_inside" "read_inside" s_read_inside f fd) (M : Mg mg) (G : Pq K mg aA aJ aS aU) (c_Reader_take : ClM P w K mg base 1 C "take" (sp_take C K)) (c_Reader_expect : ClM P w K mg base 3 C "expect" (sp_expect C K)) (c_Reader_take_name : ClM P w K mg base 2 C "take_name" (sp_tname C K)) (c_read_query : Cl P w K mg base j "read_query" (sp_partL C K n' (GQ z n') FQ)) : FnOk P w K mg base CX0 (j + 1) f fd ["reader", "level"] (sp_partL C K (n' + 1) (GI (GQ z n')) FP) := by
  refine F.ok sc_read_inside (fun vs H Q E h => ?_) (fun cdv A outer s H vs Q E hr h => ?_)
  · obtain ⟨p, n, T, i, lev, d, ts, r, rfl, _⟩ := h
    rfl
  · obtain ⟨p, n, T, i, lev, d, ts, r, rfl, hl, rd, er, ⟨qd, tq, m, nm, hq, rfl, rfl⟩, st, q⟩ := h
    have l6 : lev < 6 := by
      cases n' with
      | zero => exact absurd hq (fun z => z)
      | succ n' => omega
    refine ⟨_, (pss_cons (ps_if (pt_cmpR op_eq (pv 1) (C8.pe_gc (by rfl) G.MOST_LEVEL_parsing) (nomark _)) (pss_one ps_never) pss_nil)
      (pss_cons (ps_expr (pe_mt0 c_Reader_take hr (by first | decide | omega) (pv 0)))
      (pss_cons (ps_set (i := 2) sc_read_inside.nd rfl (.inl rfl) (pe_u c_read_query hr (by first | decide | omega) (by rfl) (pa_cons (pv 0) (pa_cons (pe_op op_add (pv 1) pe_int) pa_nil))))
      (pss_cons (ps_expr (pe_mt c_Reader_expect hr (by first | decide | omega) (pv 0) (pa_cons pe_str pa_nil)))
      (pss_cons (ps_expr (pe_mt c_Reader_expect hr (by first | decide | omega) (pv 0) (pa_cons pe_str pa_nil)))
      (pss_one (ps_ret (pe_tup (pa_cons pe_str (pa_cons (pv 2) (pa_cons (pe_mt0 c_Reader_take_name hr (by first | decide | omega) (pv 0)) pa_nil))))))))))), ?_⟩
    rw [List.cons_append, List.append_assoc] at er
    refine ⟨_, rfl, rfl, _, rfl, ?_⟩
    rw [show decide (V.int ((lev : Nat) : Int) = V.int 6) = false from decide_eq_false (fun z => by have := V.int.inj z; omega)]
    refine iteF ?_
    refine ⟨_, rfl, rd.go nf_take ⟨p, n, T, _, _, _, rfl, rd, er, fun H2 f2 rd2 => ?_⟩⟩
    have er2 := (rem_step er).2
    refine ⟨_, rfl, _, rfl, _, _, rfl, rfl, p, n, T, _, lev + 1, qd, tq, _, rfl, by omega, rd2, er2, hq, List.mem_map.mpr ⟨")", by decide, rfl⟩, fun H3 x f3 rd3 dx => ?_⟩
    have er3 : rem T (i + 1 + tq.length) = sK ")" :: wK "as" :: .word m :: r := rem_app er2
    refine ⟨_, rfl, rd3.go nf_expect ⟨p, n, T, _, codes ")", _, _, congrArg (fun z => [V.ref p, z]) (str_tx ")"), rd3, er3, by rw [er3]; rfl, fun H4 f4 rd4 => ?_⟩⟩
    have er4 := (rem_step er3).2
    refine ⟨_, rfl, rd4.go nf_expect ⟨p, n, T, _, codes "as", _, _, congrArg (fun z => [V.ref p, z]) (str_tx "as"), rd4, er4, by rw [er4, wK_ah "as" (by decide +kernel)], fun H5 f5 rd5 => ?_⟩⟩
    have er5 := (rem_step er4).2
    refine ⟨_, rfl, _, rfl, rd5.go nf_tname ⟨p, n, T, _, m, r, rfl, rd5, er5, nm, fun H6 f6 rd6 => ?_⟩⟩
    refine ⟨by show 3 ≤ sizeLine; decide, fun u nu => ?_⟩
    have f26 := ((f4.trans f5).trans f6)
    have dx' := DpL.wide (L' := fun a => H a = none) (fun a xs _ hl => f2.nn ⟨_, rd2.ins.choose_spec.choose_spec.choose_spec⟩ a hl) _ _ dx
    have c : Chg (fun a => H a = none) H3 (upd H6 u (.tup [.str "inside", x, tx m])) := Chg.fd rd3.ins (f26.trans (Fd.new nu))
    refine q _ _ (((f2.trans f3).trans f26).trans (Fd.new nu)) ?_ (.tup (.inl (.inl upd_same)) (.cons (.str _) (.cons (DpL.chg c _ _ dx') (.cons (.str _) .nil))))
    rw [show i + (sK "(" :: (tq ++ [sK ")", wK "as", Kv.word m])).length = i + 1 + tq.length + 1 + 1 + 1 by rw [List.length_cons, List.length_append]; show i + (tq.length + 3 + 1) = _; omega]
    exact rd6.ext (same_upd nu)
theorem ok_rop {f : Addr} {fd : FuncData} {j z n' : Nat} (hj : 3 ≤ j) (F : Fun K "read_operand" "read_operand" s_read_operand f fd) (M : Mg mg) (c_Reader_ahead : ClM P w K mg base 2 C "ahead" (sp_ahead C K)) (c_Reader_take : ClM P w K mg base 1 C "take" (sp_take C K)) (c_Reader_take_name : ClM P w K mg base 2 C "take_name" (sp_tname C K)) (c_read_inside : Cl P w K mg base j "read_inside" (sp_partL C K (n' + 1) (GI (GQ z n')) FP)) : FnOk P w K mg base CX0 (j + 1) f fd ["reader", "level"] (sp_partL C K (n' + 1) (GP (GQ z n')) FP) := by
  refine F.ok sc_read_operand (fun vs H Q E h => ?_) (fun cdv A outer s H vs Q E hr h => ?_)
  · obtain ⟨p, n, T, i, lev, d, ts, r, rfl, _⟩ := h
    rfl
  · obtain ⟨p, n, T, i, lev, d, ts, r, rfl, hl, rd, er, hg, st, q⟩ := h
    refine ⟨_, (pss_cons (ps_if (pt_cmpR op_eq (pe_mt0 c_Reader_ahead hr (by first | decide | omega) (pv 0)) pe_str (nomark _)) (pss_one (ps_ret (pe_u c_read_inside hr (by first | decide | omega) (by rfl) (pa_cons (pv 0) (pa_cons (pv 1) pa_nil))))) pss_nil)
      (pss_cons (ps_set (i := 2) sc_read_operand.nd rfl (.inl rfl) (pe_mt0 c_Reader_take_name hr (by first | decide | omega) (pv 0)))
      (pss_cons (ps_if (pt_cmpR op_ne (pe_mt0 c_Reader_ahead hr (by first | decide | omega) (pv 0)) pe_str (nomark _)) (pss_one (ps_ret (pe_tup (pa_cons pe_str (pa_cons (pv 2) (pa_cons (pv 2) pa_nil)))))) pss_nil)
      (pss_cons (ps_expr (pe_mt0 c_Reader_take hr (by first | decide | omega) (pv 0)))
      (pss_one (ps_ret (pe_tup (pa_cons pe_str (pa_cons (pv 2) (pa_cons (pe_mt0 c_Reader_take_name hr (by first | decide | omega) (pv 0)) pa_nil)))))))))), ?_⟩
    rcases hg with ⟨l, m, nl, nm, rfl, ho⟩ | hg
    · obtain ⟨u, er'⟩ : ∃ u, rem T i = .word l :: u := by
        rcases ho with ⟨_, rfl⟩ | rfl
        · exact ⟨_, er⟩
        · exact ⟨_, er⟩
      refine ⟨_, rfl, rd.go nf_ahead ⟨p, n, T, i, rfl, rd, fun H1 s1 => ?_⟩⟩
      rw [er', show ahOf (.word l :: u) = [] by show (if isRes l = true then l else []) = []; rw [nm_not nl, if_neg Bool.false_ne_true]]
      refine ⟨rfl, _, rfl, ?_⟩
      rw [ah_not "(" (by decide)]
      refine iteF ?_
      have rd1 := rd.ext s1
      refine ⟨_, rfl, rd1.go nf_tname ⟨p, n, T, _, l, _, rfl, rd1, er', nl, fun H2 f2 rd2 => ?_⟩⟩
      refine ⟨_, rfl, rd2.go nf_ahead ⟨p, n, T, _, rfl, rd2, fun H3 s3 => ⟨rfl, _, rfl, ?_⟩⟩⟩
      have rd3 := rd2.ext s3
      have f03 := ((Fd.of s1).trans f2).trans (Fd.of s3)
      rcases ho with ⟨rfl, rfl⟩ | rfl
      · have er2 := (rem_step er).2
        rw [show rem T (i + 1) = r from er2, ah_not "as" (st.ne "as" (by decide +kernel))]
        refine iteT ?_
        refine ⟨_, rfl, _, rfl, by show 3 ≤ sizeLine; decide, fun u nu => ?_⟩
        exact q _ _ (f03.trans (Fd.new nu)) (rd3.ext (same_upd nu)) (.tup (.inl (.inl upd_same)) (.cons (.str _) (.cons (.str _) (.cons (.str _) .nil))))
      · have er2 : rem T (i + 1) = wK "as" :: .word m :: r := (rem_step er).2
        rw [er2, ah_is "as" (wK_ah "as" (by decide +kernel) _)]
        refine iteF ?_
        refine ⟨_, rfl, rd3.go nf_take ⟨p, n, T, _, _, _, rfl, rd3, er2, fun H4 f4 rd4 => ?_⟩⟩
        have er4 := (rem_step er2).2
        refine ⟨_, rfl, _, rfl, rd4.go nf_tname ⟨p, n, T, _, m, r, rfl, rd4, er4, nm, fun H5 f5 rd5 => ?_⟩⟩
        refine ⟨by show 3 ≤ sizeLine; decide, fun u nu => ?_⟩
        exact q _ _ (((f03.trans f4).trans f5).trans (Fd.new nu)) (rd5.ext (same_upd nu)) (.tup (.inl (.inl upd_same)) (.cons (.str _) (.cons (.str _) (.cons (.str _) .nil))))
    · have hg' : GI (GQ z n') d ts := hg
      obtain ⟨u, er'⟩ : ∃ u, rem T i = sK "(" :: u := by
        obtain ⟨qd, tq, m, _, _, _, rfl⟩ := hg
        exact ⟨_, er⟩
      refine ⟨_, rfl, rd.go nf_ahead ⟨p, n, T, i, rfl, rd, fun H1 s1 => ?_⟩⟩
      rw [er', show ahOf (sK "(" :: u) = codes "(" from rfl]
      refine ⟨rfl, _, rfl, ?_⟩
      rw [ah_is "(" rfl]
      refine iteT ?_
      refine ⟨_, rfl, _, rfl, p, n, T, i, lev, d, ts, r, rfl, hl, rd.ext s1, er, hg', st, fun H2 x f2 rd2 dx => ?_⟩
      exact q _ _ ((Fd.of s1).trans f2) rd2 (DpL.wide (fun a xs _ hl => s1.free hl) _ _ dx)
theorem ok_rjoin {f : Addr} {fd : FuncData} {j z n' : Nat} (hj : 3 ≤ j) {PQ : PyData → List Kv → Prop} (F : Fun K "read_join" "read_join" s_read_join f fd) (M : Mg mg) (c_Reader_expect : ClM P w K mg base 3 C "expect" (sp_expect C K)) (c_read_expression : Cl P w K mg base j "read_expression" (sp_rexp C K z)) (c_read_operand : Cl P w K mg base j "read_operand" (sp_partL C K (n' + 1) PQ FP)) : FnOk P w K mg base CX0 (j + 1) f fd ["reader", "level", "how"] (sp_join C K (n' + 1) z PQ FS) := by
  refine F.ok sc_read_join (fun vs H Q E h => ?_) (fun cdv A outer s H vs Q E hr h => ?_)
  · obtain ⟨p, n, T, i, lev, h, d, ts, r, rfl, _⟩ := h
    rfl
  · obtain ⟨p, n, T, i, lev, how, d, ts, r, rfl, hl, rd, er, ⟨o, to, e, te, ho, ⟨ok, h30, m, hm, h12, g⟩, rfl, rfl⟩, st, q⟩ := h
    refine ⟨_, (pss_cons (ps_set (i := 3) sc_read_join.nd rfl (.inl rfl) (pe_u c_read_operand hr (by first | decide | omega) (by rfl) (pa_cons (pv 0) (pa_cons (pv 1) pa_nil))))
      (pss_cons (ps_expr (pe_mt c_Reader_expect hr (by first | decide | omega) (pv 0) (pa_cons pe_str pa_nil)))
      (pss_one (ps_ret (pe_tup (pa_cons pe_str (pa_cons (pv 2) (pa_cons (pv 3) (pa_cons (pe_u c_read_expression hr (by first | decide | omega) (by rfl) (pa_cons (pv 0) pa_nil)) pa_nil))))))))), ?_⟩
    rw [List.append_assoc] at er
    refine ⟨_, rfl, _, rfl, p, n, T, i, lev, o, to, _, rfl, hl, rd, er, ho, fol_w "on" (by decide +kernel) (by decide) _, fun H1 x f1 rd1 dx => ?_⟩
    have er1 : rem T (i + to.length) = wK "on" :: (te ++ r) := rem_app er
    refine ⟨_, rfl, rd1.go nf_expect ⟨p, n, T, _, codes "on", _, _, congrArg (fun z => [V.ref p, z]) (str_tx "on"), rd1, er1, by rw [er1, wK_ah "on" (by decide +kernel)], fun H2 f2 rd2 => ?_⟩⟩
    have er2 := (rem_step er1).2
    refine ⟨_, rfl, _, rfl, _, rfl, p, n, T, _, m, e, te, r, rfl, rd2, er2, hm, g, st.stp (by decide +kernel), h12, h30, fun H3 y f3 rd3 dy => ?_⟩
    refine ⟨by show 4 ≤ sizeLine; decide, fun u nu => ?_⟩
    have c : Chg (fun a => H a = none) H1 (upd H3 u (.tup [.str "join", .str (Str.ofString how), x, y])) := Chg.fd rd1.ins ((f2.trans f3).trans (Fd.new nu))
    refine q _ _ (((f1.trans f2).trans f3).trans (Fd.new nu)) ?_ (.tup (.inl (.inl upd_same)) (.cons (.str _) (.cons (.str _) (.cons (DpL.chg c _ _ dx) (.cons (Dp.toL _ _ (ex_only e) (Dp.ext (same_upd nu) _ _ dy)) .nil)))))
    rw [show i + (to ++ wK "on" :: te).length = i + to.length + 1 + te.length by rw [List.length_append, List.length_cons]; omega]
    exact rd3.ext (same_upd nu)
theorem ok_rstage {f : Addr} {fd : FuncData} {j z n' : Nat} (hj : 4 ≤ j) {PQ : PyData → List Kv → Prop} (F : Fun K "read_stage" "read_stage" s_read_stage f fd) (M : Mg mg) (G : Pq K mg aA aJ aS aU) (c_Reader_take : ClM P w K mg base 1 C "take" (sp_take C K)) (c_Reader_expect : ClM P w K mg base 3 C "expect" (sp_expect C K)) (c_read_expression : Cl P w K mg base j "read_expression" (sp_rexp C K z)) (c_read_list : Cl P w K mg base (j + 1) "read_list" (sp_list P w K mg base C j (GO z) FO)) (c_read_output : Cl P w K mg base j "read_output" (sp_part C K (GO z) ("," :: FO))) (c_read_group : Cl P w K mg base (j + 1) "read_group" (sp_part C K (GGr z) FS)) (c_read_join : Cl P w K mg base (j + 1) "read_join" (sp_join C K (n' + 1) z PQ FS)) : FnOk P w K mg base CX0 (j + 2) f fd ["reader", "level"] (sp_partL C K (n' + 1) (GS z PQ) FS) := by
  refine F.ok sc_read_stage (fun vs H Q E h => ?_) (fun cdv A outer s H vs Q E hr h => ?_)
  · obtain ⟨p, n, T, i, lev, d, ts, r, rfl, _⟩ := h
    rfl
  · obtain ⟨p, n, T, i, lev, d, ts, r, rfl, hl, rd, er, hg, st, q⟩ := h
    obtain ⟨fo, hm_read_output, hdo⟩ := c_read_output.hd
    refine ⟨_, (pss_cons (ps_set (i := 2) sc_read_stage.nd rfl (.inl rfl) (pe_mt0 c_Reader_take hr (by first | decide | omega) (pv 0)))
      (pss_cons (ps_if (pt_cmpR op_eq (pv 2) pe_str (nomark _)) (pss_one (ps_ret (pe_tup (pa_cons pe_str (pa_cons (pe_u c_read_expression hr (by first | decide | omega) (by rfl) (pa_cons (pv 0) pa_nil)) pa_nil))))) pss_nil)
      (pss_cons (ps_if (pt_cmpR op_eq (pv 2) pe_str (nomark _)) (pss_one (ps_ret (pe_tup (pa_cons pe_str (pa_cons (pe_u c_read_list hr (by first | decide | omega) (by rfl) (pa_cons (pv 0) (pa_cons (C8.pe_gc (v := .ref _) (by rfl) ⟨_, hm_read_output, rfl⟩) pa_nil))) pa_nil))))) pss_nil)
      (pss_cons (ps_if (pt_cmpR op_eq (pv 2) pe_str (nomark _)) (pss_one (ps_ret (pe_u c_read_group hr (by first | decide | omega) (by rfl) (pa_cons (pv 0) pa_nil)))) pss_nil)
      (pss_cons (ps_if (pt_cmpR (inK K) (pv 2) (C8.pe_gc (by rfl) G.JOIN_WORDS) (by rfl)) (pss_cons (ps_expr (pe_mt c_Reader_expect hr (by first | decide | omega) (pv 0) (pa_cons pe_str pa_nil)))
      (pss_one (ps_ret (pe_u c_read_join hr (by first | decide | omega) (by rfl) (pa_cons (pv 0) (pa_cons (pv 1) (pa_cons (pv 2) pa_nil))))))) pss_nil)
      (pss_one (ps_ret (pe_u c_read_join hr (by first | decide | omega) (by rfl) (pa_cons (pv 0) (pa_cons (pv 1) (pa_cons pe_str pa_nil))))))))))), ?_⟩
    have wx : ∀ (s : String), kvV (wK s) = tx (codes s) := fun s => rfl
    have fin : ∀ (H2 H' : Hp) (x : V) (i2 : Nat), Fd p H H2 → (∃ C dx fs, H2 p = some (.ins C dx fs)) → Fd p H2 H' → RdA C K H' p n T i2 → i2 = i + ts.length → DpL (fun a => H2 a = none) K H' x d → Q x H' := fun H2 H' x i2 a hp b c e dd => by
      subst e
      exact q _ _ (a.trans b) c (DpL.wide (fun a' xs _ hl => a.nn (let ⟨_, _, _, z⟩ := hp; ⟨_, z⟩) a' hl) _ _ dd)
    rcases hg with ⟨h, o, to, e, te, hh, ho, he, ed, ets⟩ | ⟨e, te, ⟨ok, h30, m, hm, h12, g⟩, ed, ets⟩ | ⟨ds, tss, ha, hne, hfew, ed, ets⟩ | ⟨ds, tss, us, uss, hds, hus, hne, k1, k2, ed, ets⟩
    · have jo : GJ z PQ h d (to ++ wK "on" :: te) := ⟨o, to, e, te, ho, he, ed, rfl⟩
      by_cases hi : h = "inner"
      · have er' : rem T i = wK "join" :: (to ++ wK "on" :: te ++ r) := by rw [er, ets]; unfold joiK; rw [if_pos hi]; rfl
        refine ⟨_, rfl, rd.go nf_take ⟨p, n, T, _, _, _, rfl, rd, er', fun H2 f2 rd2 => ?_⟩⟩
        have er2 := (rem_step er').2
        rw [wx]
        refine ⟨_, rfl, rfl, _, rfl, ?_⟩
        rw [ah_not "where" (by decide +kernel)]
        refine iteF ⟨_, rfl, rfl, _, rfl, ?_⟩
        rw [ah_not "select" (by decide +kernel)]
        refine iteF ⟨_, rfl, rfl, _, rfl, ?_⟩
        rw [ah_not "group" (by decide +kernel)]
        refine iteF ⟨_, rfl, aJ, _, rfl, .inr (G.joi _), rfl, str_flat _, _, rfl, ?_⟩
        rw [if_neg Bool.false_ne_true, inV_c, decide_eq_false (by decide +kernel)]
        refine iteF ?_
        subst hi
        refine ⟨_, rfl, _, rfl, p, n, T, _, lev, "inner", d, _, r, rfl, hl, rd2, er2, jo, st, fun H3 x f3 rd3 dx => ?_⟩
        exact fin H2 H3 x _ f2 rd2.ins f3 rd3 (by rw [ets]; unfold joiK; rw [if_pos rfl]; simp only [List.length_append, List.length_cons, List.length_nil]; omega) dx
      · obtain ⟨r1, r2, r3, r4, r5, _⟩ := joi_f h hh hi
        have er' : rem T i = wK h :: wK "join" :: (to ++ wK "on" :: te ++ r) := by rw [er, ets]; unfold joiK; rw [if_neg hi]; rfl
        refine ⟨_, rfl, rd.go nf_take ⟨p, n, T, _, _, _, rfl, rd, er', fun H2 f2 rd2 => ?_⟩⟩
        have er2 := (rem_step er').2
        rw [wx]
        refine ⟨_, rfl, rfl, _, rfl, ?_⟩
        rw [ah_not "where" r3]
        refine iteF ⟨_, rfl, rfl, _, rfl, ?_⟩
        rw [ah_not "select" r4]
        refine iteF ⟨_, rfl, rfl, _, rfl, ?_⟩
        rw [ah_not "group" r5]
        refine iteF ⟨_, rfl, aJ, _, rfl, .inr (G.joi _), rfl, str_flat _, _, rfl, ?_⟩
        rw [if_neg Bool.false_ne_true, inV_c, decide_eq_true r2]
        refine iteT ?_
        refine ⟨_, rfl, rd2.go nf_expect ⟨p, n, T, _, codes "join", _, _, congrArg (fun z => [V.ref p, z]) (str_tx "join"), rd2, er2, by rw [er2, wK_ah "join" (by decide +kernel)], fun H3 f3 rd3 => ?_⟩⟩
        have er3 := (rem_step er2).2
        refine ⟨_, rfl, _, rfl, _, rfl, p, n, T, _, lev, h, d, _, r, by rw [str_tx h]; rfl, hl, rd3, er3, jo, st, fun H4 x f4 rd4 dx => ?_⟩
        exact fin H3 H4 x _ (f2.trans f3) rd3.ins f4 rd4 (by rw [ets]; unfold joiK; rw [if_neg hi]; simp only [List.length_append, List.length_cons, List.length_nil]; omega) dx
    · have er' : rem T i = wK "where" :: (te ++ r) := by rw [er, ets]; rfl
      refine ⟨_, rfl, rd.go nf_take ⟨p, n, T, _, _, _, rfl, rd, er', fun H2 f2 rd2 => ?_⟩⟩
      have er2 := (rem_step er').2
      rw [wx]
      refine ⟨_, rfl, rfl, _, rfl, ?_⟩
      rw [ah_is "where" rfl]
      refine iteT ?_
      refine ⟨_, rfl, p, n, T, _, m, e, te, r, rfl, rd2, er2, hm, g, st.stp (by decide +kernel), h12, h30, fun H3 y f3 rd3 dy => ?_⟩
      refine ⟨by show 2 ≤ sizeLine; decide, fun u nu => ?_⟩
      refine fin H2 _ _ _ f2 rd2.ins (f3.trans (Fd.new nu)) (rd3.ext (same_upd nu)) (by rw [ets, List.length_cons]; omega) ?_
      rw [ed]
      exact .tup (.inl (.inl upd_same)) (.cons (.str _) (.cons (Dp.toL _ _ (ex_only e) (Dp.ext (same_upd nu) _ _ dy)) .nil))
    · have er' : rem T i = wK "select" :: (cj tss ++ r) := by rw [er, ets]; rfl
      refine ⟨_, rfl, rd.go nf_take ⟨p, n, T, _, _, _, rfl, rd, er', fun H2 f2 rd2 => ?_⟩⟩
      have er2 := (rem_step er').2
      rw [wx]
      refine ⟨_, rfl, rfl, _, rfl, ?_⟩
      rw [ah_not "where" (by decide +kernel)]
      refine iteF ⟨_, rfl, rfl, _, rfl, ?_⟩
      rw [ah_is "select" rfl]
      refine iteT ?_
      refine ⟨_, rfl, p, n, T, _, fo, ds, tss, r, rfl, hdo, rd2, er2, ha, hne, hfew, st.mono (by decide), fun H3 y f3 rd3 dy => ?_⟩
      refine ⟨by show 2 ≤ sizeLine; decide, fun u nu => ?_⟩
      refine fin H2 _ _ _ f2 rd2.ins (f3.trans (Fd.new nu)) (rd3.ext (same_upd nu)) (by rw [ets, List.length_cons]; omega) ?_
      rw [ed]
      exact .tup (.inl (.inl upd_same)) (.cons (.str _) (.cons (DpL.chg (Chg.of (same_upd nu)) _ _ dy) .nil))
    · have er' : rem T i = wK "group" :: ((cj tss ++ if us = [] then [] else wK "with" :: cj uss) ++ r) := by rw [er, ets]; rfl
      refine ⟨_, rfl, rd.go nf_take ⟨p, n, T, _, _, _, rfl, rd, er', fun H2 f2 rd2 => ?_⟩⟩
      have er2 := (rem_step er').2
      rw [wx]
      refine ⟨_, rfl, rfl, _, rfl, ?_⟩
      rw [ah_not "where" (by decide +kernel)]
      refine iteF ⟨_, rfl, rfl, _, rfl, ?_⟩
      rw [ah_not "select" (by decide +kernel)]
      refine iteF ⟨_, rfl, rfl, _, rfl, ?_⟩
      rw [ah_is "group" rfl]
      refine iteT ?_
      refine ⟨_, rfl, p, n, T, _, d, _, r, rfl, rd2, er2, ⟨ds, tss, us, uss, hds, hus, hne, k1, k2, ed, rfl⟩, st, fun H3 y f3 rd3 dy => ?_⟩
      exact fin H2 _ _ _ f2 rd2.ins f3 rd3 (by rw [ets, List.length_cons]; omega) dy
end

theorem A2.drop {R : PyData → List Kv → Prop} {ds : List PyData} {ts : List (List Kv)} (h : A2 R ds ts) : ∀ c, A2 R (ds.drop c) (ts.drop c) := by
  induction h with
  | nil => intro c; rw [List.drop_nil, List.drop_nil]; exact .nil
  | cons h r ih =>
    intro c
    cases c with
    | zero => exact .cons h r
    | succ c => exact ih c
theorem GC.body {z : Nat} {GP : PyData → List Kv → Prop} {b : Bool} {d : PyData} {ts : List Kv} (h : GC z GP b d ts) : ∃ dc tc, GCh z GP dc tc ∧ ((b = true ∧ d = .tuple [.none, dc] ∧ ts = tc) ∨ (b = false ∧ ∃ s ∈ SETS, d = .tuple [.str (Str.ofString s), dc] ∧ ts = wK s :: tc)) := by
  obtain ⟨o, to, ss, sss, ho, ha, k, h⟩ := h
  refine ⟨_, _, ⟨o, to, ss, sss, ho, ha, k, rfl, rfl⟩, ?_⟩
  rcases h with ⟨a, b, c⟩ | ⟨a, s, hs, b, c⟩
  · exact .inl ⟨a, b, c⟩
  · exact .inr ⟨a, s, hs, b, c⟩
theorem set_f (s : String) (h : s ∈ SETS) : isRes (codes s) = true := by
  simp only [SETS, List.mem_cons, List.not_mem_nil, or_false] at h
  rcases h with rfl | rfl | rfl <;> decide +kernel
theorem cf_fol {z : Nat} {GP : PyData → List Kv → Prop} {r : List Kv} (h : fol FQ r) {cs : List PyData} {tss : List (List Kv)} (ha : A2 (GC z GP false) cs tss) : fol FC (tss.flatten ++ r) := by
  cases ha with
  | nil => exact h.mono (by decide)
  | @cons d t ds ts h1 _ =>
    obtain ⟨dc, tc, _, ⟨e, _⟩ | ⟨_, s, hs, _, rfl⟩⟩ := h1.body
    · cases e
    · rw [List.flatten_cons, List.append_assoc]
      exact fol_w s (set_f s hs) (List.mem_append_left _ hs) _
section
variable {P : Program} {w : World} {K : PySem.W.Frag} {mg : Str → Option Value} {base : Heap} {C aA aJ aS aU : Addr}
theorem ok_rchain {f : Addr} {fd : FuncData} {j z n' : Nat} (hj : 3 ≤ j) {PQ : PyData → List Kv → Prop} (F : Fun K "read_chain" "read_chain" s_read_chain f fd) (M : Mg mg) (G : Pq K mg aA aJ aS aU) (c_Reader_ahead : ClM P w K mg base 2 C "ahead" (sp_ahead C K)) (c_Reader_expect : ClM P w K mg base 3 C "expect" (sp_expect C K)) (c_read_operand : Cl P w K mg base j "read_operand" (sp_partL C K (n' + 1) PQ FP)) (c_read_stage : Cl P w K mg base j "read_stage" (sp_partL C K (n' + 1) (GS z PQ) FS)) : FnOk P w K mg base CX0 (j + 1) f fd ["reader", "level"] (sp_partL C K (n' + 1) (GCh z PQ) FC) := by
  refine F.ok sc_read_chain (fun vs H Q E h => ?_) (fun cdv A outer s H vs Q E hr h => ?_)
  · obtain ⟨p, n, T, i, lev, d, ts, r, rfl, _⟩ := h
    rfl
  · obtain ⟨p, n, T, i, lev, d, ts, r, rfl, hl, rd, er, ⟨o, to, ss, sss, ho, ha, hfew, rfl, rfl⟩, st, q⟩ := h
    have hl2 := ha.len
    have lt1 : (1002 : Nat) < sizeLine := by decide
    rw [List.cons_append, List.append_assoc] at er
    have erd : ∀ c, rem T (i + 1 + to.length + (sss.take c).flatten.length) = (sss.drop c).flatten ++ r := fun c => by
      refine rem_app ?_
      rw [rem_app (rem_step er).2, ← List.append_assoc]
      congr 1
      rw [← List.flatten_append, List.take_append_drop]
    refine ⟨_, (pss_cons (ps_expr (pe_mt c_Reader_expect hr (by first | decide | omega) (pv 0) (pa_cons pe_str pa_nil)))
      (pss_cons (ps_set (i := 2) sc_read_chain.nd rfl (.inl rfl) (pe_u c_read_operand hr (by first | decide | omega) (by rfl) (pa_cons (pv 0) (pa_cons (pv 1) pa_nil))))
      (pss_cons (ps_set (i := 3) sc_read_chain.nd rfl (.inl rfl) (pe_lst pa_nil))
      (pss_cons (ps_while PassesOwn.never (pt_cmpR (inK K) (pe_mt0 c_Reader_ahead hr (by first | decide | omega) (pv 0)) (C8.pe_gc (by rfl) G.STAGE_WORDS) (by rfl)) (pss_one (ps_expr (pe_bmK K PySem.F.plainAttrs_list PySem.F.slot_list_append PySem.F.type_list_append mt_append (pv 3) (pa_cons (pe_u c_read_stage hr (by first | decide | omega) (by rfl) (pa_cons (pv 0) (pa_cons (pv 1) pa_nil))) pa_nil)))))
      (pss_one (ps_ret (pe_tup (pa_cons (pv 2) (pa_cons (pv 3) pa_nil))))))))), ?_⟩
    refine ⟨_, rfl, rd.go nf_expect ⟨p, n, T, _, codes "from", _, _, congrArg (fun z => [V.ref p, z]) (str_tx "from"), rd, er, by rw [er, wK_ah "from" (by decide +kernel)], fun H1 f1 rd1 => ?_⟩⟩
    have er1 := (rem_step er).2
    refine ⟨_, rfl, _, rfl, p, n, T, _, lev, o, to, _, rfl, hl, rd1, er1, ho, (sf_fol st ha).mono (by decide), fun H2 x f2 rd2 dx => ?_⟩
    refine ⟨Nat.zero_le _, fun D nD => ?_⟩
    obtain ⟨nDa, nDp⟩ := rd2.new nD
    have f02 := f1.trans f2
    have nD0 := f02.back nD nDp
    have dx1 := DpL.wide (L' := fun a => H a = none ∧ a ≠ D) (fun a xs e hl => ⟨f1.nn ⟨_, rd1.ins.choose_spec.choose_spec.choose_spec⟩ a hl, ne_of_none e nD⟩) _ _ dx
    have s2 := same_upd nD (o := .lst [])
    refine ⟨fun k σ Hi => ∃ (c : Nat) (xs : List V), σ = [some (.ref p), some (.int ((lev : Nat) : Int)), some x, some (.ref D)] ∧ k = ss.length - c ∧ c ≤ ss.length ∧ Fd p H Hi ∧ RdA C K Hi p n T (i + 1 + to.length + (sss.take c).flatten.length) ∧ Hi D = some (.lst xs) ∧ DpL (fun a => H a = none ∧ a ≠ D) K Hi x o ∧ DpLs (fun a => H a = none ∧ a ≠ D) K Hi xs (ss.take c),
      ⟨_, 0, [], rfl, rfl, Nat.zero_le _, f02.trans (Fd.of s2), rd2.ext s2, upd_same, DpL.chg (Chg.of s2) _ _ dx1, .nil⟩, fun k σ Hi hW => ?_⟩
    obtain ⟨c, xs, rfl, rfl, hc, fi, rdi, eD, dxi, da⟩ := hW
    have xl : xs.length = c := by
      rw [da.len, List.length_take]
      omega
    refine ⟨_, rfl, rdi.go nf_ahead ⟨p, n, T, _, rfl, rdi, fun H3 s3 => ⟨aS, _, rfl, .inr (G.stw _), rfl, str_flat _, _, rfl, ?_⟩⟩⟩
    rw [if_neg Bool.false_ne_true, inV_c, erd c]
    have rd3 := rdi.ext s3
    have er3 := erd c
    by_cases hlt : c < ss.length
    · have htc : c < sss.length := by omega
      have edr : (sss.drop c).flatten ++ r = sss[c] ++ ((sss.drop (c + 1)).flatten ++ r) := by
        rw [List.drop_eq_getElem_cons htc, List.flatten_cons, List.append_assoc]
      have hg := ha.get hlt htc
      have hin : ahOf ((sss.drop c).flatten ++ r) ∈ STW.map codes := by
        obtain ⟨t', u, eu, hh⟩ := hg.hd
        rw [edr, eu]
        exact hh _
      rw [decide_eq_true hin]
      rw [edr] at er3
      refine iteT ?_
      have ett : sss.take (c + 1) = sss.take c ++ [sss[c]] := by rw [List.take_add_one, List.getElem?_eq_getElem htc]; rfl
      have etd : ss.take (c + 1) = ss.take c ++ [ss[c]] := by rw [List.take_add_one, List.getElem?_eq_getElem hlt]; rfl
      refine ⟨fun σ H' => ∃ (xs : List V), σ = [some (.ref p), some (.int ((lev : Nat) : Int)), some x, some (.ref D)] ∧ Fd p H H' ∧ RdA C K H' p n T (i + 1 + to.length + (sss.take (c + 1)).flatten.length) ∧ H' D = some (.lst xs) ∧ DpL (fun a => H a = none ∧ a ≠ D) K H' x o ∧ DpLs (fun a => H a = none ∧ a ≠ D) K H' xs (ss.take (c + 1)), fun σ H' hN => ?_, ?_⟩
      · obtain ⟨xs, rfl, h1, h2, h3, h4, h5⟩ := hN
        exact ⟨ss.length - (c + 1), by omega, c + 1, xs, rfl, rfl, by omega, h1, h2, h3, h4, h5⟩
      · have eD3 := s3 _ _ eD
        refine ⟨_, rfl, .inl ⟨rfl, _, .of eD3⟩, _, rfl, _, rfl, p, n, T, _, lev, ss[c], sss[c], _, rfl, hl, rd3, er3, hg, sf_fol st (ha.drop (c + 1)), fun H4 y f4 rd4 dy => ?_⟩
        have eD4 := f4 _ _ nDp eD3
        refine ⟨D, xs, _, rfl, rfl, eD4, by rw [xl]; omega, ?_⟩
        have f03 := fi.trans (Fd.of s3)
        have dy' := DpL.wide (L' := fun a => H a = none ∧ a ≠ D) (fun a xs e hl => ⟨f03.nn ⟨_, rd3.ins.choose_spec.choose_spec.choose_spec⟩ a hl, fun z => by rw [z, eD3] at hl; cases hl⟩) _ _ dy
        have c34 : Chg (fun a => H a = none ∧ a ≠ D) H3 H4 := Chg.fd rd3.ins f4
        have cD : Chg (fun a => H a = none ∧ a ≠ D) H4 (upd H4 D (.lst (xs ++ [y]))) := Chg.at eD4 fun z => z.2 rfl
        refine ⟨xs ++ [y], rfl, (f03.trans f4).lst nD0, ?_, upd_same, DpL.chg cD _ _ (DpL.chg c34 _ _ (DpL.chg (Chg.of s3) _ _ dxi)), ?_⟩
        · rw [ett, show i + 1 + to.length + (sss.take c ++ [sss[c]]).flatten.length = i + 1 + to.length + (sss.take c).flatten.length + sss[c].length by
            rw [List.flatten_append, List.length_append]
            show _ + (_ + (sss[c] ++ []).length) = _
            rw [List.append_nil]
            omega]
          exact rd4.lst eD4 nDa
        · rw [etd]
          exact DpLs.snoc (DpLs.chg cD _ _ (DpLs.chg c34 _ _ (DpLs.chg (Chg.of s3) _ _ da))) (DpL.chg cD _ _ dy')
    · obtain rfl : c = ss.length := by omega
      rw [show sss.drop ss.length = [] from List.drop_eq_nil_of_le (by omega), show ([] : List (List Kv)).flatten ++ r = r from rfl, decide_eq_false (fun z => by
        obtain ⟨x, hx, e⟩ := List.mem_map.mp z
        exact st.ne x (fun y hy => (by decide +kernel : ∀ x ∈ STW, ∀ y ∈ FC, codes y ≠ codes x) x hx y hy) e.symm)]
      refine iteF ?_
      rw [show sss.take ss.length = sss from List.take_of_length_le (by omega)] at rd3
      rw [List.take_length] at da
      refine ⟨_, rfl, _, rfl, by show 2 ≤ sizeLine; decide, fun u nu => ?_⟩
      have s4 := same_upd nu (o := .tup [x, .ref D])
      have s24 := s3.trans s4
      have wd : ∀ (a : Addr) (xs : List V), (upd H3 u (.tup [x, .ref D])) a = some (.lst xs) → (H a = none ∧ a ≠ D) → H a = none := fun a xs _ h => h.1
      refine q _ _ (fi.trans (Fd.of s24)) ?_ (.tup (.inl (.inl upd_same)) (.cons (DpL.wide wd _ _ (DpL.chg (Chg.of s24) _ _ dxi)) (.cons (.lst nD0 (s24 _ _ eD) (DpLs.wide wd _ _ (DpLs.chg (Chg.of s24) _ _ da))) .nil)))
      rw [show i + (wK "from" :: (to ++ sss.flatten)).length = i + 1 + to.length + sss.flatten.length by rw [List.length_cons, List.length_append]; omega]
      exact rd3.ext s4
theorem ok_rquery {f : Addr} {fd : FuncData} {j z n' : Nat} (hj : 3 ≤ j) (F : Fun K "read_query" "read_query" s_read_query f fd) (M : Mg mg) (G : Pq K mg aA aJ aS aU) (c_Reader_ahead : ClM P w K mg base 2 C "ahead" (sp_ahead C K)) (c_Reader_take : ClM P w K mg base 1 C "take" (sp_take C K)) (c_read_chain : Cl P w K mg base j "read_chain" (sp_partL C K (n' + 1) (GCh z (GP (GQ z n'))) FC)) : FnOk P w K mg base CX0 (j + 1) f fd ["reader", "level"] (sp_partL C K (n' + 1) (GQ z (n' + 1)) FQ) := by
  refine F.ok sc_read_query (fun vs H Q E h => ?_) (fun cdv A outer s H vs Q E hr h => ?_)
  · obtain ⟨p, n, T, i, lev, d, ts, r, rfl, _⟩ := h
    rfl
  · obtain ⟨p, n, T, i, lev, d, ts, r, rfl, hl, rd, er, ⟨c1, cs, t1, tss, hc1, ha, hfew, rfl, rfl⟩, st, q⟩ := h
    obtain ⟨dc, tc, hch, ⟨_, rfl, rfl⟩ | ⟨z', _⟩⟩ := hc1.body
    case inr => cases z'
    have hl2 := ha.len
    have lt1 : (1002 : Nat) < sizeLine := by decide
    rw [List.append_assoc] at er
    have erd : ∀ c, rem T (i + t1.length + (tss.take c).flatten.length) = (tss.drop c).flatten ++ r := fun c => by
      refine rem_app ?_
      rw [rem_app er, ← List.append_assoc]
      congr 1
      rw [← List.flatten_append, List.take_append_drop]
    refine ⟨_, (pss_cons (ps_set (i := 2) sc_read_query.nd rfl (.inl rfl) (pe_lst (pa_cons (pe_tup (pa_cons pe_non (pa_cons (pe_u c_read_chain hr (by first | decide | omega) (by rfl) (pa_cons (pv 0) (pa_cons (pv 1) pa_nil))) pa_nil))) pa_nil)))
      (pss_cons (ps_while PassesOwn.never (pt_cmpR (inK K) (pe_mt0 c_Reader_ahead hr (by first | decide | omega) (pv 0)) (C8.pe_gc (by rfl) G.UNION_WORDS) (by rfl)) (pss_cons (ps_set (i := 3) sc_read_query.nd rfl (.inl rfl) (pe_mt0 c_Reader_take hr (by first | decide | omega) (pv 0)))
      (pss_one (ps_expr (pe_bmK K PySem.F.plainAttrs_list PySem.F.slot_list_append PySem.F.type_list_append mt_append (pv 2) (pa_cons (pe_tup (pa_cons (pv 3) (pa_cons (pe_u c_read_chain hr (by first | decide | omega) (by rfl) (pa_cons (pv 0) (pa_cons (pv 1) pa_nil))) pa_nil))) pa_nil))))))
      (pss_one (ps_ret (pv 2))))), ?_⟩
    refine ⟨_, rfl, _, rfl, p, n, T, _, lev, dc, t1, _, rfl, hl, rd, er, hch, cf_fol st ha, fun H1 x f1 rd1 dx => ⟨by show 2 ≤ sizeLine; decide, fun u nu => ?_⟩⟩
    have s1 := same_upd nu (o := .tup [.non, x])
    have eu : (upd H1 u (.tup [.non, x])) u = some (.tup [.non, x]) := upd_same
    have rd1' := rd1.ext s1
    generalize upd H1 u (.tup [.non, x]) = H2 at s1 eu rd1'
    refine ⟨by show 1 ≤ sizeLine; decide, fun D nD => ?_⟩
    obtain ⟨nDa, nDp⟩ := rd1'.new nD
    have f02 := f1.trans (Fd.of s1)
    have nD0 := f02.back nD nDp
    have du : DpL (fun a => H a = none ∧ a ≠ D) K H2 (.ref u) (.tuple [.none, dc]) := .tup (.inl (.inl eu)) (.cons .non (.cons (DpL.wide (fun a xs e hl => ⟨hl, ne_of_none e nD⟩) _ _ (DpL.chg (Chg.of s1) _ _ dx)) .nil))
    have s2 := same_upd nD (o := .lst [.ref u])
    refine ⟨fun k σ Hi => ∃ (c : Nat) (xs : List V) (hv : Option V), σ = [some (.ref p), some (.int ((lev : Nat) : Int)), some (.ref D), hv] ∧ k = cs.length - c ∧ c ≤ cs.length ∧ Fd p H Hi ∧ RdA C K Hi p n T (i + t1.length + (tss.take c).flatten.length) ∧ Hi D = some (.lst xs) ∧ DpLs (fun a => H a = none ∧ a ≠ D) K Hi xs (.tuple [.none, dc] :: cs.take c),
      ⟨_, 0, [.ref u], _, rfl, rfl, Nat.zero_le _, f02.trans (Fd.of s2), rd1'.ext s2, upd_same, .cons (DpL.chg (Chg.of s2) _ _ du) .nil⟩, fun k σ Hi hW => ?_⟩
    obtain ⟨c, xs, hv, rfl, rfl, hc, fi, rdi, eD, da⟩ := hW
    have xl : xs.length = c + 1 := by
      rw [da.len, List.length_cons, List.length_take]
      omega
    refine ⟨_, rfl, rdi.go nf_ahead ⟨p, n, T, _, rfl, rdi, fun H3 s3 => ⟨aU, _, rfl, .inr (G.sets _), rfl, str_flat _, _, rfl, ?_⟩⟩⟩
    rw [if_neg Bool.false_ne_true, inV_c, erd c]
    have rd3 := rdi.ext s3
    have er3 := erd c
    by_cases hlt : c < cs.length
    · have htc : c < tss.length := by omega
      have edr : (tss.drop c).flatten ++ r = tss[c] ++ ((tss.drop (c + 1)).flatten ++ r) := by
        rw [List.drop_eq_getElem_cons htc, List.flatten_cons, List.append_assoc]
      obtain ⟨dk, tk, hk, ⟨z', _⟩ | ⟨_, sw, hsw, edk, etk⟩⟩ := (ha.get hlt htc).body
      · cases z'
      rw [edr, etk, List.cons_append] at er3
      rw [edr, etk, List.cons_append, wK_ah sw (set_f sw hsw), decide_eq_true (List.mem_map_of_mem hsw)]
      refine iteT ?_
      have ett : tss.take (c + 1) = tss.take c ++ [tss[c]] := by rw [List.take_add_one, List.getElem?_eq_getElem htc]; rfl
      have etd : cs.take (c + 1) = cs.take c ++ [cs[c]] := by rw [List.take_add_one, List.getElem?_eq_getElem hlt]; rfl
      refine ⟨fun σ H' => ∃ (xs : List V) (hv : Option V), σ = [some (.ref p), some (.int ((lev : Nat) : Int)), some (.ref D), hv] ∧ Fd p H H' ∧ RdA C K H' p n T (i + t1.length + (tss.take (c + 1)).flatten.length) ∧ H' D = some (.lst xs) ∧ DpLs (fun a => H a = none ∧ a ≠ D) K H' xs (.tuple [.none, dc] :: cs.take (c + 1)), fun σ H' hN => ?_, ?_⟩
      · obtain ⟨xs, hv, rfl, h1, h2, h3, h4⟩ := hN
        exact ⟨cs.length - (c + 1), by omega, c + 1, xs, hv, rfl, rfl, by omega, h1, h2, h3, h4⟩
      · have eD3 := s3 _ _ eD
        refine ⟨_, rfl, rd3.go nf_take ⟨p, n, T, _, _, _, rfl, rd3, er3, fun H4 f4 rd4 => ?_⟩⟩
        have er4 := (rem_step er3).2
        have eD4 := f4 _ _ nDp eD3
        refine ⟨_, rfl, .inl ⟨rfl, _, .of eD4⟩, _, rfl, _, rfl, _, rfl, p, n, T, _, lev, dk, tk, _, rfl, hl, rd4, er4, hk, cf_fol st (ha.drop (c + 1)), fun H5 y f5 rd5 dy => ⟨by show 2 ≤ sizeLine; decide, fun v nv => ?_⟩⟩
        have eD5 := f5 _ _ nDp eD4
        have s6 := same_upd nv (o := .tup [kvV (wK sw), y])
        have ev : (upd H5 v (.tup [kvV (wK sw), y])) v = some (.tup [kvV (wK sw), y]) := upd_same
        have rd6 := rd5.ext s6
        have eD6 := s6 _ _ eD5
        generalize upd H5 v (.tup [kvV (wK sw), y]) = H6 at s6 ev rd6 eD6
        refine ⟨D, xs, _, rfl, rfl, eD6, by rw [xl]; omega, ?_⟩
        have f04 := (fi.trans (Fd.of s3)).trans f4
        have dy' := DpL.wide (L' := fun a => H a = none ∧ a ≠ D) (fun a xs e hl => ⟨f04.nn ⟨_, rd4.ins.choose_spec.choose_spec.choose_spec⟩ a hl, fun z => by rw [z, eD4] at hl; cases hl⟩) _ _ dy
        have c36 : Chg (fun a => H a = none ∧ a ≠ D) H3 H6 := Chg.fd rd3.ins ((f4.trans f5).trans (Fd.of s6))
        have cD : Chg (fun a => H a = none ∧ a ≠ D) H6 (upd H6 D (.lst (xs ++ [.ref v]))) := Chg.at eD6 fun z => z.2 rfl
        have dv : DpL (fun a => H a = none ∧ a ≠ D) K H6 (.ref v) cs[c] := by
          have ev' : H6 v = some (.tup [.str (Str.ofString sw), y]) := by rw [str_tx sw]; exact ev
          rw [edk]
          exact .tup (.inl (.inl ev')) (.cons (.str _) (.cons (DpL.chg (Chg.of s6) _ _ dy') .nil))
        refine ⟨xs ++ [.ref v], _, rfl, ((f04.trans f5).trans (Fd.of s6)).lst nD0, ?_, upd_same, ?_⟩
        · rw [ett, show i + t1.length + (tss.take c ++ [tss[c]]).flatten.length = i + t1.length + (tss.take c).flatten.length + 1 + tk.length by
            rw [List.flatten_append, List.length_append]
            show _ + (_ + (tss[c] ++ []).length) = _
            rw [List.append_nil, etk, List.length_cons]
            omega]
          exact rd6.lst eD6 nDa
        · rw [etd, ← List.cons_append]
          exact DpLs.snoc (DpLs.chg cD _ _ (DpLs.chg c36 _ _ (DpLs.chg (Chg.of s3) _ _ da))) (DpL.chg cD _ _ dv)
    · obtain rfl : c = cs.length := by omega
      rw [show tss.drop cs.length = [] from List.drop_eq_nil_of_le (by omega), show ([] : List (List Kv)).flatten ++ r = r from rfl, decide_eq_false (fun z => by
        obtain ⟨x, hx, e⟩ := List.mem_map.mp z
        exact st.ne x (fun y hy => (by decide +kernel : ∀ x ∈ SETS, ∀ y ∈ FQ, codes y ≠ codes x) x hx y hy) e.symm)]
      refine iteF ?_
      rw [show tss.take cs.length = tss from List.take_of_length_le (by omega)] at rd3
      rw [List.take_length] at da
      refine ⟨_, rfl, q H3 _ (fi.trans (Fd.of s3)) ?_ (.lst nD0 (s3 _ _ eD) (DpLs.wide (fun a xs _ h => h.1) _ _ (DpLs.chg (Chg.of s3) _ _ da)))⟩
      rw [List.length_append, ← Nat.add_assoc]
      exact rd3
/-! all of them, by how deep queries stand in one another -/
structure QF (K : PySem.W.Frag) (mg : Str → Option Value) : Prop where
  inside : HasF K mg "read_inside" s_read_inside ["reader", "level"]
  operand : HasF K mg "read_operand" s_read_operand ["reader", "level"]
  join : HasF K mg "read_join" s_read_join ["reader", "level", "how"]
  stage : HasF K mg "read_stage" s_read_stage ["reader", "level"]
  chain : HasF K mg "read_chain" s_read_chain ["reader", "level"]
  query : HasF K mg "read_query" s_read_query ["reader", "level"]
  group : HasF K mg "read_group" s_read_group ["reader"]
  list : HasF K mg "read_list" s_read_list ["reader", "read_part"]
  output : HasF K mg "read_output" s_read_output ["reader"]
  total : HasF K mg "read_total" s_read_total ["reader"]
  form : HasF K mg "read_form" s_read_form ["reader"]
  expression : HasF K mg "read_expression" s_read_expression ["reader"]
theorem cl_query {X z : Nat} (hX : 4 ≤ X) (h : QF K mg) (M : Mg mg) (G : Pq K mg aA aJ aS aU) (AH : ClM P w K mg base 2 C "ahead" (sp_ahead C K)) (TA : ClM P w K mg base 1 C "take" (sp_take C K)) (EX : ClM P w K mg base 3 C "expect" (sp_expect C K)) (TN : ClM P w K mg base 2 C "take_name" (sp_tname C K)) (RE : Cl P w K mg base X "read_expression" (sp_rexp C K z)) : ∀ n, Cl P w K mg base (X + 6 * n + 4) "read_query" (sp_partL C K n (GQ z n) FQ)
  | 0 => h.query.cl fun F => F.ok sc_read_query (fun vs H Q E h => by obtain ⟨p, n, T, i, lev, d, ts, r, rfl, _⟩ := h; rfl) (fun cdv A outer s H vs Q E hr h => by obtain ⟨p, n, T, i, lev, d, ts, r, rfl, _, _, _, hq, _⟩ := h; exact absurd hq (fun z => z))
  | n + 1 => by
    have Qn := cl_query hX h M G AH TA EX TN RE n
    have OU := h.output.cl fun F => ok_rout (j := X) (by omega) F M AH EX TN RE
    have FO_ := h.form.cl fun F => ok_rform (j := X) (by omega) F M G AH TA EX RE
    have TO := h.total.cl fun F => ok_rtotal (by omega) F M EX TN FO_
    have IN := h.inside.cl fun F => ok_rin (j := X + 6 * n + 4) (by omega) F M G TA EX TN Qn
    have OP := h.operand.cl fun F => ok_rop (by omega) F M AH TA TN IN
    have JO := h.join.cl fun F => ok_rjoin (by omega) F M EX (RE.mono (by omega)) OP
    have GR := h.group.cl fun F => ok_rgroup (j := X + 6 * n + 5) (by omega) F M AH TA (h.list.cl fun F => ok_list (by omega) (by decide +kernel) F M AH TA) (h.list.cl fun F => ok_list (by omega) (by decide +kernel) F M AH TA) (OU.mono (by omega)) (TO.mono (by omega))
    have ST := h.stage.cl fun F => ok_rstage (j := X + 6 * n + 6) (n' := n) (by omega) F M G TA EX (RE.mono (by omega)) (h.list.cl fun F => ok_list (by omega) (by decide +kernel) F M AH TA) (OU.mono (by omega)) GR JO
    have CH := h.chain.cl fun F => ok_rchain (j := X + 6 * n + 8) (by omega) F M G AH EX (OP.mono (by omega)) ST
    exact h.query.cl fun F => ok_rquery (j := X + 6 * n + 9) (by omega) F M G AH TA CH
end

/-! ### items, and a whole source -/
def GCol (d : PyData) (ts : List Kv) : Prop := ∃ l k, NmOk l ∧ k ∈ KND ∧ d = .tuple [.str ⟨l.toArray⟩, .str (Str.ofString k)] ∧ ts = [.word l, wK k]
def GTa (d : PyData) (ts : List Kv) : Prop := ∃ l cols css, NmOk l ∧ A2 GCol cols css ∧ cols ≠ [] ∧ cols.length ≤ 1000 ∧ d = .tuple [.str "table", .str ⟨l.toArray⟩, .list cols] ∧ ts = .word l :: sK "(" :: (cj css ++ [sK ")"])
def GSt (z n : Nat) (d : PyData) (ts : List Kv) : Prop := ∃ l q tq, NmOk l ∧ GQ z n q tq ∧ d = .tuple [.str "step", .str ⟨l.toArray⟩, q] ∧ ts = .word l :: sK "=" :: tq
def GIt (z n : Nat) (d : PyData) (ts : List Kv) : Prop := (∃ tt, GTa d tt ∧ ts = wK "table" :: (tt ++ [sK ";"])) ∨ ∃ tt, GSt z n d tt ∧ ts = wK "step" :: (tt ++ [sK ";"])
theorem knd_f (k : String) (h : k ∈ KND) : isRes (codes k) = true := by
  simp only [KND, List.mem_cons, List.not_mem_nil, or_false] at h
  rcases h with rfl | rfl | rfl <;> decide +kernel
structure Pk (K : PySem.W.Frag) (mg : Str → Option Value) (aN : Addr) : Prop where
  KINDS : ∃ u, mg "KINDS" = some u ∧ RelV (.ref aN) u
  knd : ∀ H : Hp, SqT K H aN (KND.map fun s => V.str (Str.ofString s))
def sp_item (C : Addr) (K : PySem.W.Frag) (R : PyData → List Kv → Prop) : Sp := fun vs H Q _ => ∃ (p : Addr) (n : Src) (T : List (Kv × Nat)) (i : Nat) (d : PyData) (ts r : List Kv), vs = [.ref p] ∧ RdA C K H p n T i ∧ rem T i = ts ++ r ∧ R d ts ∧
  ∀ H' x, Fd p H H' → RdA C K H' p n T (i + ts.length) → DpL (fun a => H a = none) K H' x d → Q x H'
/-- where the token stands -/
def offN (T : List (Kv × Nat)) (i : Nat) : Nat := (T[i]?.map (·.2)).getD 0
def sp_psrc (K : PySem.W.Frag) (z n : Nat) : Sp := fun vs H Q _ => ∃ (l : List Nat) (T : List (Kv × Nat)) (ds : List PyData) (tss : List (List Kv)) (es : List PyData), vs = [.str ⟨l.toArray⟩] ∧ l.length ≤ 100000 ∧ T.length ≤ 100000 ∧ Lx l.length (skip l) T ∧ A2 (GIt z n) ds tss ∧ T.map (·.1) = tss.flatten ∧ ds.length ≤ 1000 ∧ es.length = ds.length ∧
  (∀ (k : Nat) (h : k < es.length) (h' : k < ds.length), es[k] = .tuple [ds[k], .int (offN T (tss.take k).flatten.length : Nat)]) ∧ ∀ H' x, Same H H' → DpL (fun a => H a = none) K H' x (.list es) → Q x H'
section
variable {P : Program} {w : World} {K : PySem.W.Frag} {mg : Str → Option Value} {base : Heap} {C aN : Addr}
theorem ok_rcol {f : Addr} {fd : FuncData} {j : Nat} (hj : 3 ≤ j) (F : Fun K "read_column" "read_column" s_read_column f fd) (M : Mg mg) (G : Pk K mg aN) (c_Reader_ahead : ClM P w K mg base 2 C "ahead" (sp_ahead C K)) (c_Reader_take : ClM P w K mg base 1 C "take" (sp_take C K)) (c_Reader_take_name : ClM P w K mg base 2 C "take_name" (sp_tname C K)) : FnOk P w K mg base CX0 (j + 1) f fd ["reader"] (sp_part C K GCol [",", ")"]) := by
  refine F.ok sc_read_column (fun vs H Q E h => ?_) (fun cdv A outer s H vs Q E hr h => ?_)
  · obtain ⟨p, n, T, i, d, ts, r, rfl, _⟩ := h
    rfl
  · obtain ⟨p, n, T, i, d, ts, r, rfl, rd, er, ⟨l, k, nl, hk, rfl, rfl⟩, st, q⟩ := h
    refine ⟨_, (pss_cons (ps_set (i := 1) sc_read_column.nd rfl (.inl rfl) (pe_mt0 c_Reader_take_name hr (by first | decide | omega) (pv 0)))
      (pss_cons (ps_if (pt_cmpR (notInK K) (pe_mt0 c_Reader_ahead hr (by first | decide | omega) (pv 0)) (C8.pe_gc (by rfl) G.KINDS) (by rfl)) (pss_one ps_never) pss_nil)
      (pss_one (ps_ret (pe_tup (pa_cons (pv 1) (pa_cons (pe_mt0 c_Reader_take hr (by first | decide | omega) (pv 0)) pa_nil))))))), ?_⟩
    have er' : rem T i = .word l :: wK k :: r := er
    refine ⟨_, rfl, rd.go nf_tname ⟨p, n, T, _, l, _, rfl, rd, er', nl, fun H2 f2 rd2 => ?_⟩⟩
    have er2 := (rem_step er').2
    refine ⟨_, rfl, rd2.go nf_ahead ⟨p, n, T, _, rfl, rd2, fun H3 s3 => ⟨aN, _, rfl, .inr (G.knd _), rfl, str_flat _, _, rfl, ?_⟩⟩⟩
    rw [if_pos rfl, er2, wK_ah k (knd_f k hk), inV_c, decide_eq_true (List.mem_map_of_mem hk)]
    refine iteF ?_
    have rd3 := rd2.ext s3
    refine ⟨_, rfl, _, rfl, rd3.go nf_take ⟨p, n, T, _, _, _, rfl, rd3, er2, fun H4 f4 rd4 => ?_⟩⟩
    refine ⟨by show 2 ≤ sizeLine; decide, fun u nu => ?_⟩
    refine q _ _ (((f2.trans (Fd.of s3)).trans f4).trans (Fd.new nu)) (rd4.ext (same_upd nu)) (.tup (.inl (.inl upd_same)) (.cons (.str _) (.cons ?_ .nil)))
    show DpL _ _ _ (tx (codes k)) _
    rw [← str_tx k]
    exact .str _
theorem ok_rtable {f : Addr} {fd : FuncData} {j : Nat} (hj : 4 ≤ j) (F : Fun K "read_table" "read_table" s_read_table f fd) (M : Mg mg) (c_Reader_expect : ClM P w K mg base 3 C "expect" (sp_expect C K)) (c_Reader_take_name : ClM P w K mg base 2 C "take_name" (sp_tname C K)) (c_read_list : Cl P w K mg base (j + 1) "read_list" (sp_list P w K mg base C j GCol [")"])) (c_read_column : Cl P w K mg base j "read_column" (sp_part C K GCol [",", ")"])) : FnOk P w K mg base CX0 (j + 2) f fd ["reader"] (sp_part C K GTa [";"]) := by
  refine F.ok sc_read_table (fun vs H Q E h => ?_) (fun cdv A outer s H vs Q E hr h => ?_)
  · obtain ⟨p, n, T, i, d, ts, r, rfl, _⟩ := h
    rfl
  · obtain ⟨p, n, T, i, d, ts, r, rfl, rd, er, ⟨l, cols, css, nl, ha, hne, hfew, rfl, rfl⟩, st, q⟩ := h
    obtain ⟨fo, hm_read_column, hdo⟩ := c_read_column.hd
    refine ⟨_, (pss_cons (ps_set (i := 1) sc_read_table.nd rfl (.inl rfl) (pe_mt0 c_Reader_take_name hr (by first | decide | omega) (pv 0)))
      (pss_cons (ps_expr (pe_mt c_Reader_expect hr (by first | decide | omega) (pv 0) (pa_cons pe_str pa_nil)))
      (pss_cons (ps_set (i := 2) sc_read_table.nd rfl (.inl rfl) (pe_u c_read_list hr (by first | decide | omega) (by rfl) (pa_cons (pv 0) (pa_cons (C8.pe_gc (v := .ref _) (by rfl) ⟨_, hm_read_column, rfl⟩) pa_nil))))
      (pss_cons (ps_expr (pe_mt c_Reader_expect hr (by first | decide | omega) (pv 0) (pa_cons pe_str pa_nil)))
      (pss_one (ps_ret (pe_tup (pa_cons pe_str (pa_cons (pv 1) (pa_cons (pv 2) pa_nil)))))))))), ?_⟩
    have er' : rem T i = .word l :: sK "(" :: (cj css ++ (sK ")" :: r)) := by rw [er]; simp
    refine ⟨_, rfl, rd.go nf_tname ⟨p, n, T, _, l, _, rfl, rd, er', nl, fun H2 f2 rd2 => ?_⟩⟩
    have er2 := (rem_step er').2
    refine ⟨_, rfl, rd2.go nf_expect ⟨p, n, T, _, codes "(", _, _, congrArg (fun z => [V.ref p, z]) (str_tx "("), rd2, er2, by rw [er2]; rfl, fun H3 f3 rd3 => ?_⟩⟩
    have er3 := (rem_step er2).2
    refine ⟨_, rfl, p, n, T, _, fo, cols, css, _, rfl, hdo, rd3, er3, ha, hne, hfew, List.mem_map.mpr ⟨")", by decide, rfl⟩, fun H4 x f4 rd4 dx => ?_⟩
    have er4 := rem_app er3
    refine ⟨_, rfl, rd4.go nf_expect ⟨p, n, T, _, codes ")", _, _, congrArg (fun z => [V.ref p, z]) (str_tx ")"), rd4, er4, by rw [er4]; rfl, fun H5 f5 rd5 => ?_⟩⟩
    refine ⟨_, rfl, _, rfl, by show 3 ≤ sizeLine; decide, fun u nu => ?_⟩
    have f03 := f2.trans f3
    have dx' := DpL.wide (L' := fun a => H a = none) (fun a xs _ hl => f03.nn ⟨_, rd3.ins.choose_spec.choose_spec.choose_spec⟩ a hl) _ _ dx
    have c : Chg (fun a => H a = none) H4 (upd H5 u (.tup [.str "table", tx l, x])) := Chg.fd rd4.ins (f5.trans (Fd.new nu))
    refine q _ _ (((f03.trans f4).trans f5).trans (Fd.new nu)) ?_ (.tup (.inl (.inl upd_same)) (.cons (.str _) (.cons (.str _) (.cons (DpL.chg c _ _ dx') .nil))))
    rw [show i + (Kv.word l :: sK "(" :: (cj css ++ [sK ")"])).length = i + 1 + 1 + (cj css).length + 1 by simp only [List.length_cons, List.length_append, List.length_nil]; omega]
    exact rd5.ext (same_upd nu)
theorem ok_rstep {f : Addr} {fd : FuncData} {j z n' : Nat} (hn : n' ≤ 7) (hj : 3 ≤ j) (F : Fun K "read_step" "read_step" s_read_step f fd) (M : Mg mg) (c_Reader_expect : ClM P w K mg base 3 C "expect" (sp_expect C K)) (c_Reader_take_name : ClM P w K mg base 2 C "take_name" (sp_tname C K)) (c_read_query : Cl P w K mg base j "read_query" (sp_partL C K n' (GQ z n') FQ)) : FnOk P w K mg base CX0 (j + 1) f fd ["reader"] (sp_part C K (GSt z n') [";"]) := by
  refine F.ok sc_read_step (fun vs H Q E h => ?_) (fun cdv A outer s H vs Q E hr h => ?_)
  · obtain ⟨p, n, T, i, d, ts, r, rfl, _⟩ := h
    rfl
  · obtain ⟨p, n, T, i, d, ts, r, rfl, rd, er, ⟨l, qd, tq, nl, hq, rfl, rfl⟩, st, q⟩ := h
    refine ⟨_, (pss_cons (ps_set (i := 1) sc_read_step.nd rfl (.inl rfl) (pe_mt0 c_Reader_take_name hr (by first | decide | omega) (pv 0)))
      (pss_cons (ps_expr (pe_mt c_Reader_expect hr (by first | decide | omega) (pv 0) (pa_cons pe_str pa_nil)))
      (pss_one (ps_ret (pe_tup (pa_cons pe_str (pa_cons (pv 1) (pa_cons (pe_u c_read_query hr (by first | decide | omega) (by rfl) (pa_cons (pv 0) (pa_cons pe_int pa_nil))) pa_nil)))))))), ?_⟩
    have er' : rem T i = .word l :: sK "=" :: (tq ++ r) := er
    refine ⟨_, rfl, rd.go nf_tname ⟨p, n, T, _, l, _, rfl, rd, er', nl, fun H2 f2 rd2 => ?_⟩⟩
    have er2 := (rem_step er').2
    refine ⟨_, rfl, rd2.go nf_expect ⟨p, n, T, _, codes "=", _, _, congrArg (fun z => [V.ref p, z]) (str_tx "="), rd2, er2, by rw [er2]; rfl, fun H3 f3 rd3 => ?_⟩⟩
    have er3 := (rem_step er2).2
    refine ⟨_, rfl, _, rfl, p, n, T, _, 0, qd, tq, r, rfl, by omega, rd3, er3, hq, st.mono (by decide), fun H4 x f4 rd4 dx => ?_⟩
    refine ⟨by show 3 ≤ sizeLine; decide, fun u nu => ?_⟩
    have f03 := f2.trans f3
    have dx' := DpL.wide (L' := fun a => H a = none) (fun a xs _ hl => f03.nn ⟨_, rd3.ins.choose_spec.choose_spec.choose_spec⟩ a hl) _ _ dx
    refine q _ _ ((f03.trans f4).trans (Fd.new nu)) ?_ (.tup (.inl (.inl upd_same)) (.cons (.str _) (.cons (.str _) (.cons (DpL.chg (Chg.of (same_upd nu)) _ _ dx') .nil))))
    rw [show i + (Kv.word l :: sK "=" :: tq).length = i + 1 + 1 + tq.length by simp only [List.length_cons]; omega]
    exact rd4.ext (same_upd nu)
theorem ok_ritem {f : Addr} {fd : FuncData} {j z n' : Nat} (hj : 3 ≤ j) (F : Fun K "read_item" "read_item" s_read_item f fd) (M : Mg mg) (c_Reader_ahead : ClM P w K mg base 2 C "ahead" (sp_ahead C K)) (c_Reader_take : ClM P w K mg base 1 C "take" (sp_take C K)) (c_Reader_expect : ClM P w K mg base 3 C "expect" (sp_expect C K)) (c_read_table : Cl P w K mg base j "read_table" (sp_part C K GTa [";"])) (c_read_step : Cl P w K mg base j "read_step" (sp_part C K (GSt z n') [";"])) : FnOk P w K mg base CX0 (j + 1) f fd ["reader"] (sp_item C K (GIt z n')) := by
  refine F.ok sc_read_item (fun vs H Q E h => ?_) (fun cdv A outer s H vs Q E hr h => ?_)
  · obtain ⟨p, n, T, i, d, ts, r, rfl, _⟩ := h
    rfl
  · obtain ⟨p, n, T, i, d, ts, r, rfl, rd, er, hg, q⟩ := h
    refine ⟨_, (pss_cons (ps_if (pt_cmpR (notInK K) (pe_mt0 c_Reader_ahead hr (by first | decide | omega) (pv 0)) (pe_tup (pa_cons pe_str (pa_cons pe_str pa_nil))) (by rfl)) (pss_one ps_never) pss_nil)
      (pss_cons (ps_set (i := 1) sc_read_item.nd rfl (.inl rfl) (pe_mt0 c_Reader_take hr (by first | decide | omega) (pv 0)))
      (pss_cons (ps_set (i := 2) sc_read_item.nd rfl (.inl rfl) (pe_ifExp (pt_cmpR op_eq (pv 1) pe_str (nomark _)) (pe_u c_read_table hr (by first | decide | omega) (by rfl) (pa_cons (pv 0) pa_nil)) (pe_u c_read_step hr (by first | decide | omega) (by rfl) (pa_cons (pv 0) pa_nil))))
      (pss_cons (ps_expr (pe_mt c_Reader_expect hr (by first | decide | omega) (pv 0) (pa_cons pe_str pa_nil)))
      (pss_one (ps_ret (pv 2))))))), ?_⟩
    -- the end, behind the item's body
    have fin : ∀ (H1 H2 : Hp) (x : V) (tt : List Kv) (s : String), Fd p H H1 → (∃ C dx fs, H1 p = some (.ins C dx fs)) → Fd p H1 H2 → ts = wK s :: (tt ++ [sK ";"]) → RdA C K H2 p n T (i + 1 + tt.length) → rem T (i + 1 + tt.length) = sK ";" :: r → DpL (fun a => H1 a = none) K H2 x d →
        ∀ H' : Hp, Fd p H2 H' → RdA C K H' p n T (i + 1 + tt.length + 1) → Q x H' := fun H1 H2 x tt s f1 hp f2 ets rd2 _ dx H' f3 rd3 => by
      refine q _ _ ((f1.trans f2).trans f3) ?_ (DpL.chg (Chg.fd rd2.ins f3) _ _ (DpL.wide (fun a' xs _ hl => f1.nn (let ⟨_, _, _, z⟩ := hp; ⟨_, z⟩) a' hl) _ _ dx))
      rw [ets, show i + (wK s :: (tt ++ [sK ";"])).length = i + 1 + tt.length + 1 by simp only [List.length_cons, List.length_append, List.length_nil]; omega]
      exact rd3
    refine ⟨_, rfl, rd.go nf_ahead ⟨p, n, T, i, rfl, rd, fun H1 s1 => ?_⟩⟩
    refine ⟨by show 2 ≤ sizeLine; decide, fun wa nwa => ⟨wa, _, rfl, .inr (.inl (.inl upd_same)), rfl, rfl, _, rfl, ?_⟩⟩
    have s2 := same_upd nwa (o := .tup [.str "table", .str "step"])
    have rd2 := rd.ext (s1.trans s2)
    have f02 : Fd p H (upd H1 wa (.tup [.str "table", .str "step"])) := Fd.of (s1.trans s2)
    generalize upd H1 wa (.tup [.str "table", .str "step"]) = H2 at s2 rd2 f02
    rcases hg with ⟨tt, hg, ets⟩ | ⟨tt, hg, ets⟩
    · have er' : rem T i = wK "table" :: (tt ++ (sK ";" :: r)) := by rw [er, ets]; simp
      rw [if_pos rfl, er', wK_ah "table" (by decide +kernel), show inV (tx (codes "table")) [V.str "table", V.str "step"] = true from (inV_c _ ["table", "step"]).trans (by decide +kernel)]
      refine iteF ?_
      refine ⟨_, rfl, rd2.go nf_take ⟨p, n, T, _, _, _, rfl, rd2, er', fun H3 f3 rd3 => ?_⟩⟩
      have er3 := (rem_step er').2
      refine ⟨_, rfl, rfl, _, rfl, ?_⟩
      rw [show kvV (wK "table") = tx (codes "table") from rfl, ah_is "table" rfl]
      refine iteT ?_
      refine ⟨_, rfl, p, n, T, _, d, tt, _, rfl, rd3, er3, hg, List.mem_map.mpr ⟨";", by decide, rfl⟩, fun H4 x f4 rd4 dx => ?_⟩
      have er4 := rem_app er3
      refine ⟨_, rfl, rd4.go nf_expect ⟨p, n, T, _, codes ";", _, _, congrArg (fun z => [V.ref p, z]) (str_tx ";"), rd4, er4, by rw [er4]; rfl, fun H5 f5 rd5 => ?_⟩⟩
      exact ⟨_, rfl, fin H3 H4 x tt "table" (f02.trans f3) rd3.ins f4 ets rd4 er4 dx _ f5 rd5⟩
    · have er' : rem T i = wK "step" :: (tt ++ (sK ";" :: r)) := by rw [er, ets]; simp
      rw [if_pos rfl, er', wK_ah "step" (by decide +kernel), show inV (tx (codes "step")) [V.str "table", V.str "step"] = true from (inV_c _ ["table", "step"]).trans (by decide +kernel)]
      refine iteF ?_
      refine ⟨_, rfl, rd2.go nf_take ⟨p, n, T, _, _, _, rfl, rd2, er', fun H3 f3 rd3 => ?_⟩⟩
      have er3 := (rem_step er').2
      refine ⟨_, rfl, rfl, _, rfl, ?_⟩
      rw [show kvV (wK "step") = tx (codes "step") from rfl, ah_not "table" (by decide +kernel)]
      refine iteF ?_
      refine ⟨_, rfl, p, n, T, _, d, tt, _, rfl, rd3, er3, hg, List.mem_map.mpr ⟨";", by decide, rfl⟩, fun H4 x f4 rd4 dx => ?_⟩
      have er4 := rem_app er3
      refine ⟨_, rfl, rd4.go nf_expect ⟨p, n, T, _, codes ";", _, _, congrArg (fun z => [V.ref p, z]) (str_tx ";"), rd4, er4, by rw [er4]; rfl, fun H5 f5 rd5 => ?_⟩⟩
      exact ⟨_, rfl, fin H3 H4 x tt "step" (f02.trans f3) rd3.ins f4 ets rd4 er4 dx _ f5 rd5⟩
theorem GIt.kd {z n : Nat} {d : PyData} {ts : List Kv} (h : GIt z n d ts) (r : List Kv) : kdOf (ts ++ r) = "reserved" := by
  rcases h with ⟨tt, _, rfl⟩ | ⟨tt, _, rfl⟩
  · show (if isRes (codes "table") = true then ("reserved" : Str) else "name") = _
    rw [if_pos (by decide +kernel)]
  · show (if isRes (codes "step") = true then ("reserved" : Str) else "name") = _
    rw [if_pos (by decide +kernel)]
theorem ok_psrc {f : Addr} {fd : FuncData} {j z n' : Nat} (hj : 6 ≤ j) (F : Fun K "parse_source" "parse_source" s_parse_source f fd) (M : Mg mg) (c_Reader_kind : ClM P w K mg base 1 C "kind" (sp_kind C K)) (c_Reader_offset : ClM P w K mg base 1 C "offset" (sp_offset C K)) (c_Reader___init__ : ClC P w K mg base 5 "Reader" C (sp_init C K)) (c_read_item : Cl P w K mg base j "read_item" (sp_item C K (GIt z n'))) : FnOk P w K mg base CX0 (j + 1) f fd ["source"] (sp_psrc K z n') := by
  refine F.ok sc_parse_source (fun vs H Q E h => ?_) (fun cdv A outer s H vs Q E hr h => ?_)
  · obtain ⟨l, T, ds, tss, es, rfl, _⟩ := h
    rfl
  · obtain ⟨l, T, ds, tss, es, rfl, hl, hT, hx, ha, eT, hfew, hes, hel, q⟩ := h
    have hl2 := ha.len
    have lt1 : (1002 : Nat) < sizeLine := by decide
    refine ⟨_, (pss_cons (ps_set (i := 1) sc_parse_source.nd rfl (.inl rfl) (pe_mk c_Reader___init__ hr (by first | decide | omega) (by rfl) (pa_cons (pv 0) pa_nil)))
      (pss_cons (ps_set (i := 2) sc_parse_source.nd rfl (.inl rfl) (pe_lst pa_nil))
      (pss_cons (ps_while PassesOwn.never (pt_cmpR op_ne (pe_mt0 c_Reader_kind hr (by first | decide | omega) (pv 1)) pe_str (nomark _)) (pss_cons (ps_set (i := 3) sc_parse_source.nd rfl (.inl rfl) (pe_mt0 c_Reader_offset hr (by first | decide | omega) (pv 1)))
      (pss_one (ps_expr (pe_bmK K PySem.F.plainAttrs_list PySem.F.slot_list_append PySem.F.type_list_append mt_append (pv 2) (pa_cons (pe_tup (pa_cons (pe_u c_read_item hr (by first | decide | omega) (by rfl) (pa_cons (pv 1) pa_nil)) (pa_cons (pv 3) pa_nil))) pa_nil))))))
      (pss_one (ps_ret (pv 2)))))), ?_⟩
    refine ⟨_, rfl, fun p dx np nd hdp => ?_⟩
    have s0 : Same H (upd (upd H dx (.own p)) p (.ins C dx [])) := (same_upd nd).trans (same_upd (by rw [upd_ne hdp.symm]; exact np))
    have ep : (upd (upd H dx (.own p)) p (.ins C dx [])) p = some (.ins C dx []) := upd_same
    generalize upd (upd H dx (.own p)) p (.ins C dx []) = H0 at s0 ep
    refine ⟨p, dx, l, T, rfl, ep, hl, hT, hx, fun H1 b f1 nb nbp rd => ⟨rfl, ?_⟩⟩
    generalize (⟨l.length, b⟩ : Src) = sr at rd
    refine ⟨Nat.zero_le _, fun D nD => ?_⟩
    obtain ⟨nDa, nDp⟩ := rd.new nD
    have nD0 : H D = none := s0.free (f1.back nD nDp)
    have s2 := same_upd nD (o := .lst [])
    have erd : ∀ c, rem T (tss.take c).flatten.length = (tss.drop c).flatten := fun c => by
      have h0 : rem T 0 = (tss.take c).flatten ++ (tss.drop c).flatten := by
        rw [← List.flatten_append, List.take_append_drop]
        exact eT
      have := rem_app h0
      rwa [Nat.zero_add] at this
    have toS : ∀ H', Fd p H0 H' → Same H H' := fun H' f' b o e => f' b o (fun z => by rw [z, np] at e; cases e) (s0 b o e)
    refine ⟨fun k σ Hi => ∃ (c : Nat) (xs : List V) (ov : Option V), σ = [some (.str ⟨l.toArray⟩), some (.ref p), some (.ref D), ov] ∧ k = ds.length - c ∧ c ≤ ds.length ∧ Fd p H0 Hi ∧ RdA C K Hi p sr T (tss.take c).flatten.length ∧ Hi D = some (.lst xs) ∧ DpLs (fun a => H a = none ∧ a ≠ D) K Hi xs (es.take c),
      ⟨_, 0, [], _, rfl, rfl, Nat.zero_le _, f1.trans (Fd.of s2), rd.ext s2, upd_same, .nil⟩, fun k σ Hi hW => ?_⟩
    obtain ⟨c, xs, ov, rfl, rfl, hc, fi, rdi, eD, da⟩ := hW
    have xl : xs.length = c := by
      rw [da.len, List.length_take]
      omega
    refine ⟨_, rfl, rdi.go nf_kind ⟨p, sr, T, _, rfl, rdi, ⟨rfl, _, rfl, ?_⟩⟩⟩
    have er := erd c
    by_cases hlt : c < ds.length
    · have htc : c < tss.length := by omega
      have hec : c < es.length := by omega
      have edr : (tss.drop c).flatten = tss[c] ++ (tss.drop (c + 1)).flatten := by
        rw [List.drop_eq_getElem_cons htc, List.flatten_cons]
      have hg := ha.get hlt htc
      rw [er, edr, hg.kd]
      refine iteT ?_
      rw [edr] at er
      have hi : (tss.take c).flatten.length < T.length := by
        rcases hg with ⟨tt, _, e⟩ | ⟨tt, _, e⟩ <;> (rw [e] at er; exact (rem_step er).1)
      have ett : tss.take (c + 1) = tss.take c ++ [tss[c]] := by rw [List.take_add_one, List.getElem?_eq_getElem htc]; rfl
      have etd : es.take (c + 1) = es.take c ++ [es[c]] := by rw [List.take_add_one, List.getElem?_eq_getElem hec]; rfl
      refine ⟨fun σ H' => ∃ (xs : List V) (ov : Option V), σ = [some (.str ⟨l.toArray⟩), some (.ref p), some (.ref D), ov] ∧ Fd p H0 H' ∧ RdA C K H' p sr T (tss.take (c + 1)).flatten.length ∧ H' D = some (.lst xs) ∧ DpLs (fun a => H a = none ∧ a ≠ D) K H' xs (es.take (c + 1)), fun σ H' hN => ?_, ?_⟩
      · obtain ⟨xs, ov, rfl, h1, h2, h3, h4⟩ := hN
        exact ⟨ds.length - (c + 1), by omega, c + 1, xs, ov, rfl, rfl, by omega, h1, h2, h3, h4⟩
      · refine ⟨_, rfl, rdi.go nf_offset ⟨p, sr, T, _, rfl, rdi, hi, ?_⟩⟩
        refine ⟨_, rfl, .inl ⟨rfl, _, .of eD⟩, _, rfl, p, sr, T, _, ds[c], tss[c], _, rfl, rdi, er, hg, fun H5 y f5 rd5 dy => ⟨_, rfl, by show 2 ≤ sizeLine; decide, fun v nv => ?_⟩⟩
        have eD5 := f5 _ _ nDp eD
        have s6 := same_upd nv (o := .tup [y, .int (offN T (tss.take c).flatten.length : Nat)])
        have ev : (upd H5 v (.tup [y, .int (offN T (tss.take c).flatten.length : Nat)])) v = some (.tup [y, .int (offN T (tss.take c).flatten.length : Nat)]) := upd_same
        have rd6 := rd5.ext s6
        have eD6 := s6 _ _ eD5
        refine ⟨D, xs, _, rfl, rfl, eD6, by rw [xl]; omega, ?_⟩
        have dy' := DpL.wide (L' := fun a => H a = none ∧ a ≠ D) (fun a xs e hl => ⟨s0.free (fi.nn ⟨_, rdi.ins.choose_spec.choose_spec.choose_spec⟩ a hl), fun z => by rw [z, eD] at hl; cases hl⟩) _ _ dy
        have c6 : Chg (fun a => H a = none ∧ a ≠ D) Hi (upd H5 v (.tup [y, .int (offN T (tss.take c).flatten.length : Nat)])) := Chg.fd rdi.ins (f5.trans (Fd.of s6))
        have cD : Chg (fun a => H a = none ∧ a ≠ D) (upd H5 v (.tup [y, .int (offN T (tss.take c).flatten.length : Nat)])) (upd (upd H5 v (.tup [y, .int (offN T (tss.take c).flatten.length : Nat)])) D (.lst (xs ++ [.ref v]))) := Chg.at eD6 fun z => z.2 rfl
        have dv : DpL (fun a => H a = none ∧ a ≠ D) K (upd H5 v (.tup [y, .int (offN T (tss.take c).flatten.length : Nat)])) (.ref v) es[c] := by
          rw [hel c hec hlt]
          exact .tup (.inl (.inl ev)) (.cons (DpL.chg (Chg.of s6) _ _ dy') (.cons (.int _) .nil))
        refine ⟨xs ++ [.ref v], _, rfl, ((fi.trans f5).trans (Fd.of s6)).lst ?_, ?_, upd_same, ?_⟩
        · exact f1.back nD nDp
        · rw [ett, show (tss.take c ++ [tss[c]]).flatten.length = (tss.take c).flatten.length + tss[c].length by
            rw [List.flatten_append, List.length_append]
            show _ + (tss[c] ++ []).length = _
            rw [List.append_nil]]
          exact rd6.lst eD6 nDa
        · rw [etd]
          exact DpLs.snoc (DpLs.chg cD _ _ (DpLs.chg c6 _ _ da)) (DpL.chg cD _ _ dv)
    · obtain rfl : c = ds.length := by omega
      rw [er, show tss.drop ds.length = [] from List.drop_eq_nil_of_le (by omega)]
      refine iteF ?_
      rw [show es.take ds.length = es from List.take_of_length_le (by omega)] at da
      exact ⟨_, rfl, q Hi _ (toS _ fi) (.lst nD0 eD (DpLs.wide (fun a xs _ h => h.1) _ _ da))⟩
end

/-! ### an item that stands alone -/
def sp_one (K : PySem.W.Frag) (G : PyData → List Kv → Prop) : Sp := fun vs H Q _ => ∃ (l : List Nat) (T : List (Kv × Nat)) (d : PyData) (ts : List Kv), vs = [.str ⟨l.toArray⟩] ∧ l.length ≤ 100000 ∧ T.length ≤ 100000 ∧ Lx l.length (skip l) T ∧ G d ts ∧ T.map (·.1) = ts ∧
  ∀ H' x, Same H H' → DpL (fun a => H a = none) K H' x d → Q x H'

section
variable {P : Program} {w : World} {K : PySem.W.Frag} {mg : Str → Option Value} {base : Heap} {C : Addr}
theorem ok_pitem {f : Addr} {fd : FuncData} {j z n' : Nat} (hj : 6 ≤ j) (F : Fun K "parse_item" "parse_item" s_parse_item f fd) (M : Mg mg) (c_Reader_expect_end : ClM P w K mg base 2 C "expect_end" (sp_eend C K)) (c_Reader___init__ : ClC P w K mg base 5 "Reader" C (sp_init C K)) (c_read_item : Cl P w K mg base j "read_item" (sp_item C K (GIt z n'))) : FnOk P w K mg base CX0 (j + 1) f fd ["source"] (sp_one K (GIt z n')) := by
  refine F.ok sc_parse_item (fun vs H Q E h => ?_) (fun cdv A outer s H vs Q E hr h => ?_)
  · obtain ⟨l, T, d, ts, rfl, _⟩ := h
    rfl
  · obtain ⟨l, T, d, ts, rfl, hl, hT, hx, hg, eT, q⟩ := h
    refine ⟨_, (pss_cons (ps_set (i := 1) sc_parse_item.nd rfl (.inl rfl) (pe_mk c_Reader___init__ hr (by first | decide | omega) (by rfl) (pa_cons (pv 0) pa_nil)))
      (pss_cons (ps_set (i := 2) sc_parse_item.nd rfl (.inl rfl) (pe_u c_read_item hr (by first | decide | omega) (by rfl) (pa_cons (pv 1) pa_nil)))
      (pss_cons (ps_expr (pe_mt0 c_Reader_expect_end hr (by first | decide | omega) (pv 1)))
      (pss_one (ps_ret (pv 2)))))), ?_⟩
    refine ⟨_, rfl, fun p dx np nd hdp => ?_⟩
    have s0 : Same H (upd (upd H dx (.own p)) p (.ins C dx [])) := (same_upd nd).trans (same_upd (by rw [upd_ne hdp.symm]; exact np))
    have ep : (upd (upd H dx (.own p)) p (.ins C dx [])) p = some (.ins C dx []) := upd_same
    generalize upd (upd H dx (.own p)) p (.ins C dx []) = H0 at s0 ep
    refine ⟨p, dx, l, T, rfl, ep, hl, hT, hx, fun H1 b f1 nb nbp rd => ?_⟩
    generalize (⟨l.length, b⟩ : Src) = sr at rd
    have e0 : rem T 0 = ts ++ [] := by
      rw [List.append_nil]
      exact eT
    have toS : ∀ H', Fd p H0 H' → Same H H' := fun H' f' b o e => f' b o (fun z => by rw [z, np] at e; cases e) (s0 b o e)
    refine ⟨rfl, _, rfl, p, sr, T, 0, d, ts, [], rfl, rd, e0, hg, fun H4 x f4 rd4 dx' => ?_⟩
    refine ⟨_, rfl, rd4.go nf_eend ⟨p, sr, T, _, rfl, rd4, rem_app e0, ?_⟩⟩
    refine ⟨_, rfl, q H4 x (toS _ (f1.trans f4)) (DpL.wide (fun a xs _ hl => s0.free (f1.nn ⟨_, rd.ins.choose_spec.choose_spec.choose_spec⟩ a hl)) _ _ dx')⟩
end

theorem num_log {n : Nat} (h : n < 10 ^ 15) : ((n : Nat) : Int).natAbs.log2 < 1920 := by
  show n.log2 < 1920
  by_cases h0 : n = 0
  · subst h0
    decide
  · have : n.log2 < 50 := (Nat.log2_lt h0).mpr (by omega)
    omega
theorem num_S (n : Nat) : Str.ofString (toString ((n : Nat) : Int)) = ⟨(TL.numL n).toArray⟩ := SX.num_S n

/-! ### the law's expressions -/
def SIGs : List Bop := [.or, .and, .lt, .le, .eq, .ne, .ge, .gt, .add, .sub, .mul, .div, .mod]
def sp_signs : Sp := fun vs H Q _ => vs = [] ∧ ∀ H' p, Same H H' → H p = none → H' p = some (.lst ((SIGs.map Bop.w).map V.str)) → Q (.ref p) H'
def sp_lleaf (K : PySem.W.Frag) : Sp := fun vs H Q _ => ∃ (d c : Addr), vs = [.ref d] ∧ Dr H d c ∧ ∀ H' p (e : Ex), Fd d H H' → Dr H' d c → e.ok → e.ht = 0 → Dp K H' p e.d → Q p H'
def sp_lex (K : PySem.W.Frag) (n : Nat) : Sp := fun vs H Q _ => ∃ (d c : Addr) (m : Nat), vs = [.ref d, .int (m : Nat)] ∧ m < n ∧ Dr H d c ∧ ∀ H' p (e : Ex), Fd d H H' → Dr H' d c → e.ok → e.ht ≤ m → Dp K H' p e.d → Q p H'
section
variable {P : Program} {w : World} {K : PySem.W.Frag} {mg : Str → Option Value} {base : Heap}
theorem ok_signs {f : Addr} {fd : FuncData} (F : Fun K "_law_signs" "_law_signs" s__law_signs f fd) : FnOk P w K mg base CX0 1 f fd [] sp_signs := by
  refine F.ok sc__law_signs (fun vs H Q E h => ?_) (fun cdv A outer s H vs Q E hr h => ?_)
  · obtain ⟨rfl, _⟩ := h
    rfl
  · obtain ⟨rfl, q⟩ := h
    refine ⟨_, (pss_one (ps_ret (pe_lst (pa_cons pe_str (pa_cons pe_str (pa_cons pe_str (pa_cons pe_str (pa_cons pe_str (pa_cons pe_str (pa_cons pe_str (pa_cons pe_str (pa_cons pe_str (pa_cons pe_str (pa_cons pe_str (pa_cons pe_str (pa_cons pe_str pa_nil)))))))))))))))), ?_⟩
    refine ⟨by show 13 ≤ sizeLine; decide, fun p1 n1 => ?_⟩
    exact q _ p1 (same_upd n1) n1 upd_same
theorem ok_lleaf {f : Addr} {fd : FuncData} (F : Fun K "_law_leaf" "_law_leaf" s__law_leaf f fd) (M : Mg mg) (c__law_next : Cl P w K mg base 1 "_law_next" sp_next) (c__law_name : Cl P w K mg base 2 "_law_name" sp_name) (c__law_number : Cl P w K mg base 2 "_law_number" sp_number) (c__law_string : Cl P w K mg base 2 "_law_string" (sp_string CHS)) : FnOk P w K mg base CX0 3 f fd ["draw"] (sp_lleaf K) := by
  refine F.ok sc__law_leaf (fun vs H Q E h => ?_) (fun cdv A outer s H vs Q E hr h => ?_)
  · obtain ⟨d, c, rfl, _⟩ := h
    rfl
  · obtain ⟨d, c, rfl, dr, q⟩ := h
    refine ⟨_, (pss_cons (ps_set (i := 1) sc__law_leaf.nd rfl (.inl rfl) (pe_u c__law_next hr (by first | decide | omega) (by rfl) (pa_cons (pv 0) (pa_cons pe_int pa_nil))))
      (pss_cons (ps_if (pt_cmpR op_eq (pv 1) pe_int (nomark _)) (pss_one (ps_ret (pe_tup (pa_cons pe_str (pa_cons (pe_u c__law_number hr (by first | decide | omega) (by rfl) (pa_cons (pv 0) pa_nil)) pa_nil))))) pss_nil)
      (pss_cons (ps_if (pt_cmpR op_eq (pv 1) pe_int (nomark _)) (pss_one (ps_ret (pe_tup (pa_cons pe_str (pa_cons (pe_u c__law_string hr (by first | decide | omega) (by rfl) (pa_cons (pv 0) pa_nil)) pa_nil))))) pss_nil)
      (pss_cons (ps_if (pt_cmpR op_eq (pv 1) pe_int (nomark _)) (pss_one (ps_ret (pe_tup (pa_cons pe_str (pa_cons (pe_u c__law_next hr (by first | decide | omega) (by rfl) (pa_cons (pv 0) (pa_cons pe_int pa_nil))) pa_nil))))) pss_nil)
      (pss_cons (ps_if (pt_cmpR op_eq (pv 1) pe_int (nomark _)) (pss_one (ps_ret (pe_tup (pa_cons pe_str pa_nil)))) pss_nil)
      (pss_cons (ps_if (pt_cmpR op_eq (pv 1) pe_int (nomark _)) (pss_one (ps_ret (pe_tup (pa_cons pe_str (pa_cons (pe_u c__law_name hr (by first | decide | omega) (by rfl) (pa_cons (pv 0) pa_nil)) (pa_cons (pe_u c__law_name hr (by first | decide | omega) (by rfl) (pa_cons (pv 0) pa_nil)) pa_nil)))))) pss_nil)
      (pss_one (ps_ret (pe_tup (pa_cons pe_str (pa_cons (pe_u c__law_name hr (by first | decide | omega) (by rfl) (pa_cons (pv 0) pa_nil)) pa_nil))))))))))), ?_⟩
    refine ⟨_, rfl, d, c, 6, rfl, dr, by decide, by decide, fun H1 r f1 _ dr1 r0 r1 => ?_⟩
    refine ⟨_, rfl, rfl, _, rfl, ite2 (fun e => ?_) (fun e => ?_)⟩
    · refine ⟨_, rfl, d, c, rfl, dr1, fun H2 n f2 dr2 hn => ?_⟩
      refine ⟨Nat.le_trans (m := 3) (by first | exact (by decide : 1 ≤ 3) | exact (by decide : 2 ≤ 3) | exact (by decide : 3 ≤ 3)) (by decide), fun p np => ?_⟩
      exact q _ _ (.num n) ((f1.trans f2).trans (Fd.new np)) (dr2.ext (same_upd np)) hn rfl (.tup (.inl (.inl upd_same)) (.cons (.str _) (.cons (.int _) .nil)))
    refine ⟨_, rfl, rfl, _, rfl, ite2 (fun e => ?_) (fun e => ?_)⟩
    · refine ⟨_, rfl, d, c, rfl, dr1, fun H2 l f2 dr2 hl hx => ?_⟩
      refine ⟨Nat.le_trans (m := 3) (by first | exact (by decide : 1 ≤ 3) | exact (by decide : 2 ≤ 3) | exact (by decide : 3 ≤ 3)) (by decide), fun p np => ?_⟩
      exact q _ _ (.text l) ((f1.trans f2).trans (Fd.new np)) (dr2.ext (same_upd np)) ⟨hl, hx⟩ rfl (.tup (.inl (.inl upd_same)) (.cons (.str _) (.cons (.str _) .nil)))
    refine ⟨_, rfl, rfl, _, rfl, ite2 (fun e => ?_) (fun e => ?_)⟩
    · refine ⟨_, rfl, d, c, 2, rfl, dr1, by decide, by decide, fun H2 k f2 _ dr2 k0 k1 => ?_⟩
      refine ⟨Nat.le_trans (m := 3) (by first | exact (by decide : 1 ≤ 3) | exact (by decide : 2 ≤ 3) | exact (by decide : 3 ≤ 3)) (by decide), fun p np => ?_⟩
      obtain ⟨b, rfl⟩ : ∃ b : Bool, k = if b = true then 1 else 0 := by
        by_cases h : k = 1
        · exact ⟨true, h⟩
        · exact ⟨false, by show k = 0; omega⟩
      exact q _ _ (.truth b) ((f1.trans f2).trans (Fd.new np)) (dr2.ext (same_upd np)) trivial rfl (.tup (.inl (.inl upd_same)) (.cons (.str _) (.cons (.int _) .nil)))
    refine ⟨_, rfl, rfl, _, rfl, ite2 (fun e => ?_) (fun e => ?_)⟩
    · refine ⟨Nat.le_trans (m := 3) (by first | exact (by decide : 1 ≤ 3) | exact (by decide : 2 ≤ 3) | exact (by decide : 3 ≤ 3)) (by decide), fun p np => ?_⟩
      exact q _ _ .null (f1.trans (Fd.new np)) (dr1.ext (same_upd np)) trivial rfl (.tup (.inl (.inl upd_same)) (.cons (.str _) .nil))
    refine ⟨_, rfl, rfl, _, rfl, ite2 (fun e => ?_) (fun e => ?_)⟩
    · refine ⟨_, rfl, d, c, rfl, dr1, fun H2 l f2 dr2 hl => ?_⟩
      refine ⟨_, rfl, d, c, rfl, dr2, fun H3 m f3 dr3 hm => ?_⟩
      refine ⟨Nat.le_trans (m := 3) (by first | exact (by decide : 1 ≤ 3) | exact (by decide : 2 ≤ 3) | exact (by decide : 3 ≤ 3)) (by decide), fun p np => ?_⟩
      exact q _ _ (.field l m) (((f1.trans f2).trans f3).trans (Fd.new np)) (dr3.ext (same_upd np)) ⟨hl, hm⟩ rfl (.tup (.inl (.inl upd_same)) (.cons (.str _) (.cons (.str _) (.cons (.str _) .nil))))
    · refine ⟨_, rfl, d, c, rfl, dr1, fun H2 l f2 dr2 hl => ?_⟩
      refine ⟨Nat.le_trans (m := 3) (by first | exact (by decide : 1 ≤ 3) | exact (by decide : 2 ≤ 3) | exact (by decide : 3 ≤ 3)) (by decide), fun p np => ?_⟩
      exact q _ _ (.name l) ((f1.trans f2).trans (Fd.new np)) (dr2.ext (same_upd np)) hl rfl (.tup (.inl (.inl upd_same)) (.cons (.str _) (.cons (.str _) .nil)))
theorem ok_lex {f : Addr} {fd : FuncData} (n : Nat) (F : Fun K "_law_expression" "_law_expression" s__law_expression f fd) (M : Mg mg) (c__law_next : Cl P w K mg base 1 "_law_next" sp_next) (c__law_signs : Cl P w K mg base 1 "_law_signs" sp_signs) (c__law_leaf : Cl P w K mg base 3 "_law_leaf" (sp_lleaf K)) (c__law_expression : Cl P w K mg base (n + 3) "_law_expression" (sp_lex K n)) : FnOk P w K mg base CX0 (n + 4) f fd ["draw", "depth"] (sp_lex K (n + 1)) := by
  refine F.ok sc__law_expression (fun vs H Q E h => ?_) (fun cdv A outer s H vs Q E hr h => ?_)
  · obtain ⟨d, c, m, rfl, _⟩ := h
    rfl
  · obtain ⟨d, c, m, rfl, hm, dr, q⟩ := h
    refine ⟨_, (pss_cons (ps_set (i := 2) sc__law_expression.nd rfl (.inl rfl) (pe_u c__law_next hr (by first | decide | omega) (by rfl) (pa_cons (pv 0) (pa_cons pe_int pa_nil))))
      (pss_cons (ps_if (PW.pt (pw_or (pt_cmpR op_eq (pv 1) pe_int (nomark _)) (pw_or1 (pt_cmpR op_lt (pv 2) pe_int (nomark _))))) (pss_one (ps_ret (pe_u c__law_leaf hr (by first | decide | omega) (by rfl) (pa_cons (pv 0) pa_nil)))) pss_nil)
      (pss_cons (ps_if (pt_cmpR op_lt (pv 2) pe_int (nomark _)) (pss_cons (ps_set (i := 3) sc__law_expression.nd rfl (.inl rfl) (pe_u c__law_expression hr (by first | decide | omega) (by rfl) (pa_cons (pv 0) (pa_cons (pe_op op_sub (pv 1) pe_int) pa_nil))))
      (pss_one (ps_ret (pe_tup (pa_cons (pe_ix (ix_listK K) (pe_u0 c__law_signs hr (by first | decide | omega) (by rfl)) (pe_op op_sub (pv 2) pe_int) (fun _ _ => rfl)) (pa_cons (pv 3) (pa_cons (pe_u c__law_expression hr (by first | decide | omega) (by rfl) (pa_cons (pv 0) (pa_cons (pe_op op_sub (pv 1) pe_int) pa_nil))) pa_nil))))))) pss_nil)
      (pss_cons (ps_if (pt_cmpR op_lt (pv 2) pe_int (nomark _)) (pss_one (ps_ret (pe_tup (pa_cons (pe_ix (ix_listK K) (pe_lst (pa_cons pe_str (pa_cons pe_str (pa_cons pe_str (pa_cons pe_str pa_nil))))) (pe_op op_sub (pv 2) pe_int) (fun _ _ => rfl)) (pa_cons (pe_u c__law_expression hr (by first | decide | omega) (by rfl) (pa_cons (pv 0) (pa_cons (pe_op op_sub (pv 1) pe_int) pa_nil))) pa_nil))))) pss_nil)
      (pss_cons (ps_set (i := 3) sc__law_expression.nd rfl (.inl rfl) (pe_u c__law_expression hr (by first | decide | omega) (by rfl) (pa_cons (pv 0) (pa_cons (pe_op op_sub (pv 1) pe_int) pa_nil))))
      (pss_cons (ps_set (i := 4) sc__law_expression.nd rfl (.inl rfl) (pe_u c__law_expression hr (by first | decide | omega) (by rfl) (pa_cons (pv 0) (pa_cons (pe_op op_sub (pv 1) pe_int) pa_nil))))
      (pss_cons (ps_if (pt_cmpR op_eq (pv 2) pe_int (nomark _)) (pss_one (ps_ret (pe_tup (pa_cons (pe_ix (ix_listK K) (pe_lst (pa_cons pe_str (pa_cons pe_str pa_nil))) (pe_u c__law_next hr (by first | decide | omega) (by rfl) (pa_cons (pv 0) (pa_cons pe_int pa_nil))) (fun _ _ => rfl)) (pa_cons (pv 3) (pa_cons (pv 4) pa_nil)))))) pss_nil)
      (pss_one (ps_ret (pe_tup (pa_cons pe_str (pa_cons (pv 3) (pa_cons (pv 4) (pa_cons (pe_u c__law_expression hr (by first | decide | omega) (by rfl) (pa_cons (pv 0) (pa_cons (pe_op op_sub (pv 1) pe_int) pa_nil))) pa_nil)))))))))))))), ?_⟩
    refine ⟨_, rfl, d, c, 24, rfl, dr, by decide, by decide, fun H1 r f1 _ dr1 r0 r1 => ?_⟩
    by_cases hd : m = 0 ∨ r < 5
    · have leaf : tCall (sp_lleaf K) [] E0 (tCons (tVar 0) tNil) [some (.ref d), some (.int (m : Nat)), some (.int r), none, none] H1 Q := by
        exact ⟨_, rfl, d, c, rfl, dr1, fun H2 p e f2 dr2 ok h0 dp => q H2 p e (f1.trans f2) dr2 ok (by omega) dp⟩
      refine ⟨_, rfl, rfl, _, rfl, ?_⟩
      refine ite2 (fun e => iteT leaf) (fun e => ?_)
      have hr5 : r < 5 := by
        rcases hd with rfl | h
        · exact absurd rfl e
        · exact h
      refine ⟨_, rfl, _, _, rfl, rfl, _, rfl, ?_⟩
      rw [decide_eq_true hr5]
      exact iteT leaf
    · obtain ⟨k, rfl⟩ : ∃ k, m = k + 1 := ⟨m - 1, by omega⟩
      have dec : ∀ d : Addr, [V.ref d, V.int (((k + 1 : Nat) : Int) - 1)] = [V.ref d, V.int (k : Nat)] := fun d => by rw [show (((k + 1 : Nat) : Int) - 1) = (k : Nat) by omega]
      refine ⟨_, rfl, rfl, _, rfl, ?_⟩
      rw [show decide (V.int ((k + 1 : Nat) : Int) = V.int 0) = false from decide_eq_false fun z => by have := V.int.inj z; omega]
      refine iteF ⟨_, rfl, _, _, rfl, rfl, _, rfl, ?_⟩
      rw [decide_eq_false (show ¬ r < 5 by omega)]
      refine iteF ?_
      refine ⟨_, rfl, _, _, rfl, rfl, _, rfl, ite2 (fun e => ?_) (fun e => ?_)⟩
      · have hr18 : r < 18 := of_decide_eq_true e
        refine ⟨_, rfl, _, rfl, _, _, rfl, rfl, d, c, k, dec d, by omega, dr1, fun H2 p1 e1 f2 dr2 ok1 ht1 dp1 => ?_⟩
        refine ⟨rfl, fun H3 sg s3 nsg esg => ?_⟩
        obtain ⟨j, hj⟩ : ∃ j : Nat, r - 5 = (j : Nat) := ⟨(r - 5).toNat, by omega⟩
        have hj13 : j < SIGs.length := by show j < 13; omega
        have atj : atI ((SIGs.map Bop.w).map V.str) (r - 5) = some (.str (SIGs[j]).w) := by
          rw [hj]
          exact atI_nat (by rw [List.getElem?_map, List.getElem?_map, List.getElem?_eq_getElem hj13]; rfl)
        have dr3 := dr2.ext s3
        refine ⟨_, rfl, _, _, rfl, rfl, sg, _, _, _, rfl, rfl, .of esg, atj, ?_⟩
        refine ⟨_, rfl, ?_⟩
        refine ⟨_, rfl, _, rfl, _, _, rfl, rfl, d, c, k, dec d, by omega, dr3, fun H4 p2 e2 f4 dr4 ok2 ht2 dp2 => ?_⟩
        refine ⟨by show 3 ≤ sizeLine; decide, fun p np => ?_⟩
        have dp1' := Dp.ext (same_upd np (o := .tup [.str (SIGs[j]).w, p1, p2])) _ _ (Dp.fd dr3.lst f4 _ _ (ex_only e1) (Dp.ext s3 _ _ dp1))
        exact q _ _ (.bin SIGs[j] e1 e2) ((((f1.trans f2).trans (Fd.of s3)).trans f4).trans (Fd.new np)) (dr4.ext (same_upd np)) ⟨ok1, ok2⟩ (by show max e1.ht e2.ht + 1 ≤ k + 1; omega) (.tup (.inl (.inl upd_same)) (.cons (.str _) (.cons dp1' (.cons (Dp.ext (same_upd np) _ _ dp2) .nil))))
      have h18 : ¬ r < 18 := fun z => e (decide_eq_true z)
      refine ⟨_, rfl, _, _, rfl, rfl, _, rfl, ite2 (fun e => ?_) (fun e => ?_)⟩
      · have hr22 : r < 22 := of_decide_eq_true e
        have fin : ∀ (s : Str) (mk : Ex → Ex), atI [V.str "negate", V.str "not", V.str "missing", V.str "length"] (r - 18) = some (.str s) → (∀ e : Ex, (mk e).d = .tuple [.str s, e.d] ∧ ((mk e).ok ↔ e.ok) ∧ (mk e).ht = e.ht + 1) → tTup (tCons (tOp (rIxL K) (tLst (tCons (tC (V.str (Str.ofString "negate"))) (tCons (tC (V.str (Str.ofString "not"))) (tCons (tC (V.str (Str.ofString "missing"))) (tCons (tC (V.str (Str.ofString "length"))) tNil))))) (tOp (rI0 fun i j => V.int (i - j)) (tVar 2) (tC (V.int 18)))) (tCons (tCall (sp_lex K n) [] E0 (tCons (tVar 0) (tCons (tOp (rI0 fun i j => V.int (i - j)) (tVar 1) (tC (V.int 1))) tNil))) tNil)) [some (.ref d), some (.int ((k + 1 : Nat) : Int)), some (.int r), none, none] H1 Q := fun s mk ha hmk => by
          refine ⟨by show 4 ≤ sizeLine; decide, fun wp nwp => ?_⟩
          have dr2 := dr1.ext (same_upd nwp (o := .lst [.str "negate", .str "not", .str "missing", .str "length"]))
          refine ⟨_, rfl, _, _, rfl, rfl, wp, _, _, _, rfl, rfl, .of upd_same, ha, ?_⟩
          refine ⟨_, rfl, _, rfl, _, _, rfl, rfl, d, c, k, dec d, by omega, dr2, fun H4 p2 e2 f4 dr4 ok2 ht2 dp2 => ?_⟩
          refine ⟨by show 2 ≤ sizeLine; decide, fun p np => ?_⟩
          obtain ⟨m1, m2, m3⟩ := hmk e2
          refine q _ _ (mk e2) (((f1.trans (Fd.new nwp)).trans f4).trans (Fd.new np)) (dr4.ext (same_upd np)) (m2.mpr ok2) (by omega) ?_
          rw [m1]
          exact .tup (.inl (.inl upd_same)) (.cons (.str _) (.cons (Dp.ext (same_upd np) _ _ dp2) .nil))
        have four : r = 18 ∨ r = 19 ∨ r = 20 ∨ r = 21 := by omega
        clear h18 hr22 e hd r0 r1
        rcases four with rfl | rfl | rfl | rfl
        · exact fin "negate" .neg (atI_nat (j := 0) rfl) fun e => ⟨rfl, Iff.rfl, rfl⟩
        · exact fin "not" .nt (atI_nat (j := 1) rfl) fun e => ⟨rfl, Iff.rfl, rfl⟩
        · exact fin "missing" (.f1 true) (atI_nat (j := 2) rfl) fun e => ⟨rfl, Iff.rfl, rfl⟩
        · exact fin "length" (.f1 false) (atI_nat (j := 3) rfl) fun e => ⟨rfl, Iff.rfl, rfl⟩
      refine ⟨_, rfl, _, rfl, _, _, rfl, rfl, d, c, k, dec d, by omega, dr1, fun H2 p1 e1 f2 dr2 ok1 ht1 dp1 => ?_⟩
      refine ⟨_, rfl, _, rfl, _, _, rfl, rfl, d, c, k, dec d, by omega, dr2, fun H3 p2 e2 f3 dr3 ok2 ht2 dp2 => ?_⟩
      have dp13 := Dp.fd dr2.lst f3 _ _ (ex_only e1) dp1
      refine ⟨_, rfl, rfl, _, rfl, ite2 (fun e => ?_) (fun e => ?_)⟩
      · refine ⟨by show 2 ≤ sizeLine; decide, fun wp nwp => ?_⟩
        have sw := same_upd nwp (o := .lst [.str "starts", .str "coalesce"])
        have dr4 := dr3.ext sw
        refine ⟨_, rfl, d, c, 2, rfl, dr4, by decide, by decide, fun H5 b f5 _ dr5 b0 b1 => ?_⟩
        have ew := f5 _ _ (dr3.nd nwp) (show (upd H3 wp (.lst [.str "starts", .str "coalesce"])) wp = some (.lst [.str "starts", .str "coalesce"]) from upd_same)
        have dp15 := Dp.fd dr4.lst f5 _ _ (ex_only e1) (Dp.ext sw _ _ dp13)
        have dp25 := Dp.fd dr4.lst f5 _ _ (ex_only e2) (Dp.ext sw _ _ dp2)
        have ff := (((f1.trans f2).trans f3).trans (Fd.of sw)).trans f5
        have two : b = 0 ∨ b = 1 := by omega
        rcases two with rfl | rfl
        · refine ⟨wp, _, _, _, rfl, rfl, .of ew, atI_nat (j := 0) rfl, _, rfl, _, rfl, by show 3 ≤ sizeLine; decide, fun p np => ?_⟩
          exact q _ _ (.f2 true e1 e2) (ff.trans (Fd.new np)) (dr5.ext (same_upd np)) ⟨ok1, ok2⟩ (by show max e1.ht e2.ht + 1 ≤ k + 1; omega) (.tup (.inl (.inl upd_same)) (.cons (.str _) (.cons (Dp.ext (same_upd np) _ _ dp15) (.cons (Dp.ext (same_upd np) _ _ dp25) .nil))))
        · refine ⟨wp, _, _, _, rfl, rfl, .of ew, atI_nat (j := 1) rfl, _, rfl, _, rfl, by show 3 ≤ sizeLine; decide, fun p np => ?_⟩
          exact q _ _ (.f2 false e1 e2) (ff.trans (Fd.new np)) (dr5.ext (same_upd np)) ⟨ok1, ok2⟩ (by show max e1.ht e2.ht + 1 ≤ k + 1; omega) (.tup (.inl (.inl upd_same)) (.cons (.str _) (.cons (Dp.ext (same_upd np) _ _ dp15) (.cons (Dp.ext (same_upd np) _ _ dp25) .nil))))
      · refine ⟨_, rfl, _, rfl, _, rfl, _, rfl, _, _, rfl, rfl, d, c, k, dec d, by omega, dr3, fun H4 p3 e3 f4 dr4 ok3 ht3 dp3 => ?_⟩
        have dp14 := Dp.fd dr3.lst f4 _ _ (ex_only e1) dp13
        have dp24 := Dp.fd dr3.lst f4 _ _ (ex_only e2) dp2
        refine ⟨by show 4 ≤ sizeLine; decide, fun p np => ?_⟩
        exact q _ _ (.f3 e1 e2 e3) ((((f1.trans f2).trans f3).trans f4).trans (Fd.new np)) (dr4.ext (same_upd np)) ⟨ok1, ok2, ok3⟩ (by show max e1.ht (max e2.ht e3.ht) + 1 ≤ k + 1; omega) (.tup (.inl (.inl upd_same)) (.cons (.str _) (.cons (Dp.ext (same_upd np) _ _ dp14) (.cons (Dp.ext (same_upd np) _ _ dp24) (.cons (Dp.ext (same_upd np) _ _ dp3) .nil)))))
theorem cl_lex {f : Addr} {fd : FuncData} (F : Fun K "_law_expression" "_law_expression" s__law_expression f fd) (M : Mg mg) (g : mg "_law_expression" = some (.ref f)) (b : Binds K fd ["draw", "depth"] []) (c__law_next : Cl P w K mg base 1 "_law_next" sp_next) (c__law_signs : Cl P w K mg base 1 "_law_signs" sp_signs) (c__law_leaf : Cl P w K mg base 3 "_law_leaf" (sp_lleaf K)) : ∀ n, Cl P w K mg base (n + 3) "_law_expression" (sp_lex K n)
  | 0 => FnOk.cl (P := P) (w := w) (base := base) (F.ok sc__law_expression (fun vs H Q E h => by obtain ⟨d, c, m, rfl, _⟩ := h; rfl) (fun cdv A outer s H vs Q E hr h => by obtain ⟨d, c, m, rfl, hm, _⟩ := h; omega)) F g b
  | n + 1 => FnOk.cl (ok_lex n F M c__law_next c__law_signs c__law_leaf (cl_lex F M g b c__law_next c__law_signs c__law_leaf n)) F g b
end
/-! ### the law's printing -/
def LV0 : List (Key × V) := [(.inr "or", .int 1), (.inr "and", .int 2), (.inr "not", .int 3), (.inr "<", .int 4), (.inr "<=", .int 4), (.inr "=", .int 4), (.inr "!=", .int 4), (.inr ">=", .int 4), (.inr ">", .int 4), (.inr "+", .int 5), (.inr "-", .int 5), (.inr "*", .int 6)]
def LVL : List (Key × V) := putK (putK (putK (mergeK [] LV0) (.inr "div") (.int 6)) (.inr "mod") (.int 6)) (.inr "negate") (.int 7)
theorem lvl_at (x : String) (n : Nat) (h : (valV LVL (.inr (Str.ofString x))).getD (.int 8) = .int n) : (valV LVL (.inr (Str.ofString x))).getD (.int 8) = .int n := h
theorem lvl (e : Ex) : (valV LVL (.inr e.wd)).getD (.int 8) = .int (e.lev : Nat) := by
  cases e with
  | bin o a b => cases o; exact lvl_at "or" 1 (by decide +kernel); exact lvl_at "and" 2 (by decide +kernel); exact lvl_at "<" 4 (by decide +kernel); exact lvl_at "<=" 4 (by decide +kernel); exact lvl_at "=" 4 (by decide +kernel); exact lvl_at "!=" 4 (by decide +kernel); exact lvl_at ">=" 4 (by decide +kernel); exact lvl_at ">" 4 (by decide +kernel); exact lvl_at "+" 5 (by decide +kernel); exact lvl_at "-" 5 (by decide +kernel); exact lvl_at "*" 6 (by decide +kernel); exact lvl_at "div" 6 (by decide +kernel); exact lvl_at "mod" 6 (by decide +kernel)
  | num n => exact lvl_at "number" 8 (by decide +kernel)
  | text l => exact lvl_at "text" 8 (by decide +kernel)
  | truth b => exact lvl_at "truth" 8 (by decide +kernel)
  | null => exact lvl_at "null" 8 (by decide +kernel)
  | name l => exact lvl_at "name" 8 (by decide +kernel)
  | field l m => exact lvl_at "field" 8 (by decide +kernel)
  | neg a => exact lvl_at "negate" 7 (by decide +kernel)
  | nt a => exact lvl_at "not" 3 (by decide +kernel)
  | f1 m a => cases m; exact lvl_at "length" 8 (by decide +kernel); exact lvl_at "missing" 8 (by decide +kernel)
  | f2 m a b => cases m; exact lvl_at "coalesce" 8 (by decide +kernel); exact lvl_at "starts" 8 (by decide +kernel)
  | f3 a b c => exact lvl_at "if" 8 (by decide +kernel)
theorem add_len {L l : List Nat} (h : L.length + l.length ≤ 5000000) : (⟨L.toArray⟩ : Str).length + (⟨l.toArray⟩ : Str).length ≤ sizeLine := by
  rw [S_len', S_len']
  exact Nat.le_trans h (by decide)
theorem add_eq (L l : List Nat) : (⟨L.toArray⟩ : Str) ++ ⟨l.toArray⟩ = ⟨(L ++ l).toArray⟩ := SX.S_cat L l
def sp_level (K : PySem.W.Frag) : Sp := fun vs H Q _ => ∃ (p : V) (e : Ex), vs = [p] ∧ Dp K H p e.d ∧ ∀ H', Same H H' → Q (.int (e.lev : Nat)) H'
def sp_atom (K : PySem.W.Frag) (n : Nat) : Sp := fun vs H Q _ => ∃ (p : V) (e : Ex), vs = [p] ∧ Dp K H p e.d ∧ e.ok ∧ e.lev = 8 ∧ e.ht < n + 1 ∧ e.ht ≤ 8 ∧ ∀ H', Same H H' → Q (.str ⟨e.pr.toArray⟩) H'
def sp_lpr (K : PySem.W.Frag) (n : Nat) : Sp := fun vs H Q _ => ∃ (p : V) (e : Ex) (k : Nat), vs = [p, .int (k : Nat)] ∧ Dp K H p e.d ∧ e.ok ∧ e.ht < n ∧ e.ht ≤ 8 ∧ k ≤ 7 ∧ ∀ H', Same H H' → Q (.str ⟨(par (decide (e.lev < k)) e.pr).toArray⟩) H'
theorem wd_form (e : Ex) (x : String) (h : (Str.ofString x == e.wd) = false) : decide (V.str e.wd = V.str (Str.ofString x)) = false := by
  refine decide_eq_false fun z => ?_
  rw [V.str.inj z] at h
  have : (Str.ofString x == Str.ofString x) = true := beq_self_eq_true _
  rw [this] at h
  cases h
theorem Bop.lv1 (o : Bop) : 1 ≤ o.lv := by cases o <;> decide
theorem lev1 (e : Ex) : 1 ≤ e.lev := by
  cases e with
  | bin o a b => exact o.lv1
  | nt a => exact (by decide : 1 ≤ 3)
  | neg a => exact (by decide : 1 ≤ 7)
  | _ => exact (by decide : 1 ≤ 8)
theorem par1 (e : Ex) : par (decide (e.lev < 1)) e.pr = e.pr := by
  have := lev1 e
  rw [decide_eq_false (show ¬ e.lev < 1 by omega)]
  rfl
theorem par8 (e : Ex) (k : Nat) (h : e.lev = 8) (hk : k ≤ 7) : par (decide (e.lev < k)) e.pr = e.pr := by
  rw [decide_eq_false (show ¬ e.lev < k by omega)]
  rfl
section
variable {P : Program} {w : World} {K : PySem.W.Frag} {mg : Str → Option Value} {base : Heap}
theorem ok_level {f : Addr} {fd : FuncData} (F : Fun K "_law_level" "_law_level" s__law_level f fd) (M : Mg mg) : FnOk P w K mg base CX0 1 f fd ["expression"] (sp_level K) := by
  refine F.ok sc__law_level (fun vs H Q E h => ?_) (fun cdv A outer s H vs Q E hr h => ?_)
  · obtain ⟨p, e, rfl, _⟩ := h
    rfl
  · obtain ⟨p, e, rfl, he, q⟩ := h
    obtain ⟨a, ys, rfl, hs⟩ := ex_word he
    refine ⟨_, (pss_cons (ps_set (i := 1) sc__law_level.nd rfl (.inl rfl) (pe_disp (pps_cons pe_str pe_int (pps_cons pe_str pe_int (pps_cons pe_str pe_int (pps_cons pe_str pe_int (pps_cons pe_str pe_int (pps_cons pe_str pe_int (pps_cons pe_str pe_int (pps_cons pe_str pe_int (pps_cons pe_str pe_int (pps_cons pe_str pe_int (pps_cons pe_str pe_int (pps_cons pe_str pe_int pps_nil)))))))))))) (by rfl) (by rfl) (fun z => by cases z) (by decide)))
      (pss_cons (ps_dput (hu_of hr) (pv 1) pe_str pe_int rfl)
      (pss_cons (ps_dput (hu_of hr) (pv 1) pe_str pe_int rfl)
      (pss_cons (ps_dput (hu_of hr) (pv 1) pe_str pe_int rfl)
      (pss_one (ps_ret (pe_dget2 (hu_of hr) (pv 1) (pe_ix (ix_tupK K) (pv 0) pe_int (fun _ _ => rfl)) pe_int ⟨rfl, rfl, rfl, rfl⟩))))))), ?_⟩
    refine fun D nD => ?_
    refine ⟨upd_same, LV0, rfl, by decide, ?_⟩
    refine ⟨_, rfl, D, _, rfl, .inl ⟨mergeK [] LV0, .inr "div", upd_same, rfl, by decide +kernel, rfl⟩, ?_⟩
    refine ⟨_, rfl, D, _, rfl, .inl ⟨_, .inr "mod", upd_same, rfl, by decide +kernel, rfl⟩, ?_⟩
    refine ⟨_, rfl, D, _, rfl, .inl ⟨_, .inr "negate", upd_same, rfl, by decide +kernel, rfl⟩, ?_⟩
    refine ⟨_, rfl, D, rfl, .inl ⟨_, .inl upd_same⟩, ?_⟩
    have ss : Same H (upd (upd (upd (upd (upd H D (.dK [])) D (.dK (mergeK [] LV0))) D (.dK (putK (mergeK [] LV0) (.inr "div") (.int 6)))) D (.dK (putK (putK (mergeK [] LV0) (.inr "div") (.int 6)) (.inr "mod") (.int 6)))) D (.dK LVL)) := fun b o z => by
      have nb : b ≠ D := ne_of_none z nD
      rw [upd_ne nb, upd_ne nb, upd_ne nb, upd_ne nb, upd_ne nb]
      exact z
    refine ⟨_, rfl, a, _, _, _, rfl, rfl, SqT.ext ss hs, atI_nat (j := 0) rfl, _, .inl ⟨LVL, .inr e.wd, .inl upd_same, rfl, rfl⟩, ?_⟩
    rw [lvl]
    exact q _ ss
theorem ok_latom {f : Addr} {fd : FuncData} (n : Nat) (F : Fun K "_law_print_atom" "_law_print_atom" s__law_print_atom f fd) (M : Mg mg) (c__law_quoted : Cl P w K mg base 1 "_law_quoted" sp_quoted) (c__law_print : Cl P w K mg base (2 * n + 2) "_law_print" (sp_lpr K n)) : FnOk P w K mg base CX0 (2 * n + 3) f fd ["expression"] (sp_atom K n) := by
  refine F.ok sc__law_print_atom (fun vs H Q E h => ?_) (fun cdv A outer s H vs Q E hr h => ?_)
  · obtain ⟨p, e, rfl, _⟩ := h
    rfl
  · obtain ⟨p, e, rfl, he, ok, h8l, hn, h8, q⟩ := h
    have hlen := pr_le ok h8
    refine ⟨_, (pss_cons (ps_set (i := 1) sc__law_print_atom.nd rfl (.inl rfl) (pe_ix (ix_tupK K) (pv 0) pe_int (fun _ _ => rfl)))
      (pss_cons (ps_if (pt_cmpR op_eq (pv 1) pe_str (nomark _)) (pss_one (ps_ret (pe_callTy call_str_int (by rfl) M.str (by decide +kernel) (pa_cons (pe_ix (ix_tupK K) (pv 0) pe_int (fun _ _ => rfl)) pa_nil)))) pss_nil)
      (pss_cons (ps_if (pt_cmpR op_eq (pv 1) pe_str (nomark _)) (pss_one (ps_ret (pe_u c__law_quoted hr (by first | decide | omega) (by rfl) (pa_cons (pe_ix (ix_tupK K) (pv 0) pe_int (fun _ _ => rfl)) pa_nil)))) pss_nil)
      (pss_cons (ps_if (pt_cmpR op_eq (pv 1) pe_str (nomark _)) (pss_one (ps_ret (pe_ix (ix_listK K) (pe_lst (pa_cons pe_str (pa_cons pe_str pa_nil))) (pe_ix (ix_tupK K) (pv 0) pe_int (fun _ _ => rfl)) (fun _ _ => rfl)))) pss_nil)
      (pss_cons (ps_if (pt_cmpR op_eq (pv 1) pe_str (nomark _)) (pss_one (ps_ret (pe_op op_add_str (pe_op op_add_str (pe_ix (ix_tupK K) (pv 0) pe_int (fun _ _ => rfl)) pe_str) (pe_ix (ix_tupK K) (pv 0) pe_int (fun _ _ => rfl))))) pss_nil)
      (pss_cons (ps_if (pt_cmpR op_eq (pv 1) pe_str (nomark _)) (pss_one (ps_ret (pe_ix (ix_tupK K) (pv 0) pe_int (fun _ _ => rfl)))) pss_nil)
      (pss_cons (ps_if (pt_cmpR op_eq (pv 1) pe_str (nomark _)) (pss_one (ps_ret pe_str)) pss_nil)
      (pss_one (ps_ret (pe_op op_add_str (pe_op op_add_str (pe_op op_add_str (pv 1) pe_str) (pe_join pe_str (pe_lc (own := [("part", 2)]) (g := gName 2) (tt := tYes) rfl sc__law_print_atom.nd (pi_tup (pe_slice sl_tup (pv 0) (po_some pe_int) po_none)) (blkOk_by (N := N__law_print_atom) (sc := defScope s__law_print_atom) (by decide +kernel)) (fun _ _ _ _ _ => (pg_name (i := 2) sc__law_print_atom.nd rfl (.inl rfl))) (fun _ _ _ _ _ => pts_nil) (fun _ _ _ _ _ => (pe_u c__law_print hr (by first | decide | omega) (by rfl) (pa_cons (pv 2) (pa_cons pe_int pa_nil))))))) pe_str)))))))))), ?_⟩
    by_cases hf : e.isf = true
    · rw [fn_d hf] at he
      obtain ⟨a, xs, rfl, hs, ha⟩ := dp_tup he
      obtain ⟨vs, rfl, h2⟩ := dp_cons ha
      obtain ⟨few1, few3⟩ := fn_few hf
      have hall := fn_all hf ok
      obtain ⟨wl, ww⟩ := fn_wd hf
      have ne : ∀ x : String, x ∈ ["number", "text", "truth", "field", "name", "null"] → decide (V.str e.wd = V.str (Str.ofString x)) = false := by
        intro x hx
        refine wd_form e x ?_
        simp only [List.mem_cons, List.not_mem_nil, or_false] at hx
        rcases ww with z | z | z | z | z <;> rw [z] <;> rcases hx with rfl | rfl | rfl | rfl | rfl | rfl <;> decide +kernel
      refine ⟨_, rfl, a, _, _, _, rfl, rfl, hs, atI_nat (j := 0) rfl, ?_⟩
      refine ⟨_, rfl, rfl, _, rfl, ?_⟩
      rw [ne "number" (by decide)]
      refine iteF ⟨_, rfl, rfl, _, rfl, ?_⟩
      rw [ne "text" (by decide)]
      refine iteF ⟨_, rfl, rfl, _, rfl, ?_⟩
      rw [ne "truth" (by decide)]
      refine iteF ⟨_, rfl, rfl, _, rfl, ?_⟩
      rw [ne "field" (by decide)]
      refine iteF ⟨_, rfl, rfl, _, rfl, ?_⟩
      rw [ne "name" (by decide)]
      refine iteF ⟨_, rfl, rfl, _, rfl, ?_⟩
      rw [ne "null" (by decide)]
      refine iteF ?_
      have hw : (⟨e.wd.cps.toList.toArray⟩ : Str) = e.wd := SX.S_tl e.wd
      have hwl : e.wd.cps.toList.length = e.wd.length := Array.length_toList
      have hp := fn_pr hf
      have hl := congrArg List.length hp
      rw [List.length_append, List.length_cons, List.length_append, List.length_singleton] at hl
      refine ⟨_, rfl, ?_⟩
      rw [← hw]
      refine ⟨_, _, rfl, rfl, add_len (l := [40]) (by show _ + 1 ≤ _; omega), ?_⟩
      rw [show (⟨e.wd.cps.toList.toArray⟩ : Str) ++ Str.ofString "(" = (⟨(e.wd.cps.toList ++ [40] : List Nat).toArray⟩ : Str) from add_eq _ [40]]
      refine ⟨⟨_, rfl⟩, _, rfl, _, rfl, a, _, rfl, by rw [hw] at *; exact hs, by show ¬ (1 = 0 ∧ _); exact fun z => absurd z.1 (by decide), fun D1 nD1 => ?_⟩
      have hvs : vs.length = e.fargs.length := by rw [DpAll.len h2, List.length_map]
      have hcut : cutV (V.str e.wd :: vs) (some 1) none = vs := by
        show ((V.str e.wd :: vs).drop 1).take (vs.length + 1 - 1) = vs
        simp
      rw [hcut]
      have s1 := same_upd nD1 (o := .tup vs)
      have hT : SqT K (upd H D1 (.tup vs)) D1 vs := .inl (.inl upd_same)
      refine ⟨D1, rfl, ⟨_, hT⟩, fun D nD => ?_⟩
      refine lc_tup (K := K) (a := D1) (xs := vs) (fun i Hi => Same (upd H D1 (.tup vs)) Hi ∧ Hi D = some (.lst (((e.fargs.take i).map fun e => (⟨e.pr.toArray⟩ : Str)).map V.str))) ⟨same_upd nD, upd_same⟩ (fun i Hi _ hp => SqT.ext hp.1 hT) (fun i x Hi hx hp => ?_) (fun Hn hp => ?_)
      · obtain ⟨si, eD⟩ := hp
        have hi : i < vs.length := (List.getElem?_eq_some_iff.mp hx).1
        have hie : i < e.fargs.length := by omega
        obtain ⟨x', hx', dx⟩ := DpAll.get (i := i) (d := (e.fargs[i]).d) h2 (by rw [List.getElem?_map, List.getElem?_eq_getElem hie]; rfl)
        obtain rfl : x = x' := Option.some.inj (hx.symm.trans hx')
        obtain ⟨xok, xht⟩ := hall _ (List.getElem_mem hie)
        refine ⟨rfl, ?_⟩
        refine ⟨_, rfl, x, e.fargs[i], 1, rfl, Dp.ext (s1.trans si) _ _ dx, xok, by omega, by omega, by decide, fun H' s' => ?_⟩
        rw [par1]
        refine ⟨_, s' _ _ eD, ?_, ?_, ?_⟩
        · rw [List.length_map, List.length_map, List.length_take]
          exact Nat.lt_of_lt_of_le (m := 1001) (by omega) (by decide)
        · intro b o z
          have nb : b ≠ D := ne_of_none z nD
          rw [upd_ne nb]
          exact s' _ _ (si _ _ z)
        · rw [upd_same, List.take_add_one, List.getElem?_eq_getElem hie, List.map_append, List.map_append]
          rfl
      · obtain ⟨sn, eD⟩ := hp
        rw [hvs, List.take_length] at eD
        have hsum := sum_pr e.fargs fun x hx => ⟨(hall x hx).1, by have := (hall x hx).2; omega⟩
        refine ⟨_, D, _, rfl, rfl, .inl (.of eD), ?_, ?_⟩
        · rw [List.length_map]
          show _ + e.fargs.length * 2 ≤ 16777216
          omega
        · rw [join_pr]
          refine ⟨_, _, rfl, rfl, add_len (L := e.wd.cps.toList ++ [40]) (by rw [List.length_append]; show _ + 1 + _ ≤ _; omega), ?_⟩
          rw [add_eq]
          refine ⟨_, _, rfl, rfl, add_len (L := e.wd.cps.toList ++ [40] ++ _) (l := [41]) (by rw [List.length_append, List.length_append]; show _ + 1 + _ + 1 ≤ _; omega), ?_⟩
          rw [show (⟨(e.wd.cps.toList ++ [40] ++ TL.joinL [44, 32] (e.fargs.map Ex.pr) : List Nat).toArray⟩ : Str) ++ Str.ofString ")" = (⟨(e.wd.cps.toList ++ [40] ++ TL.joinL [44, 32] (e.fargs.map Ex.pr) ++ [41] : List Nat).toArray⟩ : Str) from add_eq _ [41]]
          have fin := q Hn ((s1.trans sn))
          rw [hp] at fin
          have he2 : e.wd.cps.toList ++ [40] ++ TL.joinL [44, 32] (e.fargs.map Ex.pr) ++ [41] = e.wd.cps.toList ++ 40 :: (TL.joinL [44, 32] (e.fargs.map Ex.pr) ++ [41]) := by simp
          rw [← he2] at fin
          exact fin
    cases e with
    | num n =>
      obtain ⟨a, xs, rfl, hs, ha⟩ := dp_tup he
      obtain ⟨v, rfl, hv⟩ := dp_two ha
      cases hv
      refine ⟨_, rfl, a, _, _, _, rfl, rfl, hs, atI_nat (j := 0) rfl, ?_⟩
      refine ⟨_, rfl, rfl, _, rfl, iteT ?_⟩
      refine ⟨_, rfl, a, _, _, _, rfl, rfl, hs, atI_nat (j := 1) rfl, _, rfl, num_log ok, ?_⟩
      rw [num_S]
      exact q H (Same.refl H)
    | text l =>
      obtain ⟨a, xs, rfl, hs, ha⟩ := dp_tup he
      obtain ⟨v, rfl, hv⟩ := dp_two ha
      cases hv
      have ol : l.length ≤ 100 := ok.1
      refine ⟨_, rfl, a, _, _, _, rfl, rfl, hs, atI_nat (j := 0) rfl, ?_⟩
      refine ⟨_, rfl, rfl, _, rfl, iteF ?_⟩
      refine ⟨_, rfl, rfl, _, rfl, iteT ?_⟩
      exact ⟨_, rfl, a, _, _, _, rfl, rfl, hs, atI_nat (j := 1) rfl, l, rfl, by omega, q H (Same.refl H)⟩
    | truth b =>
      obtain ⟨a, xs, rfl, hs, ha⟩ := dp_tup he
      obtain ⟨v, rfl, hv⟩ := dp_two ha
      cases hv
      refine ⟨_, rfl, a, _, _, _, rfl, rfl, hs, atI_nat (j := 0) rfl, ?_⟩
      refine ⟨_, rfl, rfl, _, rfl, iteF ?_⟩
      refine ⟨_, rfl, rfl, _, rfl, iteF ?_⟩
      refine ⟨_, rfl, rfl, _, rfl, iteT ?_⟩
      refine ⟨by show 2 ≤ sizeLine; decide, fun D nD => ?_⟩
      have s1 := same_upd nD (o := .lst [.str "false", .str "true"])
      refine ⟨_, rfl, a, _, _, _, rfl, rfl, SqT.ext s1 hs, atI_nat (j := 1) rfl, ?_⟩
      cases b
      · exact ⟨D, _, _, _, rfl, rfl, .of upd_same, atI_nat (j := 0) rfl, q _ s1⟩
      · exact ⟨D, _, _, _, rfl, rfl, .of upd_same, atI_nat (j := 1) rfl, q _ s1⟩
    | null =>
      obtain ⟨a, ys, rfl, hs⟩ := ex_word he
      refine ⟨_, rfl, a, _, _, _, rfl, rfl, hs, atI_nat (j := 0) rfl, ?_⟩
      refine ⟨_, rfl, rfl, _, rfl, iteF ?_⟩
      refine ⟨_, rfl, rfl, _, rfl, iteF ?_⟩
      refine ⟨_, rfl, rfl, _, rfl, iteF ?_⟩
      refine ⟨_, rfl, rfl, _, rfl, iteF ?_⟩
      refine ⟨_, rfl, rfl, _, rfl, iteF ?_⟩
      refine ⟨_, rfl, rfl, _, rfl, iteT ?_⟩
      exact q H (Same.refl H)
    | name l =>
      obtain ⟨a, xs, rfl, hs, ha⟩ := dp_tup he
      obtain ⟨v, rfl, hv⟩ := dp_two ha
      cases hv
      refine ⟨_, rfl, a, _, _, _, rfl, rfl, hs, atI_nat (j := 0) rfl, ?_⟩
      refine ⟨_, rfl, rfl, _, rfl, iteF ?_⟩
      refine ⟨_, rfl, rfl, _, rfl, iteF ?_⟩
      refine ⟨_, rfl, rfl, _, rfl, iteF ?_⟩
      refine ⟨_, rfl, rfl, _, rfl, iteF ?_⟩
      refine ⟨_, rfl, rfl, _, rfl, iteT ?_⟩
      exact ⟨_, rfl, a, _, _, _, rfl, rfl, hs, atI_nat (j := 1) rfl, q H (Same.refl H)⟩
    | field l m =>
      obtain ⟨a, xs, rfl, hs, ha⟩ := dp_tup he
      obtain ⟨v, u, rfl, hv, hu⟩ := dp_three ha
      cases hv
      cases hu
      have ol : l.length ≤ 21 := name_len ok.1
      have om : m.length ≤ 21 := name_len ok.2
      refine ⟨_, rfl, a, _, _, _, rfl, rfl, hs, atI_nat (j := 0) rfl, ?_⟩
      refine ⟨_, rfl, rfl, _, rfl, iteF ?_⟩
      refine ⟨_, rfl, rfl, _, rfl, iteF ?_⟩
      refine ⟨_, rfl, rfl, _, rfl, iteF ?_⟩
      refine ⟨_, rfl, rfl, _, rfl, iteT ?_⟩
      refine ⟨_, rfl, a, _, _, _, rfl, rfl, hs, atI_nat (j := 1) rfl, ?_⟩
      refine ⟨_, _, rfl, rfl, add_len (l := [46]) (by show l.length + 1 ≤ _; omega), ?_⟩
      rw [show (⟨l.toArray⟩ : Str) ++ Str.ofString "." = (⟨(l ++ [46] : List Nat).toArray⟩ : Str) from SX.S_cat l [46]]
      refine ⟨_, rfl, a, _, _, _, rfl, rfl, hs, atI_nat (j := 2) rfl, ?_⟩
      refine ⟨_, _, rfl, rfl, add_len (L := l ++ [46]) (l := m) (by rw [List.length_append]; show l.length + 1 + _ ≤ _; omega), ?_⟩
      rw [add_eq (l ++ [46]) m]
      have fin := q H (Same.refl H)
      rw [show (Ex.field l m).pr = l ++ [46] ++ m by show l ++ 46 :: m = _; simp] at fin
      exact fin
    | neg x => cases h8l
    | nt x => cases h8l
    | bin o x y => cases o <;> cases h8l
    | _ => exact absurd rfl hf
theorem ok_lpr {f : Addr} {fd : FuncData} (n : Nat) (F : Fun K "_law_print" "_law_print" s__law_print f fd) (M : Mg mg) (c__law_level : Cl P w K mg base 1 "_law_level" (sp_level K)) (c__law_print : Cl P w K mg base (2 * n + 2) "_law_print" (sp_lpr K n)) (c__law_print_atom : Cl P w K mg base (2 * n + 3) "_law_print_atom" (sp_atom K n)) : FnOk P w K mg base CX0 (2 * n + 4) f fd ["expression", "wanted"] (sp_lpr K (n + 1)) := by
  refine F.ok sc__law_print (fun vs H Q E h => ?_) (fun cdv A outer s H vs Q E hr h => ?_)
  · obtain ⟨p, e, k, rfl, _⟩ := h
    rfl
  · obtain ⟨p, e, k, rfl, he, ok, hn, h8, hk, q⟩ := h
    have hlen := pr_le ok h8
    obtain ⟨t, ht, hq⟩ : ∃ t, PSs (cxOf CX0 P w K mg base N__law_print "_law_print" (defScope s__law_print) f cdv A outer s H E).nox ((defBody s__law_print).drop 3) t ∧ ∀ (H' : Hp) (y : Option V), Same H H' → t { nx := fun _ H' => Q .non H', rt := Q } [some p, some (.int (k : Nat)), some (.int (e.lev : Nat)), some (.str ⟨e.pr.toArray⟩), y] H' := by
      refine ⟨_, (pss_cons (ps_if (pt_cmpR op_lt (pv 2) (pv 1) (nomark _)) (pss_one (ps_ret (pe_op op_add_str (pe_op op_add_str pe_str (pv 3)) pe_str))) pss_nil)
      (pss_one (ps_ret (pv 3)))), fun H' y s' => ?_⟩
      have fin := q H' s'
      refine ⟨_, rfl, _, rfl, _, _, rfl, rfl, _, rfl, ite2 (fun z => ?_) (fun z => ?_)⟩
      · have z1 : ((e.lev : Nat) : Int) < ((k : Nat) : Int) := of_decide_eq_true z
        have z2 : decide (e.lev < k) = true := decide_eq_true (by omega)
        rw [z2] at fin
        refine ⟨_, rfl, _, _, rfl, rfl, add_len (L := [40]) (by show 1 + _ ≤ _; omega), ?_⟩
        rw [show Str.ofString "(" ++ (⟨e.pr.toArray⟩ : Str) = (⟨([40] ++ e.pr : List Nat).toArray⟩ : Str) from add_eq [40] _]
        refine ⟨_, _, rfl, rfl, add_len (L := [40] ++ e.pr) (l := [41]) (by rw [List.length_append]; show 1 + _ + 1 ≤ _; omega), ?_⟩
        rw [show (⟨([40] ++ e.pr : List Nat).toArray⟩ : Str) ++ Str.ofString ")" = (⟨([40] ++ e.pr ++ [41] : List Nat).toArray⟩ : Str) from add_eq _ [41]]
        exact fin
      · have z1 : ¬ ((e.lev : Nat) : Int) < ((k : Nat) : Int) := fun y => z (decide_eq_true y)
        have z2 : decide (e.lev < k) = false := decide_eq_false (by omega)
        rw [z2] at fin
        exact ⟨_, rfl, fin⟩
    refine ⟨_, (pss_cons (ps_set (i := 2) sc__law_print.nd rfl (.inl rfl) (pe_u c__law_level hr (by first | decide | omega) (by rfl) (pa_cons (pv 0) pa_nil)))
      (pss_cons (ps_if (pt_cmpR op_eq (pv 2) pe_int (nomark _)) (pss_one (ps_ret (pe_u c__law_print_atom hr (by first | decide | omega) (by rfl) (pa_cons (pv 0) pa_nil)))) pss_nil)
      (pss_cons (ps_if (pt_cmpR op_eq (pv 2) pe_int (nomark _)) (pss_one (ps_set (i := 3) sc__law_print.nd rfl (.inl rfl) (pe_op op_add_str pe_str (pe_u c__law_print hr (by first | decide | omega) (by rfl) (pa_cons (pe_ix (ix_tupK K) (pv 0) pe_int (fun _ _ => rfl)) (pa_cons pe_int pa_nil)))))) (pss_one (ps_if (pt_cmpR op_eq (pv 2) pe_int (nomark _)) (pss_one (ps_set (i := 3) sc__law_print.nd rfl (.inl rfl) (pe_op op_add_str pe_str (pe_u c__law_print hr (by first | decide | omega) (by rfl) (pa_cons (pe_ix (ix_tupK K) (pv 0) pe_int (fun _ _ => rfl)) (pa_cons pe_int pa_nil)))))) (pss_cons (ps_set (i := 4) sc__law_print.nd rfl (.inl rfl) (pe_u c__law_print hr (by first | decide | omega) (by rfl) (pa_cons (pe_ix (ix_tupK K) (pv 0) pe_int (fun _ _ => rfl)) (pa_cons (pe_op op_add (pv 2) (pe_callTy call_int1 (by rfl) M.int (by decide +kernel) (pa_cons (pe_cmpR op_eq (pv 2) pe_int (nomark _)) pa_nil))) pa_nil))))
      (pss_one (ps_set (i := 3) sc__law_print.nd rfl (.inl rfl) (pe_op op_add_str (pe_op op_add_str (pe_op op_add_str (pe_op op_add_str (pv 4) pe_str) (pe_ix (ix_tupK K) (pv 0) pe_int (fun _ _ => rfl))) pe_str) (pe_u c__law_print hr (by first | decide | omega) (by rfl) (pa_cons (pe_ix (ix_tupK K) (pv 0) pe_int (fun _ _ => rfl)) (pa_cons (pe_op op_add (pv 2) pe_int) pa_nil))))))))))
      ht))), ?_⟩
    refine ⟨_, rfl, p, e, rfl, he, fun H1 s1 => ?_⟩
    have he1 := Dp.ext s1 _ _ he
    by_cases h8l : e.lev = 8
    · refine ⟨_, rfl, rfl, _, rfl, ?_⟩
      rw [h8l]
      refine iteT ⟨_, rfl, p, e, rfl, he1, ok, h8l, hn, h8, fun H2 s2 => ?_⟩
      have fin := q H2 (s1.trans s2)
      rw [par8 e k h8l hk] at fin
      exact fin
    refine ⟨_, rfl, rfl, _, rfl, ?_⟩
    rw [show decide (V.int (e.lev : Nat) = V.int 8) = false from decide_eq_false fun z => h8l (by have := V.int.inj z; omega)]
    refine iteF ?_
    cases e with
    | num n => exact absurd rfl h8l
    | text n => exact absurd rfl h8l
    | truth n => exact absurd rfl h8l
    | null => exact absurd rfl h8l
    | name n => exact absurd rfl h8l
    | field n m => exact absurd rfl h8l
    | f1 m a => exact absurd rfl h8l
    | f2 m a b => exact absurd rfl h8l
    | f3 a b c => exact absurd rfl h8l
    | neg x =>
      obtain ⟨a, xs, rfl, hs, ha⟩ := dp_tup he1
      obtain ⟨v, rfl, hv⟩ := dp_two ha
      have hx : x.ht + 1 < n + 1 := hn
      have hx8 : x.ht + 1 ≤ 8 := h8
      have pl := par_len (decide (x.lev < 7)) x.pr
      have xl := pr_le (e := x) ok (by omega)
      refine ⟨_, rfl, rfl, _, rfl, iteT ?_⟩
      refine ⟨_, rfl, a, _, _, _, rfl, rfl, hs, atI_nat (j := 1) rfl, v, x, 7, rfl, hv, ok, by omega, by omega, by decide, fun H' s' => ?_⟩
      refine ⟨_, _, rfl, rfl, add_len (L := [45]) (by show 1 + _ ≤ _; omega), ?_⟩
      rw [show Str.ofString "-" ++ (⟨(par (decide (x.lev < 7)) x.pr).toArray⟩ : Str) = (⟨([45] ++ par (decide (x.lev < 7)) x.pr : List Nat).toArray⟩ : Str) from add_eq [45] _]
      exact hq H' _ (s1.trans s')
    | nt x =>
      obtain ⟨a, xs, rfl, hs, ha⟩ := dp_tup he1
      obtain ⟨v, rfl, hv⟩ := dp_two ha
      have hx : x.ht + 1 < n + 1 := hn
      have hx8 : x.ht + 1 ≤ 8 := h8
      have pl := par_len (decide (x.lev < 3)) x.pr
      have xl := pr_le (e := x) ok (by omega)
      refine ⟨_, rfl, rfl, _, rfl, iteF ?_⟩
      refine ⟨_, rfl, rfl, _, rfl, iteT ?_⟩
      refine ⟨_, rfl, a, _, _, _, rfl, rfl, hs, atI_nat (j := 1) rfl, v, x, 3, rfl, hv, ok, by omega, by omega, by decide, fun H' s' => ?_⟩
      refine ⟨_, _, rfl, rfl, add_len (L := codes "not ") (by rw [show (codes "not ").length = 4 by decide]; omega), ?_⟩
      rw [show Str.ofString "not " ++ (⟨(par (decide (x.lev < 3)) x.pr).toArray⟩ : Str) = (⟨(codes "not " ++ par (decide (x.lev < 3)) x.pr : List Nat).toArray⟩ : Str) from add_eq (codes "not ") _]
      exact hq H' _ (s1.trans s')
    | bin o x y =>
      obtain ⟨a, xs, rfl, hs, ha⟩ := dp_tup he1
      obtain ⟨v, u, rfl, hv, hu⟩ := dp_three ha
      have hx : max x.ht y.ht + 1 < n + 1 := hn
      have hx8 : max x.ht y.ht + 1 ≤ 8 := h8
      have pl1 := par_len (decide (x.lev < o.lf)) x.pr
      have pl2 := par_len (decide (y.lev < o.rt)) y.pr
      have xl := pr_le (e := x) ok.1 (by omega)
      have yl := pr_le (e := y) ok.2 (by omega)
      have ol := o.sl
      have o7 : o.lv ≠ 7 ∧ o.lv ≠ 3 ∧ o.lf ≤ 7 ∧ o.rt = o.lv + 1 ∧ o.rt ≤ 7 ∧ o.lf = (if o.lv = 4 then o.lv + 1 else o.lv) := by cases o <;> decide
      obtain ⟨o7, o3, lf7, rtv, rt7, lfv⟩ := o7
      refine ⟨_, rfl, rfl, _, rfl, ?_⟩
      rw [show decide (V.int ((Ex.bin o x y).lev : Nat) = V.int 7) = false from decide_eq_false fun z => o7 (by have := V.int.inj z; show (Ex.bin o x y).lev = 7; omega)]
      refine iteF ⟨_, rfl, rfl, _, rfl, ?_⟩
      rw [show decide (V.int ((Ex.bin o x y).lev : Nat) = V.int 3) = false from decide_eq_false fun z => o3 (by have := V.int.inj z; show (Ex.bin o x y).lev = 3; omega)]
      refine iteF ?_
      have e4 : ∀ v : V, [v, V.int (((Ex.bin o x y).lev : Nat) + (if decide (V.int ((Ex.bin o x y).lev : Nat) = V.int 4) = true then 1 else 0))] = [v, V.int (o.lf : Nat)] := fun v => by cases o <;> rfl
      have e1 : ∀ v : V, [v, V.int (((Ex.bin o x y).lev : Nat) + 1)] = [v, V.int (o.rt : Nat)] := fun v => by cases o <;> rfl
      refine ⟨_, rfl, a, _, _, _, rfl, rfl, hs, atI_nat (j := 1) rfl, _, rfl, _, rfl, rfl, .inr ⟨_, rfl, _, _, rfl, rfl, v, x, o.lf, e4 v, hv, ok.1, by omega, by omega, lf7, fun H2 s2 => ?_⟩⟩
      have hs2 := SqT.ext s2 hs
      refine ⟨_, rfl, _, _, rfl, rfl, add_len (l := [32]) (by show _ + 1 ≤ _; omega), ?_⟩
      rw [show (⟨(par (decide (x.lev < o.lf)) x.pr).toArray⟩ : Str) ++ Str.ofString " " = (⟨(par (decide (x.lev < o.lf)) x.pr ++ [32] : List Nat).toArray⟩ : Str) from add_eq _ [32]]
      have ow : o.w = ⟨(codes o.s).toArray⟩ := codes_S _
      rw [ow] at hs2
      refine ⟨_, rfl, a, _, _, _, rfl, rfl, hs2, atI_nat (j := 0) rfl, _, _, rfl, rfl, add_len (by rw [List.length_append]; show _ + 1 + _ ≤ _; omega), ?_⟩
      rw [add_eq]
      refine ⟨_, _, rfl, rfl, add_len (l := [32]) (by rw [List.length_append, List.length_append]; show _ + 1 + _ + 1 ≤ _; omega), ?_⟩
      rw [show (⟨(par (decide (x.lev < o.lf)) x.pr ++ [32] ++ codes o.s : List Nat).toArray⟩ : Str) ++ Str.ofString " " = (⟨(par (decide (x.lev < o.lf)) x.pr ++ [32] ++ codes o.s ++ [32] : List Nat).toArray⟩ : Str) from add_eq _ [32]]
      refine ⟨_, rfl, a, _, _, _, rfl, rfl, hs2, atI_nat (j := 2) rfl, _, rfl, _, _, rfl, rfl, u, y, o.rt, e1 u, Dp.ext s2 _ _ hu, ok.2, by omega, by omega, rt7, fun H3 s3 => ?_⟩
      refine ⟨_, _, rfl, rfl, add_len (by simp only [List.length_append]; show _ + 1 + _ + 1 + _ ≤ _; omega), ?_⟩
      rw [add_eq]
      have fin := hq H3 (some (.str ⟨(par (decide (x.lev < o.lf)) x.pr).toArray⟩)) ((s1.trans s2).trans s3)
      have e2 : (Ex.bin o x y).pr = par (decide (x.lev < o.lf)) x.pr ++ [32] ++ codes o.s ++ [32] ++ par (decide (y.lev < o.rt)) y.pr := by
        show par _ _ ++ 32 :: (codes o.s ++ 32 :: par _ _) = _
        simp
      rw [e2] at fin
      exact fin
theorem cl_lpr {f fa : Addr} {fd da : FuncData} (F : Fun K "_law_print" "_law_print" s__law_print f fd) (FA : Fun K "_law_print_atom" "_law_print_atom" s__law_print_atom fa da) (M : Mg mg) (g : mg "_law_print" = some (.ref f)) (b : Binds K fd ["expression", "wanted"] []) (ga : mg "_law_print_atom" = some (.ref fa)) (ba : Binds K da ["expression"] []) (c__law_level : Cl P w K mg base 1 "_law_level" (sp_level K)) (c__law_quoted : Cl P w K mg base 1 "_law_quoted" sp_quoted) : ∀ n, Cl P w K mg base (2 * n + 2) "_law_print" (sp_lpr K n)
  | 0 => FnOk.cl (P := P) (w := w) (base := base) (F.ok sc__law_print (fun vs H Q E h => by obtain ⟨p, e, k, rfl, _⟩ := h; rfl) (fun cdv A outer s H vs Q E hr h => by obtain ⟨p, e, k, rfl, _, _, hm, _⟩ := h; omega)) F g b
  | n + 1 => FnOk.cl (ok_lpr n F M c__law_level (cl_lpr F FA M g b ga ba c__law_level c__law_quoted n) (FnOk.cl (ok_latom n FA M c__law_quoted (cl_lpr F FA M g b ga ba c__law_level c__law_quoted n)) FA ga ba)) F g b
end

/-! ### queries in the heap, and their texts -/
/-- what stands stands, but for lists that L doesn't hold -/
def Ch (L : Addr → Prop) (H H' : Hp) : Prop := ∀ b o, H b = some o → (∃ xs, o = .lst xs ∧ ¬ L b) ∨ H' b = some o
theorem Ch.of {L : Addr → Prop} {H H' : Hp} (h : Same H H') : Ch L H H' := fun b o e => .inr (h b o e)
theorem Ch.trans {L : Addr → Prop} {H H1 H2 : Hp} (a : Ch L H H1) (b : Ch L H1 H2) : Ch L H H2 := fun c o e => by
  rcases a c o e with h | h
  · exact .inl h
  · exact b c o h
theorem Ch.fd {L : Addr → Prop} {H H' : Hp} {d : Addr} (hD : ∃ zs, H d = some (.lst zs)) (hL : ¬ L d) (h : Fd d H H') : Ch L H H' := fun b o e => by
  by_cases n : b = d
  · subst n
    obtain ⟨zs, hz⟩ := hD
    rw [hz] at e
    cases e
    exact .inl ⟨zs, rfl, hL⟩
  · exact .inr (h b o n e)
theorem Ch.lst {L : Addr → Prop} {H H' : Hp} {a : Addr} {xs : List V} (h : Ch L H H') (e : H a = some (.lst xs)) (hL : L a) : H' a = some (.lst xs) := by
  rcases h a _ e with ⟨_, _, n⟩ | h
  · exact absurd hL n
  · exact h
theorem Ch.tup {L : Addr → Prop} {K : PySem.W.Frag} {H H' : Hp} {a : Addr} {xs : List V} (e : Ch L H H') (h : SqT K H a xs) : SqT K H' a xs := by
  rcases h with (h | ⟨o, h⟩) | h
  · rcases e _ _ h with ⟨_, z, _⟩ | h
    · cases z
    · exact .inl (.inl h)
  · rcases e _ _ h with ⟨_, z, _⟩ | h
    · cases z
    · exact .inl (.inr ⟨o, h⟩)
  · exact .inr h
mutual
theorem Dp.ch {L : Addr → Prop} {K : PySem.W.Frag} {H H' : Hp} (e : Ch L H H') : ∀ (d : PyData) (v : V), tupOnly d = true → Dp K H v d → Dp K H' v d
  | .none, _, _, h => by cases h; exact .non
  | .bool b, _, _, h => by cases h; exact .bl b
  | .int i, _, _, h => by cases h; exact .int i
  | .str x, _, _, h => by cases h; exact .str x
  | .list ds, _, e, _ => by unfold tupOnly at e; cases e
  | .tuple ds, _, e', h => by
    unfold tupOnly at e'
    cases h with
    | tup hs ha => exact .tup (e.tup hs) (DpAll.ch e ds _ e' ha)
  | .dict _, _, _, h => by cases h
theorem DpAll.ch {L : Addr → Prop} {K : PySem.W.Frag} {H H' : Hp} (e : Ch L H H') : ∀ (ds : List PyData) (vs : List V), tupOnlys ds = true → DpAll K H vs ds → DpAll K H' vs ds
  | [], _, _, h => by cases h; exact .nil
  | d :: ds, _, e', h => by
    unfold tupOnlys at e'
    rw [Bool.and_eq_true] at e'
    cases h with
    | cons h1 h2 => exact .cons (Dp.ch e d _ e'.1 h1) (DpAll.ch e ds _ e'.2 h2)
end
inductive F2 {β : Type} (R : V → β → Prop) : List V → List β → Prop where
  | nil : F2 R [] []
  | cons {v : V} {t : β} {vs : List V} {ts : List β} (h : R v t) (r : F2 R vs ts) : F2 R (v :: vs) (t :: ts)
theorem F2.imp {β : Type} {R R' : V → β → Prop} (i : ∀ v t, R v t → R' v t) {vs : List V} {ts : List β} (h : F2 R vs ts) : F2 R' vs ts := by
  induction h with
  | nil => exact .nil
  | cons h _ ih => exact .cons (i _ _ h) ih
theorem F2.len {β : Type} {R : V → β → Prop} {vs : List V} {ts : List β} (h : F2 R vs ts) : vs.length = ts.length := by
  induction h with
  | nil => rfl
  | cons _ _ ih => rw [List.length_cons, List.length_cons, ih]
theorem F2.snoc {β : Type} {R : V → β → Prop} {vs : List V} {ts : List β} {v : V} {t : β} (h : F2 R vs ts) (k : R v t) : F2 R (vs ++ [v]) (ts ++ [t]) := by
  induction h with
  | nil => exact .cons k .nil
  | cons h _ ih => exact .cons h ih
theorem F2.get {β : Type} {R : V → β → Prop} {vs : List V} {ts : List β} (h : F2 R vs ts) : ∀ {i : Nat} {v : V}, vs[i]? = some v → ∃ t, ts[i]? = some t ∧ R v t := by
  induction h with
  | nil => intro i v e; simp at e
  | @cons v t vs ts h _ ih =>
    intro i u e
    cases i with
    | zero =>
      have : v = u := Option.some.inj e
      subst this
      exact ⟨t, rfl, h⟩
    | succ i => exact ih (i := i) (by simpa using e)
def jl (s : List Nat) (ls : List (List Nat)) : List Nat := TL.joinL s ls
def suml (ls : List (List Nat)) : Nat := (ls.map List.length).sum
theorem jl_len (s : List Nat) : ∀ ls : List (List Nat), (jl s ls).length ≤ suml ls + ls.length * s.length
  | [] => Nat.zero_le _
  | [p] => by
    show p.length ≤ p.length + 0 + 1 * s.length
    omega
  | p :: q :: r => by
    have := jl_len s (q :: r)
    show (p ++ (s ++ jl s (q :: r))).length ≤ p.length + suml (q :: r) + ((q :: r).length + 1) * s.length
    rw [List.length_append, List.length_append, Nat.add_mul]
    omega
theorem suml_le {b : Nat} : ∀ {ls : List (List Nat)}, (∀ l ∈ ls, l.length ≤ b) → suml ls ≤ ls.length * b
  | [], _ => Nat.zero_le _
  | l :: ls, h => by
    have h1 := h l (List.mem_cons_self ..)
    have := suml_le (b := b) (ls := ls) fun x hx => h x (List.mem_cons_of_mem _ hx)
    show l.length + suml ls ≤ (ls.length + 1) * b
    rw [Nat.add_mul]
    omega
theorem suml_app (a b : List (List Nat)) : suml (a ++ b) = suml a + suml b := by
  unfold suml
  rw [List.map_append, List.sum_append]
/-- texts on the heap, joined -/
theorem jl_S (s : List Nat) (ls : List (List Nat)) : Txt.join ⟨s.toArray⟩ (ls.map fun l => (⟨l.toArray⟩ : Str)) = ⟨(jl s ls).toArray⟩ := SX.join_S s ls
theorem lens_S (ls : List (List Nat)) : ((ls.map fun l => (⟨l.toArray⟩ : Str)).map (·.length)).sum = suml ls := by
  unfold suml
  rw [List.map_map]
  exact congrArg List.sum (List.map_congr_left fun l _ => S_len' l)
def outT (e : Ex) (l : List Nat) : List Nat := if e.last = some l then e.pr else e.pr ++ (codes " as " ++ l)
def RO (K : PySem.W.Frag) (H : Hp) (v : V) (t : List Nat) : Prop := ∃ a x e l, v = .ref a ∧ SqT K H a [x, tx l] ∧ Dp K H x (Ex.d e) ∧ e.ok ∧ e.ht ≤ 2 ∧ NmOk l ∧ t = outT e l
def RTo (K : PySem.W.Frag) (H : Hp) (v : V) (t : List Nat) : Prop := ∃ a f l, v = .ref a ∧ SqT K H a [.ref f, tx l] ∧ NmOk l ∧
  ((SqT K H f [.str "count"] ∧ t = codes "count" ++ (codes " as " ++ l)) ∨ ∃ w x e, w ∈ AGG ∧ SqT K H f [.str (Str.ofString w), x] ∧ Dp K H x (Ex.d e) ∧ e.ok ∧ e.ht ≤ 2 ∧ t = codes w ++ 40 :: (e.pr ++ 41 :: (codes " as " ++ l)))
def Rl {β : Type} (L : Addr → Prop) (R : V → β → Prop) (H : Hp) (v : V) (ts : List β) : Prop := ∃ a xs, v = .ref a ∧ L a ∧ H a = some (.lst xs) ∧ F2 R xs ts
def ROp (RQ : V → List (List Nat) → Prop) (K : PySem.W.Frag) (H : Hp) (v : V) (t : List Nat) : Prop := ∃ a, v = .ref a ∧
  ((∃ l m, SqT K H a [.str "named", tx l, tx m] ∧ NmOk l ∧ NmOk m ∧ t = if l = m then l else l ++ (codes " as " ++ m)) ∨
    ∃ q ls m, SqT K H a [.str "inside", q, tx m] ∧ NmOk m ∧ RQ q ls ∧ t = 40 :: (jl [32] ls ++ 41 :: (codes " as " ++ m)))
def joiT (s : String) : String := if s = "inner" then "join" else s ++ " join"
def grT (ts us : List (List Nat)) : List Nat := jl [32] ((codes "group" :: (if ts = [] then [] else [jl [44, 32] ts])) ++ (if us = [] then [] else [codes "with", jl [44, 32] us]))
def RSt (RP : V → List Nat → Prop) (L : Addr → Prop) (K : PySem.W.Frag) (H : Hp) (v : V) (t : List Nat) : Prop := ∃ a, v = .ref a ∧
  ((∃ s o x e u, s ∈ JOI ∧ SqT K H a [.str "join", .str (Str.ofString s), o, x] ∧ RP o u ∧ Dp K H x (Ex.d e) ∧ e.ok ∧ e.ht ≤ 2 ∧ t = codes (joiT s) ++ 32 :: (u ++ (codes " on " ++ e.pr))) ∨
    (∃ x e, SqT K H a [.str "where", x] ∧ Dp K H x (Ex.d e) ∧ e.ok ∧ e.ht ≤ 2 ∧ t = codes "where " ++ e.pr) ∨
    (∃ o ts, SqT K H a [.str "select", o] ∧ Rl L (RO K H) H o ts ∧ ts.length ≤ 3 ∧ t = codes "select " ++ jl [44, 32] ts ∧ ts ≠ []) ∨
    ∃ o p ts us, SqT K H a [.str "group", o, p] ∧ Rl L (RO K H) H o ts ∧ Rl L (RTo K H) H p us ∧ ts.length ≤ 3 ∧ us.length ≤ 3 ∧ t = grT ts us ∧ (ts ≠ [] ∨ us ≠ []))
/-- just the first chain begins with from -/
def isFr : List (List Nat) → Bool
  | (102 :: _) :: _ => true
  | _ => false
def FstOk (css : List (List (List Nat))) : Prop := ∀ (i : Nat) (c : List (List Nat)), css[i]? = some c → isFr c = decide (i = 0)
def RHow (v : V) (l : List Nat) : Prop := (v = .non ∧ l = []) ∨ ∃ s ∈ SETS, v = .str (Str.ofString s) ∧ l = codes s ++ [32]
def RC (RP RS : V → List Nat → Prop) (L : Addr → Prop) (K : PySem.W.Frag) (H : Hp) (v : V) (ls : List (List Nat)) : Prop := ∃ a b how l o p u ts, v = .ref a ∧ SqT K H a [how, .ref b] ∧ SqT K H b [o, p] ∧ RHow how l ∧ RP o u ∧ Rl L RS H p ts ∧ ts.length ≤ 3 ∧ ls = (l ++ (codes "from " ++ u)) :: ts
def RQ (L : Addr → Prop) (K : PySem.W.Frag) (H : Hp) : Nat → V → List (List Nat) → Prop
  | 0, _, _ => False
  | n + 1, v, ls => ∃ css, Rl L (RC (ROp (RQ L K H n) K H) (RSt (ROp (RQ L K H n) K H) L K H) L K H) H v css ∧ css.length ≤ 2 ∧ ls = css.flatten ∧ css ≠ [] ∧ FstOk css
/-! they stand when other lists are changed -/
section
variable {L : Addr → Prop} {K : PySem.W.Frag} {H H' : Hp}
theorem RO.ch (c : Ch L H H') {v : V} {t : List Nat} (h : RO K H v t) : RO K H' v t := by
  obtain ⟨a, x, e, l, h1, h2, h3, r⟩ := h
  exact ⟨a, x, e, l, h1, c.tup h2, Dp.ch c _ _ (ex_only e) h3, r⟩
theorem RTo.ch (c : Ch L H H') {v : V} {t : List Nat} (h : RTo K H v t) : RTo K H' v t := by
  obtain ⟨a, f, l, h1, h2, h3, h | ⟨w, x, e, h4, h5, h6, r⟩⟩ := h
  · exact ⟨a, f, l, h1, c.tup h2, h3, .inl ⟨c.tup h.1, h.2⟩⟩
  · exact ⟨a, f, l, h1, c.tup h2, h3, .inr ⟨w, x, e, h4, c.tup h5, Dp.ch c _ _ (ex_only e) h6, r⟩⟩
theorem Rl.ch {β : Type} {R R' : V → β → Prop} (c : Ch L H H') (i : ∀ v t, R v t → R' v t) {v : V} {ts : List β} (h : Rl L R H v ts) : Rl L R' H' v ts := by
  obtain ⟨a, xs, h1, h2, h3, h4⟩ := h
  exact ⟨a, xs, h1, h2, c.lst h3 h2, h4.imp i⟩
theorem ROp.ch {Rq Rq' : V → List (List Nat) → Prop} (c : Ch L H H') (i : ∀ v t, Rq v t → Rq' v t) {v : V} {t : List Nat} (h : ROp Rq K H v t) : ROp Rq' K H' v t := by
  obtain ⟨a, h1, ⟨l, m, h2, r⟩ | ⟨q, ls, m, h2, h3, h4, r⟩⟩ := h
  · exact ⟨a, h1, .inl ⟨l, m, c.tup h2, r⟩⟩
  · exact ⟨a, h1, .inr ⟨q, ls, m, c.tup h2, h3, i _ _ h4, r⟩⟩
theorem RSt.ch {Rp Rp' : V → List Nat → Prop} (c : Ch L H H') (i : ∀ v t, Rp v t → Rp' v t) {v : V} {t : List Nat} (h : RSt Rp L K H v t) : RSt Rp' L K H' v t := by
  obtain ⟨a, h1, ⟨s, o, x, e, u, hs, h2, h3, h4, r⟩ | ⟨x, e, h2, h3, r⟩ | ⟨o, ts, h2, h3, r⟩ | ⟨o, p, ts, us, h2, h3, h4, r⟩⟩ := h
  · exact ⟨a, h1, .inl ⟨s, o, x, e, u, hs, c.tup h2, i _ _ h3, Dp.ch c _ _ (ex_only e) h4, r⟩⟩
  · exact ⟨a, h1, .inr (.inl ⟨x, e, c.tup h2, Dp.ch c _ _ (ex_only e) h3, r⟩)⟩
  · exact ⟨a, h1, .inr (.inr (.inl ⟨o, ts, c.tup h2, h3.ch c fun _ _ z => z.ch c, r⟩))⟩
  · exact ⟨a, h1, .inr (.inr (.inr ⟨o, p, ts, us, c.tup h2, h3.ch c fun _ _ z => z.ch c, h4.ch c fun _ _ z => z.ch c, r⟩))⟩
theorem RC.ch {Rp Rp' Rs Rs' : V → List Nat → Prop} (c : Ch L H H') (i : ∀ v t, Rp v t → Rp' v t) (j : ∀ v t, Rs v t → Rs' v t) {v : V} {ls : List (List Nat)} (h : RC Rp Rs L K H v ls) : RC Rp' Rs' L K H' v ls := by
  obtain ⟨a, b, how, l, o, p, u, ts, h1, h2, h3, h4, h5, h6, r⟩ := h
  exact ⟨a, b, how, l, o, p, u, ts, h1, c.tup h2, c.tup h3, h4, i _ _ h5, h6.ch c j, r⟩
theorem RQ.ch (c : Ch L H H') : ∀ (n : Nat) (v : V) (ls : List (List Nat)), RQ L K H n v ls → RQ L K H' n v ls
  | 0, _, _, h => h.elim
  | n + 1, _, _, ⟨css, h1, r⟩ => ⟨css, h1.ch c fun _ _ z => z.ch c (fun _ _ y => y.ch c (RQ.ch c n)) fun _ _ y => y.ch c fun _ _ x => x.ch c (RQ.ch c n), r⟩
/-! and are the same under a wider L -/
variable {L' : Addr → Prop}
theorem Rl.wide {β : Type} {R R' : V → β → Prop} (w : ∀ a, L a → L' a) (i : ∀ v t, R v t → R' v t) {v : V} {ts : List β} (h : Rl L R H v ts) : Rl L' R' H v ts := by
  obtain ⟨a, xs, h1, h2, h3, h4⟩ := h
  exact ⟨a, xs, h1, w _ h2, h3, h4.imp i⟩
theorem ROp.wide {Rq Rq' : V → List (List Nat) → Prop} (i : ∀ v t, Rq v t → Rq' v t) {v : V} {t : List Nat} (h : ROp Rq K H v t) : ROp Rq' K H v t := by
  obtain ⟨a, h1, ⟨l, m, h2, r⟩ | ⟨q, ls, m, h2, h3, h4, r⟩⟩ := h
  · exact ⟨a, h1, .inl ⟨l, m, h2, r⟩⟩
  · exact ⟨a, h1, .inr ⟨q, ls, m, h2, h3, i _ _ h4, r⟩⟩
theorem RSt.wide (w : ∀ a, L a → L' a) {Rp Rp' : V → List Nat → Prop} (i : ∀ v t, Rp v t → Rp' v t) {v : V} {t : List Nat} (h : RSt Rp L K H v t) : RSt Rp' L' K H v t := by
  obtain ⟨a, h1, ⟨s, o, x, e, u, hs, h2, h3, h4, r⟩ | ⟨x, e, h2, h3, r⟩ | ⟨o, ts, h2, h3, r⟩ | ⟨o, p, ts, us, h2, h3, h4, r⟩⟩ := h
  · exact ⟨a, h1, .inl ⟨s, o, x, e, u, hs, h2, i _ _ h3, h4, r⟩⟩
  · exact ⟨a, h1, .inr (.inl ⟨x, e, h2, h3, r⟩)⟩
  · exact ⟨a, h1, .inr (.inr (.inl ⟨o, ts, h2, h3.wide w fun _ _ z => z, r⟩))⟩
  · exact ⟨a, h1, .inr (.inr (.inr ⟨o, p, ts, us, h2, h3.wide w fun _ _ z => z, h4.wide w fun _ _ z => z, r⟩))⟩
theorem RC.wide (w : ∀ a, L a → L' a) {Rp Rp' Rs Rs' : V → List Nat → Prop} (i : ∀ v t, Rp v t → Rp' v t) (j : ∀ v t, Rs v t → Rs' v t) {v : V} {ls : List (List Nat)} (h : RC Rp Rs L K H v ls) : RC Rp' Rs' L' K H v ls := by
  obtain ⟨a, b, how, l, o, p, u, ts, h1, h2, h3, h4, h5, h6, r⟩ := h
  exact ⟨a, b, how, l, o, p, u, ts, h1, h2, h3, h4, i _ _ h5, h6.wide w j, r⟩
theorem RQ.wide (w : ∀ a, L a → L' a) : ∀ (n : Nat) (v : V) (ls : List (List Nat)), RQ L K H n v ls → RQ L' K H n v ls
  | 0, _, _, h => h.elim
  | n + 1, _, _, ⟨css, h1, r⟩ => ⟨css, h1.wide w fun _ _ z => z.wide w (fun _ _ y => y.wide (RQ.wide w n)) fun _ _ y => y.wide w fun _ _ x => x.wide (RQ.wide w n), r⟩
/-! how long they are -/
theorem pr2 {e : Ex} (h : e.ok) (ht : e.ht ≤ 2) : e.pr.length ≤ 2010 := Nat.le_trans (pr_len e h) (mx_mono ht)
theorem as4 : (codes " as ").length = 4 := by decide
theorem RO.len {v : V} {t : List Nat} (h : RO K H v t) : t.length ≤ 2050 := by
  obtain ⟨a, x, e, l, _, _, _, ok, ht, hl, rfl⟩ := h
  have hl := name_len hl
  have := pr2 ok ht
  unfold outT
  split
  · omega
  · rw [List.length_append, List.length_append, as4]
    omega
theorem RTo.len {v : V} {t : List Nat} (h : RTo K H v t) : t.length ≤ 2050 := by
  obtain ⟨a, f, l, _, _, hl, h⟩ := h
  have hl := name_len hl
  rcases h with ⟨_, rfl⟩ | ⟨w, x, e, hw, _, _, ok, ht, rfl⟩
  · rw [List.length_append, List.length_append, as4, show (codes "count").length = 5 by decide]
    omega
  · have := pr2 ok ht
    have hw8 : (codes w).length ≤ 8 := by
      simp only [AGG, List.mem_cons, List.not_mem_nil, or_false] at hw
      rcases hw with rfl | rfl | rfl | rfl <;> decide
    simp only [List.length_append, List.length_cons, as4]
    omega
theorem F2.all {β : Type} {R : V → β → Prop} {p : β → Prop} (i : ∀ v t, R v t → p t) {vs : List V} {ts : List β} (h : F2 R vs ts) : ∀ t ∈ ts, p t := by
  induction h with
  | nil => intro t h; cases h
  | cons h _ ih =>
    intro t ht
    rcases List.mem_cons.mp ht with rfl | ht
    · exact i _ _ h
    · exact ih t ht
theorem F2.le {R : V → List Nat → Prop} {b : Nat} (i : ∀ v t, R v t → t.length ≤ b) {vs : List V} {ts : List (List Nat)} (h : F2 R vs ts) : ∀ t ∈ ts, t.length ≤ b := by
  induction h with
  | nil => intro t h; cases h
  | cons h _ ih =>
    intro t ht
    rcases List.mem_cons.mp ht with rfl | ht
    · exact i _ _ h
    · exact ih t ht
theorem Rl.le {R : V → List Nat → Prop} {b k : Nat} (i : ∀ v t, R v t → t.length ≤ b) {v : V} {ts : List (List Nat)} (h : Rl L R H v ts) (hk : ts.length ≤ k) : suml ts ≤ k * b := by
  obtain ⟨a, xs, _, _, _, h⟩ := h
  exact Nat.le_trans (suml_le (h.le i)) (Nat.mul_le_mul_right b hk)
/-- how long a query's lines are, together -/
def bl : Nat → Nat
  | 0 => 0
  | 1 => 76000
  | n + 2 => 8 * bl (n + 1) + 14000
theorem bl_ge : ∀ n, 76000 ≤ bl (n + 1)
  | 0 => Nat.le_refl _
  | n + 1 => by
    have := bl_ge n
    show 76000 ≤ 8 * bl (n + 1) + 14000
    omega
theorem ROp.len {Rq : V → List (List Nat) → Prop} {b : Nat} (i : ∀ v t, Rq v t → suml t + t.length ≤ b) {v : V} {t : List Nat} (h : ROp Rq K H v t) : t.length ≤ b + 50 := by
  obtain ⟨a, _, ⟨l, m, _, hl, hm, rfl⟩ | ⟨q, ls, m, _, hm, hq, rfl⟩⟩ := h
  · have hl := name_len hl
    have hm := name_len hm
    split
    · omega
    · rw [List.length_append, List.length_append, as4]
      omega
  · have hm := name_len hm
    have := i _ _ hq
    have := jl_len [32] ls
    simp only [List.length_append, List.length_cons, List.length_nil, as4] at *
    omega
theorem grT_len {ts us : List (List Nat)} (h1 : suml ts ≤ 3 * 2050) (h2 : suml us ≤ 3 * 2050) (k1 : ts.length ≤ 3) (k2 : us.length ≤ 3) : (grT ts us).length ≤ 12400 := by
  have j1 := jl_len [44, 32] ts
  have j2 := jl_len [44, 32] us
  have e2 : ([44, 32] : List Nat).length = 2 := rfl
  rw [e2] at j1 j2
  unfold grT
  refine Nat.le_trans (jl_len _ _) ?_
  rw [suml_app, List.length_append]
  have a1 : suml (codes "group" :: (if ts = [] then [] else [jl [44, 32] ts])) ≤ 5 + (jl [44, 32] ts).length ∧ (codes "group" :: (if ts = [] then [] else [jl [44, 32] ts])).length ≤ 2 := by
    split
    · exact ⟨by show (codes "group").length + 0 ≤ _; rw [show (codes "group").length = 5 by decide]; omega, by decide⟩
    · exact ⟨by show (codes "group").length + ((jl [44, 32] ts).length + 0) ≤ _; rw [show (codes "group").length = 5 by decide]; omega, Nat.le_refl 2⟩
  have a2 : suml (if us = [] then [] else [codes "with", jl [44, 32] us]) ≤ 4 + (jl [44, 32] us).length ∧ (if us = [] then [] else [codes "with", jl [44, 32] us]).length ≤ 2 := by
    split
    · exact ⟨Nat.zero_le _, by decide⟩
    · exact ⟨by show (codes "with").length + ((jl [44, 32] us).length + 0) ≤ _; rw [show (codes "with").length = 4 by decide]; omega, Nat.le_refl 2⟩
  have e1 : ([32] : List Nat).length = 1 := rfl
  rw [e1]
  omega
theorem RSt.len {Rp : V → List Nat → Prop} {b : Nat} (i : ∀ v t, Rp v t → t.length ≤ b + 50) {v : V} {t : List Nat} (h : RSt Rp L K H v t) : t.length ≤ b + 2200 ∨ t.length ≤ 12500 := by
  obtain ⟨a, _, ⟨s, o, x, e, u, hs, _, h3, _, ok, ht, rfl⟩ | ⟨x, e, _, _, ok, ht, rfl⟩ | ⟨o, ts, _, h3, k, rfl, _⟩ | ⟨o, p, ts, us, _, h3, h4, k1, k2, rfl, _⟩⟩ := h
  · have := pr2 ok ht
    have := i _ _ h3
    have hj : (codes (joiT s)).length ≤ 9 := by
      simp only [JOI, List.mem_cons, List.not_mem_nil, or_false] at hs
      rcases hs with rfl | rfl | rfl | rfl <;> decide
    simp only [List.length_append, List.length_cons, show (codes " on ").length = 4 by decide]
    omega
  · have := pr2 ok ht
    rw [List.length_append, show (codes "where ").length = 6 by decide]
    omega
  · have j1 := jl_len [44, 32] ts
    have := h3.le (fun _ _ z => z.len) k
    rw [List.length_append, show (codes "select ").length = 7 by decide]
    have e2 : ([44, 32] : List Nat).length = 2 := rfl
    rw [e2] at j1
    omega
  · have := grT_len (h3.le (fun _ _ z => z.len) k1) (h4.le (fun _ _ z => z.len) k2) k1 k2
    omega
theorem how_len {v : V} {l : List Nat} (h : RHow v l) : l.length ≤ 10 := by
  rcases h with ⟨_, rfl⟩ | ⟨s, hs, _, rfl⟩
  · exact Nat.zero_le _
  · simp only [SETS, List.mem_cons, List.not_mem_nil, or_false] at hs
    rcases hs with rfl | rfl | rfl <;> decide
theorem RC.len {Rp Rs : V → List Nat → Prop} {b m : Nat} (i : ∀ v t, Rp v t → t.length ≤ b + 50) (j : ∀ v t, Rs v t → t.length ≤ m) {v : V} {ls : List (List Nat)} (h : RC Rp Rs L K H v ls) : suml ls + ls.length ≤ b + 3 * m + 80 ∧ 1 ≤ ls.length ∧ ls.length ≤ 4 := by
  obtain ⟨a, b', how, l, o, p, u, ts, _, _, _, h4, h5, h6, k, rfl⟩ := h
  have := how_len h4
  have := i _ _ h5
  have := h6.le j k
  refine ⟨?_, Nat.succ_le_succ (Nat.zero_le _), by rw [List.length_cons]; omega⟩
  show (l ++ (codes "from " ++ u)).length + suml ts + (ts.length + 1) ≤ _
  rw [List.length_append, List.length_append, show (codes "from ").length = 5 by decide]
  omega
theorem suml_flat : ∀ css : List (List (List Nat)), ∀ b : Nat, (∀ c ∈ css, suml c + c.length ≤ b) → suml css.flatten + css.flatten.length ≤ css.length * b
  | [], _, _ => Nat.zero_le _
  | c :: css, b, h => by
    have h1 := h c (List.mem_cons_self ..)
    have := suml_flat css b fun x hx => h x (List.mem_cons_of_mem _ hx)
    rw [List.flatten_cons, suml_app, List.length_append, List.length_cons, Nat.add_mul]
    omega
theorem RQ.len : ∀ (n : Nat) (v : V) (ls : List (List Nat)), RQ L K H n v ls → suml ls + ls.length ≤ bl n
  | 0, _, _, h => h.elim
  | n + 1, _, _, ⟨css, ⟨a, xs, _, _, _, h⟩, k, e, _⟩ => by
    subst e
    have io := fun v t (z : ROp (RQ L K H n) K H v t) => z.len (RQ.len n)
    obtain ⟨m, hm, hb⟩ : ∃ m, (∀ x, x ≤ bl n + 2200 ∨ x ≤ 12500 → x ≤ m) ∧ 2 * (bl n + 3 * m + 80) ≤ bl (n + 1) := by
      cases n with
      | zero =>
        have : bl 0 = 0 := rfl
        exact ⟨12500, fun x hx => by omega, by decide⟩
      | succ n =>
        have := bl_ge n
        exact ⟨bl (n + 1) + 2200, fun x hx => by omega, by show _ ≤ 8 * bl (n + 1) + 14000; omega⟩
    have hc : ∀ c ∈ css, suml c + c.length ≤ bl n + 3 * m + 80 := h.all fun _ _ z => (z.len (b := bl n) io fun _ _ y => hm _ (y.len io)).1
    have := suml_flat css _ hc
    have : css.length * (bl n + 3 * m + 80) ≤ 2 * (bl n + 3 * m + 80) := Nat.mul_le_mul_right _ k
    omega
theorem RC.ne {Rp Rs : V → List Nat → Prop} {v : V} {ls : List (List Nat)} (h : RC Rp Rs L K H v ls) : ls ≠ [] := by
  obtain ⟨_, _, _, _, _, _, _, _, _, _, _, _, _, _, _, rfl⟩ := h
  exact fun z => nomatch z
theorem flat_ne {css : List (List (List Nat))} (h : css ≠ []) (a : ∀ c ∈ css, c ≠ []) : css.flatten ≠ [] := by
  cases css with
  | nil => exact absurd rfl h
  | cons c css =>
    have := a c (List.mem_cons_self ..)
    cases c with
    | nil => exact absurd rfl this
    | cons x c => exact fun z => nomatch z
end

theorem txe (l m : List Nat) : decide (tx l = tx m) = decide (l = m) := by
  by_cases h : l = m
  · subst h
    rw [decide_eq_true rfl, decide_eq_true rfl]
  · rw [decide_eq_false h, decide_eq_false]
    intro e
    have e1 := V.str.inj e
    have e2 := congrArg Array.toList (Str.mk.inj e1)
    exact h (by simpa using e2)
theorem tx_map (ls : List (List Nat)) : ls.map tx = (ls.map fun l => (⟨l.toArray⟩ : Str)).map V.str := by
  rw [List.map_map]
  rfl
theorem lc_txt {K : PySem.W.Frag} {a : Addr} {xs : List V} {ts : List (List Nat)} {R : V → List Nat → Prop} {g : TG} {tt : TT} {te : TE} {vs : List Nat} {σ : L2.St} {H1 : Hp} {D : Addr} {Qd : Hp → Prop} (hf : F2 R xs ts) (few : ts.length ≤ 1000) (ha : SqL K H1 a xs) (nD : H1 D = none)
    (hs : ∀ v t Hi, R v t → Same H1 Hi → ∀ (Qc : VK) (Nc : Hp → Prop), (∀ H4, Same Hi H4 → Qc (tx t) H4) → g v (wipe σ vs) Hi fun σ2 H2 => wipe σ2 vs = wipe σ vs ∧ tt σ2 H2 fun b H3 => if b = true then te σ2 H3 Qc else Nc H3)
    (hd : ∀ H, Same H1 H → H D = some (.lst (ts.map tx)) → Qd H) :
    ∃ W : Nat → Nat → Hp → Prop, (∃ m, W 0 m (upd H1 D (.lst []))) ∧ ∀ i m H, W i m H →
      ((Itl K a).stop i H ∧ Qd H) ∨ ((Itl K a).go i H ∧ ∃ Nx : Hp → Prop, (∀ H', Nx H' → ∃ m', m' < m ∧ W (i + 1) m' H') ∧ ∀ x H', (Itl K a).yld i H x H' → g x (wipe σ vs) H' fun σ2 H2 => wipe σ2 vs = wipe σ vs ∧ tt σ2 H2 fun b H3 =>
        if b = true then te σ2 H3 fun y H4 => ∃ acc, H4 D = some (.lst acc) ∧ acc.length < sizeLine ∧ Nx (upd H4 D (.lst (acc ++ [y]))) else Nx H3) := by
  have hl := hf.len
  refine lc_list (K := K) (a := a) (xs := xs) (fun i Hi => Same H1 Hi ∧ Hi D = some (.lst ((ts.take i).map tx))) ⟨same_upd nD, upd_same⟩ (fun i Hi _ hp => hp.1.seq ha) (fun i x Hi hx hp => ?_) (fun Hn hp => hd Hn hp.1 (by have := hp.2; rwa [hl, List.take_length] at this))
  obtain ⟨si, eD⟩ := hp
  obtain ⟨t, ht, r⟩ := hf.get hx
  refine hs x t Hi r si _ _ fun H4 s4 => ?_
  refine ⟨_, s4 _ _ eD, ?_, ?_, ?_⟩
  · rw [List.length_map, List.length_take]
    exact Nat.lt_of_lt_of_le (m := 1001) (by omega) (by decide)
  · intro b o z
    have nb : b ≠ D := ne_of_none z nD
    rw [upd_ne nb]
    exact s4 _ _ (si _ _ z)
  · rw [upd_same, List.take_add_one, ht, List.map_append]
    rfl
theorem same_at {H H' : Hp} {D : Addr} {o : HO} (s : Same H H') (n : H D = none) : Same H (upd H' D o) := fun b x e => by
  rw [upd_ne (ne_of_none e n)]
  exact s b x e
theorem bl3 {n : Nat} (h : n ≤ 3) : bl n ≤ 4990000 := by
  have : n = 0 ∨ n = 1 ∨ n = 2 ∨ n = 3 := by omega
  rcases this with rfl | rfl | rfl | rfl <;> decide
theorem bl2 {n : Nat} (h : n ≤ 2) : bl n ≤ 622000 := by
  have : n = 0 ∨ n = 1 ∨ n = 2 := by omega
  rcases this with rfl | rfl | rfl <;> decide
theorem flat_take {β : Type} (css : List (List β)) (i : Nat) (c : List β) (h : css[i]? = some c) : (css.take (i + 1)).flatten = (css.take i).flatten ++ c := by
  rw [List.take_add_one, h, List.flatten_append]
  simp
theorem F2.emp {β : Type} {R : V → β → Prop} {xs : List V} {ts : List β} (h : F2 R xs ts) : xs.isEmpty = ts.isEmpty := by cases h <;> rfl
theorem ROp.le {L : Addr → Prop} {K : PySem.W.Frag} {H : Hp} {n : Nat} {v : V} {t : List Nat} (h : ROp (RQ L K H n) K H v t) (k : n ≤ 2) : t.length ≤ 990050 := by
  have := h.len (RQ.len n)
  have := bl2 k
  omega
theorem RSt.le {L : Addr → Prop} {K : PySem.W.Frag} {H : Hp} {n : Nat} {v : V} {t : List Nat} (h : RSt (ROp (RQ L K H n) K H) L K H v t) (k : n ≤ 2) : t.length ≤ 1002600 := by
  have := h.len (b := bl n) fun _ _ z => z.len (RQ.len n)
  have := bl2 k
  omega

/-! ### the law's queries -/
theorem none_back {H H1 : Hp} {d c : Addr} (dr : Dr H1 d c) (f : Fd d H H1) : ∀ a, H1 a = none → H a = none := fun a h => by
  cases e : H a with
  | none => rfl
  | some o =>
    by_cases n : a = d
    · subst n
      obtain ⟨zs, hz⟩ := dr.lst
      rw [hz] at h
      cases h
    · rw [f a o n e] at h
      cases h
theorem Ch.dr {L : Addr → Prop} {H H' : Hp} {d c : Addr} (dr : Dr H d c) (hL : ¬ L d) (f : Fd d H H') : Ch L H H' := Ch.fd dr.lst hL f
theorem Ch.at {L : Addr → Prop} {H : Hp} {U : Addr} {xs : List V} {o : HO} (e : H U = some (.lst xs)) (hL : ¬ L U) : Ch L H (upd H U o) := Ch.fd ⟨xs, e⟩ hL Fd.at
theorem last_nm {e : Ex} {m : List Nat} (h : e.ok) (hl : e.last = some m) : NmOk m := by
  cases e with
  | name l =>
    have : l = m := Option.some.inj hl
    subst this
    exact h
  | field l k =>
    have : k = m := Option.some.inj hl
    subst this
    exact h.2
  | _ => cases hl
theorem fd_at {d : Addr} {H H' : Hp} {U : Addr} {o : HO} (f : Fd d H H') (n : H U = none) : Fd d H (upd H' U o) := fun b x nb e => by
  rw [upd_ne (ne_of_none e n)]
  exact f b x nb e
theorem outs_step {K : PySem.W.Frag} {Hx : Hp} {p U : Addr} {xs : List V} {ts : List (List Nat)} {x : V} {e : Ex} {l : List Nat} (eU : Hx U = some (.lst xs)) (np : Hx p = none) (hf : F2 (RO K Hx) xs ts) (dp : Dp K Hx x e.d) (ok : e.ok) (ht : e.ht ≤ 2) (ll : NmOk l) :
    F2 (RO K (upd (upd Hx p (.tup [x, tx l])) U (.lst (xs ++ [.ref p])))) (xs ++ [.ref p]) (ts ++ [outT e l]) := by
  have c1 : Ch (fun _ => False) Hx (upd Hx p (.tup [x, tx l])) := Ch.of (same_upd np)
  have c2 : Ch (fun _ => False) (upd Hx p (.tup [x, tx l])) (upd (upd Hx p (.tup [x, tx l])) U (.lst (xs ++ [.ref p]))) := Ch.at ((same_upd np) _ _ eU) fun z => z
  refine F2.snoc (hf.imp fun v t z => (z.ch c1).ch c2) ⟨p, x, e, l, rfl, c2.tup (.inl (.inl upd_same)), Dp.ch (c1.trans c2) _ _ (ex_only e) dp, ok, ht, ll, rfl⟩
def sp_louts (K : PySem.W.Frag) : Sp := fun vs H Q _ => ∃ (d c : Addr) (m : Nat), vs = [.ref d, .int (m : Nat)] ∧ m ≤ 2 ∧ Dr H d c ∧ ∀ H' p ts, Fd d H H' → Dr H' d c → Rl (fun a => H a = none) (RO K H') H' p ts → ts.length ≤ 3 → ts ≠ [] → Q p H'
def sp_ltots (K : PySem.W.Frag) : Sp := fun vs H Q _ => ∃ (d c : Addr) (m : Nat), vs = [.ref d, .int (m : Nat)] ∧ m ≤ 2 ∧ Dr H d c ∧ ∀ H' p ts, Fd d H H' → Dr H' d c → Rl (fun a => H a = none) (RTo K H') H' p ts → ts.length ≤ 3 → ts ≠ [] → Q p H'
def sp_lq (K : PySem.W.Frag) (n : Nat) : Sp := fun vs H Q _ => ∃ (d c : Addr) (i m : Nat), vs = [.ref d, .int (i : Nat), .int (m : Nat)] ∧ i < n ∧ m ≤ 2 ∧ Dr H d c ∧ ∀ H' p ls, Fd d H H' → Dr H' d c → RQ (fun a => H a = none) K H' (i + 1) p ls → ls ≠ [] → Q p H'
def sp_lop (K : PySem.W.Frag) (n : Nat) : Sp := fun vs H Q _ => ∃ (d c : Addr) (i m : Nat), vs = [.ref d, .int (i : Nat), .int (m : Nat)] ∧ i ≤ n ∧ m ≤ 2 ∧ Dr H d c ∧ ∀ H' p t, Fd d H H' → Dr H' d c → ROp (RQ (fun a => H a = none) K H' i) K H' p t → Q p H'
def sp_lst (K : PySem.W.Frag) (n : Nat) : Sp := fun vs H Q _ => ∃ (d c : Addr) (i m : Nat), vs = [.ref d, .int (i : Nat), .int (m : Nat)] ∧ i ≤ n ∧ m ≤ 2 ∧ Dr H d c ∧ ∀ H' p t, Fd d H H' → Dr H' d c → RSt (ROp (RQ (fun a => H a = none) K H' i) K H') (fun a => H a = none) K H' p t → Q p H'
section
variable {P : Program} {w : World} {K : PySem.W.Frag} {mg : Str → Option Value} {base : Heap}
theorem ok_louts {f : Addr} {fd : FuncData} (F : Fun K "_law_outputs" "_law_outputs" s__law_outputs f fd) (M : Mg mg) (c__law_next : Cl P w K mg base 1 "_law_next" sp_next) (c__law_name : Cl P w K mg base 2 "_law_name" sp_name) (c__law_expression : Cl P w K mg base 6 "_law_expression" (sp_lex K 3)) : FnOk P w K mg base CX0 7 f fd ["draw", "depth"] (sp_louts K) := by
  refine F.ok sc__law_outputs (fun vs H Q E h => ?_) (fun cdv A outer s H vs Q E hr h => ?_)
  · obtain ⟨d, c, m, rfl, _⟩ := h
    rfl
  · obtain ⟨d, c, m, rfl, hm, dr, q⟩ := h
    refine ⟨_, (pss_cons (ps_set (i := 2) sc__law_outputs.nd rfl (.inl rfl) (pe_lst pa_nil))
      (pss_cons (ps_for PassesOwn.never rfl (pi_range1 (by rfl) M.range (pa_cons (pe_op op_add pe_int (pe_u c__law_next hr (by first | decide | omega) (by rfl) (pa_cons (pv 0) (pa_cons pe_int pa_nil)))) pa_nil)) (pg_name (i := 3) sc__law_outputs.nd rfl (.inl rfl)) (pss_cons (ps_set (i := 4) sc__law_outputs.nd rfl (.inl rfl) (pe_u c__law_expression hr (by first | decide | omega) (by rfl) (pa_cons (pv 0) (pa_cons (pv 1) pa_nil))))
      (pss_cons (ps_set (i := 5) sc__law_outputs.nd rfl (.inl rfl) (pe_u c__law_name hr (by first | decide | omega) (by rfl) (pa_cons (pv 0) pa_nil)))
      (pss_cons (ps_if (pt_cmpR op_eq (pe_u c__law_next hr (by first | decide | omega) (by rfl) (pa_cons (pv 0) (pa_cons pe_int pa_nil))) pe_int (nomark _)) (pss_one (ps_set (i := 5) sc__law_outputs.nd rfl (.inl rfl) (pe_ifExp (pt_cmpR (inK K) (pe_ix (ix_tupK K) (pv 4) pe_int (fun _ _ => rfl)) (pe_tup (pa_cons pe_str (pa_cons pe_str pa_nil))) (by rfl)) (pe_ix (ix_tupK K) (pv 4) (pe_un un_neg pe_int) (fun _ _ => rfl)) (pv 5)))) pss_nil)
      (pss_one (ps_expr (pe_bmK K PySem.F.plainAttrs_list PySem.F.slot_list_append PySem.F.type_list_append mt_append (pv 2) (pa_cons (pe_tup (pa_cons (pv 4) (pa_cons (pv 5) pa_nil))) pa_nil))))))))
      (pss_one (ps_ret (pv 2))))), ?_⟩
    refine ⟨Nat.zero_le _, fun U nU => ?_⟩
    have nUd := dr.nd nU
    have nUc := dr.nc nU
    have f1 : Fd d H (upd H U (.lst [])) := Fd.new nU
    refine ⟨_, rfl, d, c, 3, rfl, dr.ext (same_upd nU), by decide, by decide, fun H2 k f2 _ dr2 k0 k1 => ⟨_, _, rfl, rfl, _, rfl, by omega, by omega, ?_⟩⟩
    refine for_range (lo := 0) (n := (1 + k).toNat) (fun i σ Hi => Fd d H Hi ∧ Dr Hi d c ∧ ∃ xs ts y3 y4 y5, σ = [some (.ref d), some (.int (m : Nat)), some (.ref U), y3, y4, y5] ∧ Hi U = some (.lst xs) ∧ F2 (RO K Hi) xs ts ∧ ts.length = i) ⟨f1.trans f2, dr2, [], [], _, _, _, rfl, f2 _ _ nUd upd_same, .nil, rfl⟩ (fun i σ Hi hi hp => ?_) (fun σ Hn hp => ?_)
    · obtain ⟨fi, di, xs, ts, y3, y4, y5, rfl, eU, hf, hl⟩ := hp
      have hi3 : i < 3 := by omega
      refine ⟨_, rfl, _, rfl, d, c, m, rfl, by omega, di, fun H3 x e f3 dr3 ok ht dp => ?_⟩
      refine ⟨_, rfl, d, c, rfl, dr3, fun H4 l f4 dr4 nl => ?_⟩
      have ll := nl
      have dp4 := Dp.fd dr3.lst f4 _ _ (ex_only e) dp
      have hf4 := hf.imp fun v t (z : RO K Hi v t) => (z.ch (Ch.dr (L := fun _ => False) di (fun z => z) (f3.trans f4)))
      have eU4 := (f3.trans f4) _ _ nUd eU
      have hlen : xs.length = i := by rw [hf.len, hl]
      refine ⟨_, rfl, d, c, 3, rfl, dr4, by decide, by decide, fun H5 b f5 _ dr5 _ _ => ⟨rfl, _, rfl, ite2 (fun _ => ?_) (fun _ => ?_)⟩⟩
      · have eU5 := f5 _ _ nUd eU4
        have hf5 := hf4.imp fun v t (z : RO K H4 v t) => z.ch (Ch.dr (L := fun _ => False) dr4 (fun z => z) f5)
        have dp5 := Dp.fd dr4.lst f5 _ _ (ex_only e) dp4
        have f05 := ((fi.trans f3).trans f4).trans f5
        cases hla : e.last with
        | none =>
          obtain ⟨b', ys, rfl, hs1⟩ := ex_word dp5
          refine ⟨_, rfl, b', _, _, _, rfl, rfl, hs1, atI_nat (j := 0) rfl, ?_⟩
          refine ⟨by show 2 ≤ sizeLine; decide, fun tp ntp => ?_⟩
          refine ⟨tp, _, rfl, .inr (.inl (.inl upd_same)), rfl, rfl, _, rfl, ?_⟩
          rw [if_neg Bool.false_ne_true, nf, hla]
          refine iteF ⟨_, rfl, ?_⟩
          have s6 := same_upd ntp (o := .tup [.str "name", .str "field"])
          have eU6 := s6 _ _ eU5
          have hf6 := hf5.imp fun v t (z : RO K H5 v t) => z.ch (Ch.of (L := fun _ => False) s6)
          have dp6 := Dp.ext s6 _ _ dp5
          have f06 := f05.trans (Fd.of s6)
          have dr6 := dr5.ext s6
          generalize upd H5 tp (.tup [.str "name", .str "field"]) = H6 at eU6 hf6 dp6 f06 dr6
          refine ⟨_, rfl, .inl ⟨rfl, _, .of eU6⟩, _, rfl, _, rfl, by show 2 ≤ sizeLine; decide, fun p np => ?_⟩
          refine ⟨U, _, _, rfl, rfl, (same_upd np) _ _ eU6, by rw [hlen]; exact Nat.lt_of_lt_of_le (m := 10) (by omega) (by decide), ?_⟩
          exact ⟨fd_at (f06.trans (Fd.new np)) nU, (dr6.ext (same_upd np)).upd nUd nUc, _, _, _, _, _, rfl, upd_same, outs_step eU6 np hf6 dp6 ok (by omega) ll, by rw [List.length_append, hl]; rfl⟩
        | some m' =>
          obtain ⟨b', ys, rfl, hs1, at0, atl⟩ := last_at dp5 hla
          refine ⟨_, rfl, b', _, _, _, rfl, rfl, hs1, at0, ?_⟩
          refine ⟨by show 2 ≤ sizeLine; decide, fun tp ntp => ?_⟩
          refine ⟨tp, _, rfl, .inr (.inl (.inl upd_same)), rfl, rfl, _, rfl, ?_⟩
          rw [if_neg Bool.false_ne_true, nf, hla]
          have s6 := same_upd ntp (o := .tup [.str "name", .str "field"])
          refine iteT ⟨_, rfl, _, rfl, b', _, _, _, rfl, rfl, SqT.ext s6 hs1, atl, ?_⟩
          have lm := last_nm ok hla
          have eU6 := s6 _ _ eU5
          have hf6 := hf5.imp fun v t (z : RO K H5 v t) => z.ch (Ch.of (L := fun _ => False) s6)
          have dp6 := Dp.ext s6 _ _ dp5
          have f06 := f05.trans (Fd.of s6)
          have dr6 := dr5.ext s6
          generalize upd H5 tp (.tup [.str "name", .str "field"]) = H6 at eU6 hf6 dp6 f06 dr6
          refine ⟨_, rfl, .inl ⟨rfl, _, .of eU6⟩, _, rfl, _, rfl, by show 2 ≤ sizeLine; decide, fun p np => ?_⟩
          refine ⟨U, _, _, rfl, rfl, (same_upd np) _ _ eU6, by rw [hlen]; exact Nat.lt_of_lt_of_le (m := 10) (by omega) (by decide), ?_⟩
          exact ⟨fd_at (f06.trans (Fd.new np)) nU, (dr6.ext (same_upd np)).upd nUd nUc, _, _, _, _, _, rfl, upd_same, outs_step eU6 np hf6 dp6 ok (by omega) lm, by rw [List.length_append, hl]; rfl⟩
      · have eU5 := f5 _ _ nUd eU4
        have hf5 := hf4.imp fun v t (z : RO K H4 v t) => z.ch (Ch.dr (L := fun _ => False) dr4 (fun z => z) f5)
        have dp5 := Dp.fd dr4.lst f5 _ _ (ex_only e) dp4
        have f05 := ((fi.trans f3).trans f4).trans f5
        refine ⟨_, rfl, .inl ⟨rfl, _, .of eU5⟩, _, rfl, _, rfl, by show 2 ≤ sizeLine; decide, fun p np => ?_⟩
        refine ⟨U, _, _, rfl, rfl, (same_upd np) _ _ eU5, by rw [hlen]; exact Nat.lt_of_lt_of_le (m := 10) (by omega) (by decide), ?_⟩
        exact ⟨fd_at (f05.trans (Fd.new np)) nU, (dr5.ext (same_upd np)).upd nUd nUc, _, _, _, _, _, rfl, upd_same, outs_step eU5 np hf5 dp5 ok (by omega) ll, by rw [List.length_append, hl]; rfl⟩
    · obtain ⟨fi, di, xs, ts, y3, y4, y5, rfl, eU, hf, hl⟩ := hp
      exact ⟨_, rfl, q Hn _ ts fi di ⟨U, xs, rfl, nU, eU, hf⟩ (by omega) fun z => by rw [z] at hl; have : (0 : Nat) = (1 + k).toNat := hl; omega⟩
theorem ok_ltots {f : Addr} {fd : FuncData} (F : Fun K "_law_totals" "_law_totals" s__law_totals f fd) (M : Mg mg) (c__law_next : Cl P w K mg base 1 "_law_next" sp_next) (c__law_name : Cl P w K mg base 2 "_law_name" sp_name) (c__law_expression : Cl P w K mg base 6 "_law_expression" (sp_lex K 3)) : FnOk P w K mg base CX0 7 f fd ["draw", "depth"] (sp_ltots K) := by
  refine F.ok sc__law_totals (fun vs H Q E h => ?_) (fun cdv A outer s H vs Q E hr h => ?_)
  · obtain ⟨d, c, m, rfl, _⟩ := h
    rfl
  · obtain ⟨d, c, m, rfl, hm, dr, q⟩ := h
    refine ⟨_, (pss_cons (ps_set (i := 2) sc__law_totals.nd rfl (.inl rfl) (pe_lst pa_nil))
      (pss_cons (ps_for PassesOwn.never rfl (pi_range1 (by rfl) M.range (pa_cons (pe_op op_add pe_int (pe_u c__law_next hr (by first | decide | omega) (by rfl) (pa_cons (pv 0) (pa_cons pe_int pa_nil)))) pa_nil)) (pg_name (i := 3) sc__law_totals.nd rfl (.inl rfl)) (pss_cons (ps_set (i := 4) sc__law_totals.nd rfl (.inl rfl) (pe_u c__law_next hr (by first | decide | omega) (by rfl) (pa_cons (pv 0) (pa_cons pe_int pa_nil))))
      (pss_one (ps_if (pt_cmpR op_eq (pv 4) pe_int (nomark _)) (pss_one (ps_expr (pe_bmK K PySem.F.plainAttrs_list PySem.F.slot_list_append PySem.F.type_list_append mt_append (pv 2) (pa_cons (pe_tup (pa_cons (pe_tup (pa_cons pe_str pa_nil)) (pa_cons (pe_u c__law_name hr (by first | decide | omega) (by rfl) (pa_cons (pv 0) pa_nil)) pa_nil))) pa_nil)))) (pss_cons (ps_set (i := 5) sc__law_totals.nd rfl (.inl rfl) (pe_u c__law_expression hr (by first | decide | omega) (by rfl) (pa_cons (pv 0) (pa_cons (pv 1) pa_nil))))
      (pss_one (ps_expr (pe_bmK K PySem.F.plainAttrs_list PySem.F.slot_list_append PySem.F.type_list_append mt_append (pv 2) (pa_cons (pe_tup (pa_cons (pe_tup (pa_cons (pe_ix (ix_listK K) (pe_lst (pa_cons pe_str (pa_cons pe_str (pa_cons pe_str (pa_cons pe_str pa_nil))))) (pe_op op_sub (pv 4) pe_int) (fun _ _ => rfl)) (pa_cons (pv 5) pa_nil))) (pa_cons (pe_u c__law_name hr (by first | decide | omega) (by rfl) (pa_cons (pv 0) pa_nil)) pa_nil))) pa_nil)))))))))
      (pss_one (ps_ret (pv 2))))), ?_⟩
    refine ⟨Nat.zero_le _, fun U nU => ?_⟩
    have nUd := dr.nd nU
    have nUc := dr.nc nU
    have f1 : Fd d H (upd H U (.lst [])) := Fd.new nU
    refine ⟨_, rfl, d, c, 3, rfl, dr.ext (same_upd nU), by decide, by decide, fun H2 k f2 _ dr2 k0 k1 => ⟨_, _, rfl, rfl, _, rfl, by omega, by omega, ?_⟩⟩
    refine for_range (lo := 0) (n := (1 + k).toNat) (fun i σ Hi => Fd d H Hi ∧ Dr Hi d c ∧ ∃ xs ts y3 y4 y5, σ = [some (.ref d), some (.int (m : Nat)), some (.ref U), y3, y4, y5] ∧ Hi U = some (.lst xs) ∧ F2 (RTo K Hi) xs ts ∧ ts.length = i) ⟨f1.trans f2, dr2, [], [], _, _, _, rfl, f2 _ _ nUd upd_same, .nil, rfl⟩ (fun i σ Hi hi hp => ?_) (fun σ Hn hp => ?_)
    · obtain ⟨fi, di, xs, ts, y3, y4, y5, rfl, eU, hf, hl⟩ := hp
      have hi3 : i < 3 := by omega
      have hlen : xs.length = i := by rw [hf.len, hl]
      have c0 : ∀ {Ha Hb : Hp}, Dr Ha d c → Fd d Ha Hb → Ch (fun _ => False) Ha Hb := fun dr f => Ch.dr dr (fun z => z) f
      refine ⟨_, rfl, d, c, 5, rfl, di, by decide, by decide, fun H3 r f3 _ dr3 r0 r1 => ?_⟩
      have eU3 := f3 _ _ nUd eU
      have hf3 := hf.imp fun v t (z : RTo K Hi v t) => z.ch (c0 di f3)
      refine ⟨_, rfl, rfl, _, rfl, ite2 (fun e0 => ?_) (fun e0 => ?_)⟩
      · refine ⟨_, rfl, .inl ⟨rfl, _, .of eU3⟩, by show 1 ≤ sizeLine; decide, fun p1 n1 => ?_⟩
        have s4 := same_upd n1 (o := .tup [.str "count"])
        have e1 : (upd H3 p1 (.tup [.str "count"])) p1 = some (.tup [.str "count"]) := upd_same
        have eU4 := s4 _ _ eU3
        have hf4 := hf3.imp fun v t (z : RTo K H3 v t) => z.ch (Ch.of (L := fun _ => False) s4)
        have f04 := (fi.trans f3).trans (Fd.of s4)
        have dr4 := dr3.ext s4
        generalize upd H3 p1 (.tup [.str "count"]) = H4 at e1 eU4 hf4 f04 dr4
        refine ⟨_, rfl, d, c, rfl, dr4, fun H5 l f5 dr5 nl => ?_⟩
        have hc5 := c0 dr4 f5
        have e5 : SqT K H5 p1 [.str "count"] := hc5.tup (.inl (.inl e1))
        have eU5 := f5 _ _ nUd eU4
        have hf5 := hf4.imp fun v t (z : RTo K H4 v t) => z.ch hc5
        refine ⟨by show 2 ≤ sizeLine; decide, fun p np => ?_⟩
        refine ⟨U, _, _, rfl, rfl, (same_upd np) _ _ eU5, by rw [hlen]; exact Nat.lt_of_lt_of_le (m := 10) (by omega) (by decide), ?_⟩
        have c1 : Ch (fun _ => False) H5 (upd H5 p (.tup [.ref p1, tx l])) := Ch.of (same_upd np)
        have c2 : Ch (fun _ => False) (upd H5 p (.tup [.ref p1, tx l])) (upd (upd H5 p (.tup [.ref p1, tx l])) U (.lst (xs ++ [.ref p]))) := Ch.at ((same_upd np) _ _ eU5) fun z => z
        exact ⟨fd_at ((f04.trans f5).trans (Fd.new np)) nU, (dr5.ext (same_upd np)).upd nUd nUc, _, _, _, _, _, rfl, upd_same,
          F2.snoc (hf5.imp fun v t z => (z.ch c1).ch c2) ⟨p, p1, l, rfl, c2.tup (.inl (.inl upd_same)), nl, .inl ⟨c2.tup (c1.tup e5), rfl⟩⟩, by rw [List.length_append, hl]; rfl⟩
      · have hr : r = 1 ∨ r = 2 ∨ r = 3 ∨ r = 4 := by
          have : r ≠ 0 := fun z => e0 (by rw [z]; rfl)
          omega
        refine ⟨_, rfl, _, rfl, d, c, m, rfl, by omega, dr3, fun H4 x e f4 dr4 ok ht dp => ?_⟩
        have eU4 := f4 _ _ nUd eU3
        have hf4 := hf3.imp fun v t (z : RTo K H3 v t) => z.ch (c0 dr3 f4)
        obtain ⟨w', hw, atw⟩ : ∃ w' ∈ AGG, atI [V.str "distinct", V.str "sum", V.str "min", V.str "max"] (r - 1) = some (.str (Str.ofString w')) := by
          rcases hr with rfl | rfl | rfl | rfl
          · exact ⟨"distinct", by decide, rfl⟩
          · exact ⟨"sum", by decide, rfl⟩
          · exact ⟨"min", by decide, rfl⟩
          · exact ⟨"max", by decide, rfl⟩
        refine ⟨_, rfl, .inl ⟨rfl, _, .of eU4⟩, by show 4 ≤ sizeLine; decide, fun p0 n0 => ?_⟩
        have s5 := same_upd n0 (o := .lst [.str "distinct", .str "sum", .str "min", .str "max"])
        refine ⟨_, rfl, _, _, rfl, rfl, p0, _, _, _, rfl, rfl, .of upd_same, atw, _, rfl, by show 2 ≤ sizeLine; decide, fun p1 n1 => ?_⟩
        have s6 := s5.trans (same_upd n1 (o := .tup [.str (Str.ofString w'), x]))
        have e1 : (upd (upd H4 p0 (.lst [.str "distinct", .str "sum", .str "min", .str "max"])) p1 (.tup [.str (Str.ofString w'), x])) p1 = some (.tup [.str (Str.ofString w'), x]) := upd_same
        have eU6 := s6 _ _ eU4
        have hf6 := hf4.imp fun v t (z : RTo K H4 v t) => z.ch (Ch.of (L := fun _ => False) s6)
        have f06 := ((fi.trans f3).trans f4).trans (Fd.of s6)
        have dr6 := dr4.ext s6
        have dp6 := Dp.ext s6 _ _ dp
        generalize upd (upd H4 p0 (.lst [.str "distinct", .str "sum", .str "min", .str "max"])) p1 (.tup [.str (Str.ofString w'), x]) = H6 at e1 eU6 hf6 f06 dr6 dp6
        refine ⟨_, rfl, d, c, rfl, dr6, fun H7 l f7 dr7 nl => ?_⟩
        have hc7 := c0 dr6 f7
        have e7 : SqT K H7 p1 [.str (Str.ofString w'), x] := hc7.tup (.inl (.inl e1))
        have dp7 := Dp.ch hc7 _ _ (ex_only e) dp6
        have eU7 := f7 _ _ nUd eU6
        have hf7 := hf6.imp fun v t (z : RTo K H6 v t) => z.ch hc7
        refine ⟨by show 2 ≤ sizeLine; decide, fun p np => ?_⟩
        refine ⟨U, _, _, rfl, rfl, (same_upd np) _ _ eU7, by rw [hlen]; exact Nat.lt_of_lt_of_le (m := 10) (by omega) (by decide), ?_⟩
        have c1 : Ch (fun _ => False) H7 (upd H7 p (.tup [.ref p1, tx l])) := Ch.of (same_upd np)
        have c2 : Ch (fun _ => False) (upd H7 p (.tup [.ref p1, tx l])) (upd (upd H7 p (.tup [.ref p1, tx l])) U (.lst (xs ++ [.ref p]))) := Ch.at ((same_upd np) _ _ eU7) fun z => z
        exact ⟨fd_at ((f06.trans f7).trans (Fd.new np)) nU, (dr7.ext (same_upd np)).upd nUd nUc, _, _, _, _, _, rfl, upd_same,
          F2.snoc (hf7.imp fun v t z => (z.ch c1).ch c2) ⟨p, p1, l, rfl, c2.tup (.inl (.inl upd_same)), nl, .inr ⟨w', x, e, hw, c2.tup (c1.tup e7), Dp.ch (c1.trans c2) _ _ (ex_only e) dp7, ok, by omega, rfl⟩⟩, by rw [List.length_append, hl]; rfl⟩
    · obtain ⟨fi, di, xs, ts, y3, y4, y5, rfl, eU, hf, hl⟩ := hp
      exact ⟨_, rfl, q Hn _ ts fi di ⟨U, xs, rfl, nU, eU, hf⟩ (by omega) fun z => by rw [z] at hl; have : (0 : Nat) = (1 + k).toNat := hl; omega⟩
theorem ok_lop {f : Addr} {fd : FuncData} {j : Nat} (h2j : 2 ≤ j) (n : Nat) (F : Fun K "_law_operand" "_law_operand" s__law_operand f fd) (M : Mg mg) (c__law_next : Cl P w K mg base 1 "_law_next" sp_next) (c__law_name : Cl P w K mg base 2 "_law_name" sp_name) (c__law_query : Cl P w K mg base j "_law_query" (sp_lq K n)) : FnOk P w K mg base CX0 (j + 1) f fd ["draw", "inside", "depth"] (sp_lop K n) := by
  refine F.ok sc__law_operand (fun vs H Q E h => ?_) (fun cdv A outer s H vs Q E hr h => ?_)
  · obtain ⟨d, c, i, m, rfl, _⟩ := h
    rfl
  · obtain ⟨d, c, i, m, rfl, hi, hm, dr, q⟩ := h
    obtain ⟨t, ht', hq⟩ : ∃ t, PSs (cxOf CX0 P w K mg base N__law_operand "_law_operand" (defScope s__law_operand) f cdv A outer s H E).nox ((defBody s__law_operand).drop 1) t ∧ ∀ H1, Fd d H H1 → Dr H1 d c → t { nx := fun _ H' => Q .non H', rt := Q } [some (.ref d), some (.int (i : Nat)), some (.int (m : Nat)), none] H1 := by
      refine ⟨_, (pss_cons (ps_set (i := 3) sc__law_operand.nd rfl (.inl rfl) (pe_u c__law_name hr (by first | decide | omega) (by rfl) (pa_cons (pv 0) pa_nil)))
      (pss_cons (ps_if (pt_cmpR op_eq (pe_u c__law_next hr (by first | decide | omega) (by rfl) (pa_cons (pv 0) (pa_cons pe_int pa_nil))) pe_int (nomark _)) (pss_one (ps_ret (pe_tup (pa_cons pe_str (pa_cons (pv 3) (pa_cons (pv 3) pa_nil)))))) pss_nil)
      (pss_one (ps_ret (pe_tup (pa_cons pe_str (pa_cons (pv 3) (pa_cons (pe_u c__law_name hr (by first | decide | omega) (by rfl) (pa_cons (pv 0) pa_nil)) pa_nil)))))))), fun H1 f1 dr1 => ?_⟩
      refine ⟨_, rfl, d, c, rfl, dr1, fun H2 l f2 dr2 nl => ?_⟩
      refine ⟨_, rfl, d, c, 2, rfl, dr2, by decide, by decide, fun H3 b f3 _ dr3 _ _ => ⟨rfl, _, rfl, ite2 (fun _ => ?_) (fun _ => ?_)⟩⟩
      · refine ⟨_, rfl, _, rfl, by show 3 ≤ sizeLine; decide, fun p np => ?_⟩
        exact q _ _ _ (((f1.trans f2).trans f3).trans (Fd.new np)) (dr3.ext (same_upd np)) ⟨p, rfl, .inl ⟨l, l, .inl (.inl upd_same), nl, nl, rfl⟩⟩
      · refine ⟨_, rfl, _, rfl, d, c, rfl, dr3, fun H4 l' f4 dr4 nl' => ?_⟩
        refine ⟨by show 3 ≤ sizeLine; decide, fun p np => ?_⟩
        exact q _ _ _ ((((f1.trans f2).trans f3).trans f4).trans (Fd.new np)) (dr4.ext (same_upd np)) ⟨p, rfl, .inl ⟨l, l', .inl (.inl upd_same), nl, nl', rfl⟩⟩
    refine ⟨_, (pss_cons (ps_if (PW.pt (pw_and (pt_cmpR op_gt (pv 1) pe_int (nomark _)) (pw_and1 (pt_cmpR op_eq (pe_u c__law_next hr (by first | decide | omega) (by rfl) (pa_cons (pv 0) (pa_cons pe_int pa_nil))) pe_int (nomark _))))) (pss_one (ps_ret (pe_tup (pa_cons pe_str (pa_cons (pe_u c__law_query hr (by first | decide | omega) (by rfl) (pa_cons (pv 0) (pa_cons (pe_op op_sub (pv 1) pe_int) (pa_cons (pv 2) pa_nil)))) (pa_cons (pe_u c__law_name hr (by first | decide | omega) (by rfl) (pa_cons (pv 0) pa_nil)) pa_nil)))))) pss_nil)
      ht'), ?_⟩
    refine ⟨_, rfl, _, _, rfl, rfl, _, rfl, ?_⟩
    cases i with
    | zero =>
      rw [show decide (((0 : Nat) : Int) > 0) = false by decide]
      exact iteF (hq H (Fd.refl _ _) dr)
    | succ i =>
      rw [decide_eq_true (show (((i + 1 : Nat)) : Int) > 0 by omega)]
      refine iteT ⟨_, rfl, d, c, 4, rfl, dr, by decide, by decide, fun H1 b f1 _ dr1 _ _ => ⟨rfl, _, rfl, ite2 (fun _ => ?_) (fun _ => hq H1 f1 dr1)⟩⟩
      refine ⟨_, rfl, _, rfl, _, _, rfl, rfl, _, rfl, d, c, i, m, by show [V.ref d, V.int (((i + 1 : Nat) : Int) - 1), V.int (m : Nat)] = _; rw [show (((i + 1 : Nat) : Int) - 1) = (i : Nat) by omega], by omega, hm, dr1, fun H2 p ls f2 dr2 rq _ => ?_⟩
      refine ⟨_, rfl, d, c, rfl, dr2, fun H3 l f3 dr3 nl => ?_⟩
      refine ⟨by show 3 ≤ sizeLine; decide, fun p' np => ?_⟩
      have hL : ¬ (H1 d = none) := by
        obtain ⟨zs, hz⟩ := dr1.lst
        rw [hz]
        exact fun z => nomatch z
      have rq3 := RQ.ch (Ch.of (same_upd np (o := .tup [.str "inside", p, tx l]))) _ _ _ (RQ.ch (Ch.dr (L := fun a => H1 a = none) dr2 hL f3) _ _ _ rq)
      exact q _ _ _ (((f1.trans f2).trans f3).trans (Fd.new np)) (dr3.ext (same_upd np)) ⟨p', rfl, .inr ⟨p, ls, l, .inl (.inl upd_same), nl, RQ.wide (none_back dr1 f1) _ _ _ rq3, rfl⟩⟩
theorem dr_some {H : Hp} {d c : Addr} (dr : Dr H d c) : ¬ (H d = none) := by
  obtain ⟨zs, hz⟩ := dr.lst
  rw [hz]
  exact fun z => nomatch z
theorem ok_lst {f : Addr} {fd : FuncData} {j : Nat} (h7j : 7 ≤ j) (n : Nat) (F : Fun K "_law_stage" "_law_stage" s__law_stage f fd) (M : Mg mg) (c__law_next : Cl P w K mg base 1 "_law_next" sp_next) (c__law_expression : Cl P w K mg base 6 "_law_expression" (sp_lex K 3)) (c__law_operand : Cl P w K mg base j "_law_operand" (sp_lop K n)) (c__law_outputs : Cl P w K mg base 7 "_law_outputs" (sp_louts K)) (c__law_totals : Cl P w K mg base 7 "_law_totals" (sp_ltots K)) : FnOk P w K mg base CX0 (j + 1) f fd ["draw", "inside", "depth"] (sp_lst K n) := by
  refine F.ok sc__law_stage (fun vs H Q E h => ?_) (fun cdv A outer s H vs Q E hr h => ?_)
  · obtain ⟨d, c, i, m, rfl, _⟩ := h
    rfl
  · obtain ⟨d, c, i, m, rfl, hi, hm, dr, q⟩ := h
    obtain ⟨t, ht', hq⟩ : ∃ t, PSs (cxOf CX0 P w K mg base N__law_stage "_law_stage" (defScope s__law_stage) f cdv A outer s H E).nox ((defBody s__law_stage).drop 6) t ∧ ∀ H1 o ts y4 y5, Fd d H H1 → Dr H1 d c → Rl (fun a => H a = none) (RO K H1) H1 o ts → ts.length ≤ 3 → t { nx := fun _ H' => Q .non H', rt := Q } [some (.ref d), some (.int (i : Nat)), some (.int (m : Nat)), some (.int 4), y4, y5, some o] H1 := by
      refine ⟨_, (pss_one (ps_ret (pe_tup (pa_cons pe_str (pa_cons (pv 6) (pa_cons (pe_u c__law_totals hr (by first | decide | omega) (by rfl) (pa_cons (pv 0) (pa_cons (pv 2) pa_nil))) pa_nil)))))), fun H1 o ts y4 y5 f1 dr1 ho ko => ?_⟩
      refine ⟨_, rfl, _, rfl, _, rfl, d, c, m, rfl, hm, dr1, fun H2 p us f2 dr2 hp kp np0 => ?_⟩
      refine ⟨by show 3 ≤ sizeLine; decide, fun p' np => ?_⟩
      have c2 : Ch (fun a => H a = none) H1 H2 := Ch.dr dr1 (dr_some dr) f2
      have c3 : Ch (fun a => H a = none) H2 (upd H2 p' (.tup [.str "group", o, p])) := Ch.of (same_upd np)
      exact q _ _ _ ((f1.trans f2).trans (Fd.new np)) (dr2.ext (same_upd np)) ⟨p', rfl, .inr (.inr (.inr ⟨o, p, ts, us, .inl (.inl upd_same), (ho.ch c2 fun _ _ z => z.ch c2).ch c3 (fun _ _ z => z.ch c3), (hp.wide (none_back dr1 f1) fun _ _ z => z).ch c3 (fun _ _ z => z.ch c3), ko, kp, rfl, .inr np0⟩))⟩
    refine ⟨_, (pss_cons (ps_set (i := 3) sc__law_stage.nd rfl (.inl rfl) (pe_u c__law_next hr (by first | decide | omega) (by rfl) (pa_cons (pv 0) (pa_cons pe_int pa_nil))))
      (pss_cons (ps_if (pt_cmpR op_eq (pv 3) pe_int (nomark _)) (pss_cons (ps_set (i := 4) sc__law_stage.nd rfl (.inl rfl) (pe_ix (ix_listK K) (pe_lst (pa_cons pe_str (pa_cons pe_str (pa_cons pe_str (pa_cons pe_str pa_nil))))) (pe_u c__law_next hr (by first | decide | omega) (by rfl) (pa_cons (pv 0) (pa_cons pe_int pa_nil))) (fun _ _ => rfl)))
      (pss_cons (ps_set (i := 5) sc__law_stage.nd rfl (.inl rfl) (pe_u c__law_operand hr (by first | decide | omega) (by rfl) (pa_cons (pv 0) (pa_cons (pv 1) (pa_cons (pv 2) pa_nil)))))
      (pss_one (ps_ret (pe_tup (pa_cons pe_str (pa_cons (pv 4) (pa_cons (pv 5) (pa_cons (pe_u c__law_expression hr (by first | decide | omega) (by rfl) (pa_cons (pv 0) (pa_cons (pv 2) pa_nil))) pa_nil))))))))) pss_nil)
      (pss_cons (ps_if (pt_cmpR op_eq (pv 3) pe_int (nomark _)) (pss_one (ps_ret (pe_tup (pa_cons pe_str (pa_cons (pe_u c__law_expression hr (by first | decide | omega) (by rfl) (pa_cons (pv 0) (pa_cons (pv 2) pa_nil))) pa_nil))))) pss_nil)
      (pss_cons (ps_if (pt_cmpR op_eq (pv 3) pe_int (nomark _)) (pss_one (ps_ret (pe_tup (pa_cons pe_str (pa_cons (pe_u c__law_outputs hr (by first | decide | omega) (by rfl) (pa_cons (pv 0) (pa_cons (pv 2) pa_nil))) pa_nil))))) pss_nil)
      (pss_cons (ps_if (pt_cmpR op_eq (pv 3) pe_int (nomark _)) (pss_one (ps_ret (pe_tup (pa_cons pe_str (pa_cons (pe_u c__law_outputs hr (by first | decide | omega) (by rfl) (pa_cons (pv 0) (pa_cons (pv 2) pa_nil))) (pa_cons (pe_lst pa_nil) pa_nil)))))) pss_nil)
      (pss_cons (ps_set (i := 6) sc__law_stage.nd rfl (.inl rfl) (pe_ifExp (pt_cmpR op_eq (pe_u c__law_next hr (by first | decide | omega) (by rfl) (pa_cons (pv 0) (pa_cons pe_int pa_nil))) pe_int (nomark _)) (pe_u c__law_outputs hr (by first | decide | omega) (by rfl) (pa_cons (pv 0) (pa_cons (pv 2) pa_nil))) (pe_lst pa_nil)))
      ht')))))), ?_⟩
    refine ⟨_, rfl, d, c, 5, rfl, dr, by decide, by decide, fun H1 r f1 _ dr1 r0 r1 => ?_⟩
    refine ⟨_, rfl, rfl, _, rfl, ite2 (fun _ => ?_) (fun e0 => ?_)⟩
    · refine ⟨by show 4 ≤ sizeLine; decide, fun p0 n0 => ?_⟩
      have s2 := same_upd n0 (o := .lst [.str "inner", .str "left", .str "semi", .str "anti"])
      have dr2 := dr1.ext s2
      refine ⟨_, rfl, d, c, 4, rfl, dr2, by decide, by decide, fun H3 k f3 _ dr3 k0 k1 => ?_⟩
      have e3 := f3 _ _ (dr1.nd n0) (show (upd H1 p0 (.lst [.str "inner", .str "left", .str "semi", .str "anti"])) p0 = some (.lst [.str "inner", .str "left", .str "semi", .str "anti"]) from upd_same)
      obtain ⟨w', hw, atw⟩ : ∃ w' ∈ JOI, atI [V.str "inner", V.str "left", V.str "semi", V.str "anti"] k = some (.str (Str.ofString w')) := by
        have : k = 0 ∨ k = 1 ∨ k = 2 ∨ k = 3 := by omega
        rcases this with rfl | rfl | rfl | rfl
        · exact ⟨"inner", by decide, rfl⟩
        · exact ⟨"left", by decide, rfl⟩
        · exact ⟨"semi", by decide, rfl⟩
        · exact ⟨"anti", by decide, rfl⟩
      have f03 := (f1.trans (Fd.of s2)).trans f3
      refine ⟨p0, _, _, _, rfl, rfl, .of e3, atw, ?_⟩
      refine ⟨_, rfl, _, rfl, _, rfl, d, c, i, m, rfl, hi, hm, dr3, fun H4 o u f4 dr4 ho => ?_⟩
      refine ⟨_, rfl, _, rfl, _, rfl, _, rfl, d, c, m, rfl, by omega, dr4, fun H5 x e f5 dr5 ok ht dp => ?_⟩
      refine ⟨by show 4 ≤ sizeLine; decide, fun p' np => ?_⟩
      have c5 : Ch (fun a => H3 a = none) H4 H5 := Ch.dr dr4 (dr_some dr3) f5
      have c6 : Ch (fun a => H3 a = none) H5 (upd H5 p' (.tup [.str "join", .str (Str.ofString w'), o, x])) := Ch.of (same_upd np)
      have ho6 := ho.ch (c5.trans c6) fun v t z => RQ.ch (c5.trans c6) _ _ _ z
      have ho7 := ho6.wide (Rq' := RQ (fun a => H a = none) K _ i) fun v t z => RQ.wide (none_back dr3 f03) _ _ _ z
      exact q _ _ _ (((f03.trans f4).trans f5).trans (Fd.new np)) (dr5.ext (same_upd np)) ⟨p', rfl, .inl ⟨w', o, x, e, u, hw, .inl (.inl upd_same), ho7, Dp.ext (same_upd np) _ _ dp, ok, by omega, rfl⟩⟩
    refine ⟨_, rfl, rfl, _, rfl, ite2 (fun _ => ?_) (fun e1 => ?_)⟩
    · refine ⟨_, rfl, _, rfl, d, c, m, rfl, by omega, dr1, fun H2 x e f2 dr2 ok ht dp => ?_⟩
      refine ⟨by show 2 ≤ sizeLine; decide, fun p' np => ?_⟩
      exact q _ _ _ ((f1.trans f2).trans (Fd.new np)) (dr2.ext (same_upd np)) ⟨p', rfl, .inr (.inl ⟨x, e, .inl (.inl upd_same), Dp.ext (same_upd np) _ _ dp, ok, by omega, rfl⟩)⟩
    refine ⟨_, rfl, rfl, _, rfl, ite2 (fun _ => ?_) (fun e2 => ?_)⟩
    · refine ⟨_, rfl, _, rfl, d, c, m, rfl, hm, dr1, fun H2 o ts f2 dr2 ho ko no => ?_⟩
      refine ⟨by show 2 ≤ sizeLine; decide, fun p' np => ?_⟩
      have c3 : Ch (fun a => H a = none) H2 (upd H2 p' (.tup [.str "select", o])) := Ch.of (same_upd np)
      exact q _ _ _ ((f1.trans f2).trans (Fd.new np)) (dr2.ext (same_upd np)) ⟨p', rfl, .inr (.inr (.inl ⟨o, ts, .inl (.inl upd_same), (ho.wide (none_back dr1 f1) fun _ _ z => z).ch c3 (fun _ _ z => z.ch c3), ko, rfl, no⟩))⟩
    refine ⟨_, rfl, rfl, _, rfl, ite2 (fun _ => ?_) (fun e3 => ?_)⟩
    · refine ⟨_, rfl, _, rfl, d, c, m, rfl, hm, dr1, fun H2 o ts f2 dr2 ho ko no => ?_⟩
      refine ⟨Nat.zero_le _, fun U nU => ?_⟩
      refine ⟨by show 3 ≤ sizeLine; decide, fun p' np => ?_⟩
      have c3 : Ch (fun a => H a = none) H2 (upd (upd H2 U (.lst [])) p' (.tup [.str "group", o, .ref U])) := Ch.of ((same_upd nU).trans (same_upd np))
      exact q _ _ _ (((f1.trans f2).trans (Fd.new nU)).trans (Fd.new np)) ((dr2.ext (same_upd nU)).ext (same_upd np)) ⟨p', rfl, .inr (.inr (.inr ⟨o, .ref U, ts, [], .inl (.inl upd_same), (ho.wide (none_back dr1 f1) fun _ _ z => z).ch c3 (fun _ _ z => z.ch c3), ⟨U, [], rfl, none_back dr2 (f1.trans f2) _ nU, (same_upd np) _ _ upd_same, .nil⟩, ko, Nat.zero_le _, rfl, .inl no⟩))⟩
    have hr4 : r = 4 := by
      have a0 : r ≠ 0 := fun z => e0 (by rw [z]; rfl)
      have a1 : r ≠ 1 := fun z => e1 (by rw [z]; rfl)
      have a2 : r ≠ 2 := fun z => e2 (by rw [z]; rfl)
      have a3 : r ≠ 3 := fun z => e3 (by rw [z]; rfl)
      omega
    subst hr4
    refine ⟨_, rfl, d, c, 2, rfl, dr1, by decide, by decide, fun H2 b f2 _ dr2 _ _ => ⟨rfl, _, rfl, ite2 (fun _ => ?_) (fun _ => ?_)⟩⟩
    · refine ⟨_, rfl, _, rfl, d, c, m, rfl, hm, dr2, fun H3 o ts f3 dr3 ho ko _ => ?_⟩
      exact hq H3 o ts _ _ ((f1.trans f2).trans f3) dr3 (ho.wide (none_back dr2 (f1.trans f2)) fun _ _ z => z) ko
    · refine ⟨Nat.zero_le _, fun U nU => ?_⟩
      exact hq _ (.ref U) [] _ _ ((f1.trans f2).trans (Fd.new nU)) (dr2.ext (same_upd nU)) ⟨U, [], rfl, none_back dr2 (f1.trans f2) _ nU, upd_same, .nil⟩ (Nat.zero_le _)
end
theorem fst_snoc {css : List (List (List Nat))} {c : List (List Nat)} {i : Nat} (h : FstOk css) (hl : css.length = i) (hc : isFr c = decide (i = 0)) : FstOk (css ++ [c]) := fun j x e => by
  by_cases hj : j < css.length
  · rw [List.getElem?_append_left hj] at e
    exact h j x e
  · rw [List.getElem?_append_right (by omega)] at e
    have hj0 : j - css.length = 0 := by
      cases hk : j - css.length with
      | zero => rfl
      | succ k => rw [hk] at e; simp at e
    rw [hj0] at e
    obtain rfl : c = x := Option.some.inj e
    rw [hc]
    have : j = i := by omega
    rw [this]
theorem isFr_from (l u : List Nat) (ts : List (List Nat)) : isFr ([l ++ codes "from "] : List (List Nat)) = isFr ((l ++ (codes "from " ++ u)) :: ts) := by
  cases l with
  | nil => rfl
  | cons x l => show isFr [x :: _] = isFr ((x :: _) :: ts); unfold isFr; split <;> split <;> simp_all
/-- a chain, an operand, a stage, within queries of this depth -/
abbrev RPx (L : Addr → Prop) (K : PySem.W.Frag) (i : Nat) (H : Hp) := ROp (RQ L K H i) K H
abbrev RSx (L : Addr → Prop) (K : PySem.W.Frag) (i : Nat) (H : Hp) := RSt (RPx L K i H) L K H
abbrev RCx (L : Addr → Prop) (K : PySem.W.Frag) (i : Nat) (H : Hp) := RC (RPx L K i H) (RSx L K i H) L K H
section
variable {L : Addr → Prop} {K : PySem.W.Frag} {i : Nat} {H H' : Hp}
theorem RPx.ch (c : Ch L H H') {v : V} {t : List Nat} (h : RPx L K i H v t) : RPx L K i H' v t := ROp.ch c (fun _ _ z => RQ.ch c _ _ _ z) h
theorem RSx.ch (c : Ch L H H') {v : V} {t : List Nat} (h : RSx L K i H v t) : RSx L K i H' v t := RSt.ch c (fun _ _ z => RPx.ch c z) h
theorem RCx.ch (c : Ch L H H') {v : V} {t : List (List Nat)} (h : RCx L K i H v t) : RCx L K i H' v t := RC.ch c (fun _ _ z => RPx.ch c z) (fun _ _ z => RSx.ch c z) h
variable {L' : Addr → Prop}
theorem RPx.wide (w : ∀ a, L a → L' a) {v : V} {t : List Nat} (h : RPx L K i H v t) : RPx L' K i H v t := ROp.wide (fun _ _ z => RQ.wide w _ _ _ z) h
theorem RSx.wide (w : ∀ a, L a → L' a) {v : V} {t : List Nat} (h : RSx L K i H v t) : RSx L' K i H v t := RSt.wide w (fun _ _ z => RPx.wide w z) h
theorem RCx.wide (w : ∀ a, L a → L' a) {v : V} {t : List (List Nat)} (h : RCx L K i H v t) : RCx L' K i H v t := RC.wide w (fun _ _ z => RPx.wide w z) (fun _ _ z => RSx.wide w z) h
end
section
variable {P : Program} {w : World} {K : PySem.W.Frag} {mg : Str → Option Value} {base : Heap}
theorem ok_lq {f : Addr} {fd : FuncData} {j : Nat} (n : Nat) (F : Fun K "_law_query" "_law_query" s__law_query f fd) (M : Mg mg) (c__law_next : Cl P w K mg base 1 "_law_next" sp_next) (c__law_operand : Cl P w K mg base (j + 1) "_law_operand" (sp_lop K n)) (c__law_stage : Cl P w K mg base (j + 2) "_law_stage" (sp_lst K n)) : FnOk P w K mg base CX0 (j + 3) f fd ["draw", "inside", "depth"] (sp_lq K (n + 1)) := by
  refine F.ok sc__law_query (fun vs H Q E h => ?_) (fun cdv A outer s H vs Q E hr h => ?_)
  · obtain ⟨d, c, i, m, rfl, _⟩ := h
    rfl
  · obtain ⟨d, c, ins, m, rfl, hin, hm, dr, q⟩ := h
    refine ⟨_, (pss_cons (ps_set (i := 3) sc__law_query.nd rfl (.inl rfl) (pe_lst pa_nil))
      (pss_cons (ps_for PassesOwn.never rfl (pi_range1 (by rfl) M.range (pa_cons (pe_op op_add pe_int (pe_op op_fdivW (pe_u c__law_next hr (by first | decide | omega) (by rfl) (pa_cons (pv 0) (pa_cons pe_int pa_nil))) pe_int)) pa_nil)) (pg_name (i := 4) sc__law_query.nd rfl (.inl rfl)) (pss_cons (ps_set (i := 5) sc__law_query.nd rfl (.inl rfl) (pe_ifExp (pt_cmpR op_gt (pv 4) pe_int (nomark _)) (pe_ix (ix_listK K) (pe_lst (pa_cons pe_str (pa_cons pe_str (pa_cons pe_str pa_nil)))) (pe_u c__law_next hr (by first | decide | omega) (by rfl) (pa_cons (pv 0) (pa_cons pe_int pa_nil))) (fun _ _ => rfl)) pe_non))
      (pss_cons (ps_set (i := 6) sc__law_query.nd rfl (.inl rfl) (pe_u c__law_operand hr (by first | decide | omega) (by rfl) (pa_cons (pv 0) (pa_cons (pv 1) (pa_cons (pv 2) pa_nil)))))
      (pss_cons (ps_setLc (i := 7) (own := [("j", 8)]) (g := gName 8) (tt := tYes) rfl sc__law_query.nd rfl rfl (sw_true rfl rfl rfl (by decide +kernel)) (pi_range1 (by rfl) M.range (pa_cons (pe_u c__law_next hr (by first | decide | omega) (by rfl) (pa_cons (pv 0) (pa_cons pe_int pa_nil))) pa_nil)) (blkOk_by (N := N__law_query) (sc := defScope s__law_query) (by decide +kernel)) (fun _ _ _ _ _ => (pg_name (i := 8) sc__law_query.nd rfl (.inl rfl))) (fun _ _ _ _ _ => pts_nil) (fun _ _ _ _ _ => (pe_u c__law_stage hr (by first | decide | omega) (by rfl) (pa_cons (pv 0) (pa_cons (pv 1) (pa_cons (pv 2) pa_nil))))))
      (pss_one (ps_expr (pe_bmK K PySem.F.plainAttrs_list PySem.F.slot_list_append PySem.F.type_list_append mt_append (pv 3) (pa_cons (pe_tup (pa_cons (pv 5) (pa_cons (pe_tup (pa_cons (pv 6) (pa_cons (pv 7) pa_nil))) pa_nil))) pa_nil))))))))
      (pss_one (ps_ret (pv 3))))), ?_⟩
    refine ⟨Nat.zero_le _, fun U nU => ?_⟩
    have nUd := dr.nd nU
    have nUc := dr.nc nU
    have f1 : Fd d H (upd H U (.lst [])) := Fd.new nU
    have drU := dr.ext (same_upd nU (o := .lst []))
    have eU0 : (upd H U (.lst [])) U = some (.lst []) := upd_same
    generalize hHU : upd H U (.lst []) = HU at f1 drU eU0
    have LU : ¬ (HU U = none) := by rw [eU0]; exact fun z => nomatch z
    have Ld : ¬ (HU d = none) := dr_some drU
    have backU : ∀ Hx zs, Fd d H Hx → Dr Hx d c → Hx U = some (.lst zs) → ∀ a, Hx a = none → HU a = none := fun Hx zs fx dx ex a z => by
      have na : a ≠ U := fun y => by
        rw [y, ex] at z
        cases z
      rw [← hHU, upd_ne na]
      exact none_back dx fx a z
    refine ⟨_, rfl, d, c, 3, rfl, drU, by decide, by decide, fun H2 r f2 _ dr2 r0 r1 => ⟨_, _, rfl, rfl, wide_div (b := 64) (by omega) (by omega) (by decide) (by decide), _, _, rfl, rfl, _, rfl, by omega, by omega, ?_⟩⟩
    refine for_range (lo := 0) (n := (1 + r / 2).toNat) (fun i σ Hi => Fd d H Hi ∧ Dr Hi d c ∧ ∃ xs css y4 y5 y6 y7 y8, σ = [some (.ref d), some (.int (ins : Nat)), some (.int (m : Nat)), some (.ref U), y4, y5, y6, y7, y8] ∧ Hi U = some (.lst xs) ∧ F2 (RCx (fun a => HU a = none) K ins Hi) xs css ∧ css.length = i ∧ FstOk css) ⟨f1.trans f2, dr2, [], [], _, _, _, _, _, rfl, f2 _ _ nUd eU0, .nil, rfl, fun _ _ z => by simp at z⟩ (fun i σ Hi hi hp => ?_) (fun σ Hn hp => ?_)
    · obtain ⟨fi, di, xs, css, y4, y5, y6, y7, y8, rfl, eU, hf, hl, fo⟩ := hp
      have hi2 : i < 2 := by omega
      have hlen : xs.length = i := by rw [hf.len, hl]
      have val : ∀ Qc : VK, (∀ H3 v l, RHow v l → isFr ([l ++ codes "from "] : List (List Nat)) = decide (i = 0) → Fd d Hi H3 → Dr H3 d c → Qc v H3) → tIf (tTest (tOp (rI0 fun i j => V.bl (decide (j < i))) (tVar 4) (tC (V.int 0)))) (tOp (rIxL K) (tLst (tCons (tC (V.str (Str.ofString "union"))) (tCons (tC (V.str (Str.ofString "except"))) (tCons (tC (V.str (Str.ofString "intersect"))) tNil)))) (tCall sp_next [] E0 (tCons (tVar 0) (tCons (tC (V.int 3)) tNil)))) (tC V.non) [some (.ref d), some (.int (ins : Nat)), some (.int (m : Nat)), some (.ref U), some (.int (0 + (i : Nat))), y5, y6, y7, y8] Hi Qc := fun Qc qc => by
        refine ⟨_, rfl, _, _, rfl, rfl, _, rfl, ite2 (fun ek => ?_) (fun ek => ?_)⟩
        · refine ⟨by show 3 ≤ sizeLine; decide, fun p0 n0 => ?_⟩
          have ek : (0 : Int) < 0 + (i : Nat) := of_decide_eq_true ek
          have s2 := same_upd n0 (o := .lst [.str "union", .str "except", .str "intersect"])
          refine ⟨_, rfl, d, c, 3, rfl, di.ext s2, by decide, by decide, fun H3 k f3 _ dr3 k0 k1 => ?_⟩
          have e3 := f3 _ _ (di.nd n0) (show (upd Hi p0 (.lst [.str "union", .str "except", .str "intersect"])) p0 = some (.lst [.str "union", .str "except", .str "intersect"]) from upd_same)
          obtain ⟨w', hw, atw⟩ : ∃ w' ∈ SETS, atI [V.str "union", V.str "except", V.str "intersect"] k = some (.str (Str.ofString w')) := by
            have : k = 0 ∨ k = 1 ∨ k = 2 := by omega
            rcases this with rfl | rfl | rfl
            · exact ⟨"union", by decide, rfl⟩
            · exact ⟨"except", by decide, rfl⟩
            · exact ⟨"intersect", by decide, rfl⟩
          exact ⟨p0, _, _, _, rfl, rfl, .of e3, atw, qc H3 _ _ (.inr ⟨w', hw, rfl, rfl⟩) (by
            rw [decide_eq_false (show ¬ i = 0 by omega)]
            simp only [SETS, List.mem_cons, List.not_mem_nil, or_false] at hw
            rcases hw with rfl | rfl | rfl <;> decide +kernel) ((Fd.of s2).trans f3) dr3⟩
        · have ek : ¬ (0 : Int) < 0 + (i : Nat) := fun z => ek (decide_eq_true z)
          exact qc Hi _ _ (.inl ⟨rfl, rfl⟩) (by rw [decide_eq_true (show i = 0 by omega)]; decide +kernel) (Fd.refl _ _) di
      refine val _ fun H3 how l hh hfr f3 dr3 => ?_
      refine ⟨_, rfl, _, rfl, _, rfl, d, c, ins, m, rfl, by omega, hm, dr3, fun H4 o u f4 dr4 ho => ?_⟩
      have f34 := fi.trans f3
      have f44 := f34.trans f4
      refine ⟨_, rfl, d, c, 4, rfl, dr4, by decide, by decide, fun H5 b f5 _ dr5 b0 b1 => ⟨_, rfl, by omega, by omega, fun D nD => ?_⟩⟩
      have f55 := f44.trans f5
      have nDd := dr5.nd nD
      have nDc := dr5.nc nD
      have drD := dr5.ext (same_upd nD (o := .lst []))
      have fD : Fd d H5 (upd H5 D (.lst [])) := Fd.new nD
      have eD0 : (upd H5 D (.lst [])) D = some (.lst []) := upd_same
      obtain ⟨HD, hHD⟩ : ∃ HD, HD = upd H5 D (.lst []) := ⟨_, rfl⟩
      rw [← hHD] at drD fD eD0
      have LD : ¬ (HD D = none) := by rw [eD0]; exact fun z => nomatch z
      have LDd : ¬ (HD d = none) := dr_some drD
      refine lc_range (lo := 0) (n := b.toNat) (fun i Hi => Fd d H5 Hi ∧ Dr Hi d c ∧ ∃ xs' ts', Hi D = some (.lst xs') ∧ F2 (RSx (fun a => HD a = none) K ins Hi) xs' ts' ∧ ts'.length = i) ⟨Fd.new nD, by rw [← hHD]; exact drD, [], [], upd_same, .nil, rfl⟩ (fun i Hi hi hp => ?_) (fun Hn hp => ?_)
      · obtain ⟨fi, di, xs', ts', eD, hf', hl'⟩ := hp
        refine ⟨rfl, ?_⟩
        refine ⟨_, rfl, _, rfl, _, rfl, d, c, ins, m, rfl, by omega, hm, di, fun H' p t f' dr' hp => ?_⟩
        have c1 : Ch (fun a => HD a = none) Hi H' := Ch.dr di LDd f'
        have eD' := f' _ _ nDd eD
        have c2 : Ch (fun a => HD a = none) H' (upd H' D (.lst (xs' ++ [p]))) := Ch.at eD' LD
        have back : ∀ a, Hi a = none → HD a = none := fun a z => by
          have na : a ≠ D := fun y => by
            rw [y, eD] at z
            cases z
          rw [hHD, upd_ne na]
          exact none_back di fi a z
        exact ⟨xs', eD', by rw [hf'.len, hl']; exact Nat.lt_of_lt_of_le (m := 10) (by omega) (by decide), fd_at (fi.trans f') nD, dr'.upd nDd nDc, _, _, upd_same, F2.snoc (hf'.imp fun _ _ z => (z.ch c1).ch c2) ((RSx.wide back hp).ch c2), by rw [List.length_append, hl']; rfl⟩
      · obtain ⟨fn, drn, xs', ts', eD, hfn, kn⟩ := hp
        have nUD : U ≠ D := fun z => by
          have := ((f3.trans f4).trans f5) _ _ nUd eU
          rw [z, nD] at this
          cases this
        have eU5 := ((f3.trans f4).trans f5) _ _ nUd eU
        have fU := f55.trans fn
        have eU' := ((f3.trans f4).trans f5).trans fn _ _ nUd eU
        -- the new chain
        refine ⟨_, rfl, .inl ⟨rfl, _, .of eU'⟩, _, rfl, _, rfl, _, rfl, by show 2 ≤ sizeLine; decide, fun p1 np1 => ?_⟩
        refine ⟨by show 2 ≤ sizeLine; decide, fun p2 np2 => ?_⟩
        have s1 := same_upd np1 (o := .tup [o, .ref D])
        have s2 := same_upd np2 (o := .tup [how, .ref p1])
        have eU2 := s2 _ _ (s1 _ _ eU')
        refine ⟨U, _, _, rfl, rfl, eU2, by rw [hlen]; exact Nat.lt_of_lt_of_le (m := 10) (by omega) (by decide), ?_⟩
        have cS : Ch (fun a => HU a = none) Hn (upd (upd Hn p1 (.tup [o, .ref D])) p2 (.tup [how, .ref p1])) := Ch.of (s1.trans s2)
        have cU : Ch (fun a => HU a = none) (upd (upd Hn p1 (.tup [o, .ref D])) p2 (.tup [how, .ref p1])) (upd (upd (upd Hn p1 (.tup [o, .ref D])) p2 (.tup [how, .ref p1])) U (.lst (xs ++ [.ref p2]))) := Ch.at eU2 LU
        have c0 : Ch (fun a => HU a = none) Hi Hn := Ch.dr di Ld (((f3.trans f4).trans f5).trans fn)
        have c4 : Ch (fun a => HU a = none) H4 Hn := Ch.dr dr4 Ld (f5.trans fn)
        have ho' : RPx (fun a => HU a = none) K ins H4 o u := RPx.wide (backU H3 _ f34 dr3 (f3 _ _ nUd eU)) ho
        have back : ∀ a, HD a = none → HU a = none := fun a z => by
          have na : a ≠ D := fun y => by
            rw [y, eD0] at z
            cases z
          rw [hHD, upd_ne na] at z
          exact backU H5 _ f55 dr5 eU5 a z
        have dU : HU D = none := backU H5 _ f55 dr5 eU5 D nD
        refine ⟨fd_at ((fU.trans (Fd.of s1)).trans (Fd.of s2)) nU, ((drn.ext s1).ext s2).upd nUd nUc, _, _, _, _, _, _, _, rfl, upd_same, F2.snoc (hf.imp fun _ _ z => ((z.ch c0).ch cS).ch cU) ⟨p2, p1, how, l, o, .ref D, u, ts', rfl, cU.tup (.inl (.inl upd_same)), cU.tup (SqT.ext s2 (.inl (.inl upd_same))), hh, ((ho'.ch c4).ch cS).ch cU, ?_, by omega, rfl⟩, by rw [List.length_append, hl]; rfl, fst_snoc fo hl (by rw [← isFr_from]; exact hfr)⟩
        refine ⟨D, xs', rfl, dU, cU.lst ((s1.trans s2) _ _ eD) dU, hfn.imp fun _ _ z => ((RSx.wide back z).ch cS).ch cU⟩
    · obtain ⟨fi, di, xs, css, y4, y5, y6, y7, y8, rfl, eU, hf, hl, fo⟩ := hp
      exact ⟨_, rfl, q Hn _ _ fi di ⟨css, ⟨U, xs, rfl, nU, eU, hf.imp fun _ _ z => z.wide (none_back drU f1)⟩, by omega, rfl, (fun z => by rw [z] at hl; have : (0 : Nat) = (1 + r / 2).toNat := hl; omega), fo⟩ (flat_ne (fun z => by rw [z] at hl; have : (0 : Nat) = (1 + r / 2).toNat := hl; omega) (hf.all fun _ _ z => RC.ne z))⟩
theorem cl_lq {fq fo fs : Addr} {dq d_o ds : FuncData} (FQ : Fun K "_law_query" "_law_query" s__law_query fq dq) (FO : Fun K "_law_operand" "_law_operand" s__law_operand fo d_o) (FS : Fun K "_law_stage" "_law_stage" s__law_stage fs ds) (M : Mg mg)
    (gq : mg "_law_query" = some (.ref fq)) (bq : Binds K dq ["draw", "inside", "depth"] []) (go : mg "_law_operand" = some (.ref fo)) (bo : Binds K d_o ["draw", "inside", "depth"] []) (gs : mg "_law_stage" = some (.ref fs)) (bs : Binds K ds ["draw", "inside", "depth"] [])
    (N : Cl P w K mg base 1 "_law_next" sp_next) (NA : Cl P w K mg base 2 "_law_name" sp_name) (LX : Cl P w K mg base 6 "_law_expression" (sp_lex K 3)) (LO : Cl P w K mg base 7 "_law_outputs" (sp_louts K)) (LT : Cl P w K mg base 7 "_law_totals" (sp_ltots K)) : ∀ n, Cl P w K mg base (3 * n + 7) "_law_query" (sp_lq K n)
  | 0 => FnOk.cl (P := P) (w := w) (base := base) (FQ.ok sc__law_query (fun vs H Q E h => by obtain ⟨d, c, i, m, rfl, _⟩ := h; rfl) (fun cdv A outer s H vs Q E hr h => by obtain ⟨d, c, i, m, rfl, h, _⟩ := h; omega)) FQ gq bq
  | n + 1 => by
    have Q0 := cl_lq FQ FO FS M gq bq go bo gs bs N NA LX LO LT n
    have O := FnOk.cl (ok_lop (by omega) n FO M N NA Q0) FO go bo
    have S := FnOk.cl (ok_lst (by omega) n FS M N LX O LO LT) FS gs bs
    exact FnOk.cl (ok_lq (j := 3 * n + 7) n FQ M N O S) FQ gq bq
end

/-! ### the law's printing of queries -/
def sp_lpo (K : PySem.W.Frag) : Sp := fun vs H Q _ => ∃ (p : V) (t : List Nat), vs = [p] ∧ RO K H p t ∧ ∀ H', Same H H' → Q (tx t) H'
def sp_lpt (K : PySem.W.Frag) : Sp := fun vs H Q _ => ∃ (p : V) (t : List Nat), vs = [p] ∧ RTo K H p t ∧ ∀ H', Same H H' → Q (tx t) H'
section
variable {P : Program} {w : World} {K : PySem.W.Frag} {mg : Str → Option Value} {base : Heap}
theorem ok_lpo {f : Addr} {fd : FuncData} (F : Fun K "_law_print_output" "_law_print_output" s__law_print_output f fd) (M : Mg mg) (c__law_print : Cl P w K mg base 8 "_law_print" (sp_lpr K 3)) : FnOk P w K mg base CX0 9 f fd ["output"] (sp_lpo K) := by
  refine F.ok sc__law_print_output (fun vs H Q E h => ?_) (fun cdv A outer s H vs Q E hr h => ?_)
  · obtain ⟨p, t, rfl, _⟩ := h
    rfl
  · obtain ⟨p, t, rfl, ⟨a, x, e, l, rfl, hs, dp, ok, ht, hl, rfl⟩, q⟩ := h
    have hl := name_len hl
    have hp := pr2 ok ht
    obtain ⟨t, ht', hq⟩ : ∃ t, PSs (cxOf CX0 P w K mg base N__law_print_output "_law_print_output" (defScope s__law_print_output) f cdv A outer s H E).nox ((defBody s__law_print_output).drop 3) t ∧ ∀ H', Same H H' → e.last ≠ some l → t { nx := fun _ H' => Q .non H', rt := Q } [some (.ref a), some x, some (tx e.pr)] H' := by
      refine ⟨_, (pss_one (ps_ret (pe_op op_add_str (pe_op op_add_str (pv 2) pe_str) (pe_ix (ix_tupK K) (pv 0) pe_int (fun _ _ => rfl))))), fun H' s' hne => ?_⟩
      refine ⟨_, rfl, _, _, rfl, rfl, add_len (l := codes " as ") (by rw [as4]; omega), ?_⟩
      rw [codes_S " as ", add_eq]
      refine ⟨_, rfl, a, _, _, _, rfl, rfl, SqT.ext s' hs, atI_nat (j := 1) rfl, _, _, rfl, rfl, add_len (L := e.pr ++ codes " as ") (l := l) (by rw [List.length_append, as4]; omega), ?_⟩
      rw [add_eq]
      have fin := q H' s'
      unfold outT at fin
      rw [if_neg hne, ← List.append_assoc] at fin
      exact fin
    refine ⟨_, (pss_cons (ps_set (i := 1) sc__law_print_output.nd rfl (.inl rfl) (pe_ix (ix_tupK K) (pv 0) pe_int (fun _ _ => rfl)))
      (pss_cons (ps_set (i := 2) sc__law_print_output.nd rfl (.inl rfl) (pe_u c__law_print hr (by first | decide | omega) (by rfl) (pa_cons (pv 1) (pa_cons pe_int pa_nil))))
      (pss_cons (ps_if (PW.pt (pw_and (pt_cmpR (inK K) (pe_ix (ix_tupK K) (pv 1) pe_int (fun _ _ => rfl)) (pe_tup (pa_cons pe_str (pa_cons pe_str pa_nil))) (by rfl)) (pw_and1 (pt_cmpR op_eq (pe_ix (ix_tupK K) (pv 1) (pe_un un_neg pe_int) (fun _ _ => rfl)) (pe_ix (ix_tupK K) (pv 0) pe_int (fun _ _ => rfl)) (nomark _))))) (pss_one (ps_ret (pv 2))) pss_nil)
      ht'))), ?_⟩
    refine ⟨_, rfl, a, _, _, _, rfl, rfl, hs, atI_nat (j := 0) rfl, ?_⟩
    refine ⟨_, rfl, x, e, 1, rfl, dp, ok, by omega, by omega, by decide, fun H1 s1 => ?_⟩
    rw [par1]
    have dp1 := Dp.ext s1 _ _ dp
    cases hla : e.last with
    | none =>
      obtain ⟨b, ys, rfl, hs1⟩ := ex_word dp1
      refine ⟨_, rfl, b, _, _, _, rfl, rfl, hs1, atI_nat (j := 0) rfl, ?_⟩
      refine ⟨by show 2 ≤ sizeLine; decide, fun tp ntp => ?_⟩
      refine ⟨tp, _, rfl, .inr (.inl (.inl upd_same)), rfl, rfl, _, rfl, ?_⟩
      rw [if_neg Bool.false_ne_true, nf, hla]
      refine iteF ?_
      exact hq _ (s1.trans (same_upd ntp)) (by rw [hla]; exact fun z => nomatch z)
    | some m =>
      obtain ⟨b, ys, rfl, hs1, at0, atl⟩ := last_at dp1 hla
      refine ⟨_, rfl, b, _, _, _, rfl, rfl, hs1, at0, ?_⟩
      refine ⟨by show 2 ≤ sizeLine; decide, fun tp ntp => ?_⟩
      refine ⟨tp, _, rfl, .inr (.inl (.inl upd_same)), rfl, rfl, _, rfl, ?_⟩
      rw [if_neg Bool.false_ne_true, nf, hla]
      refine iteT ?_
      have s2 := s1.trans (same_upd ntp (o := .tup [.str "name", .str "field"]))
      refine ⟨_, rfl, _, rfl, b, _, _, _, rfl, rfl, SqT.ext (same_upd ntp) hs1, atl, _, rfl, a, _, _, _, rfl, rfl, SqT.ext s2 hs, atI_nat (j := 1) rfl, rfl, _, rfl, ?_⟩
      rw [txe]
      by_cases hm : m = l
      · subst hm
        rw [decide_eq_true rfl]
        refine iteT ⟨_, rfl, ?_⟩
        have fin := q _ s2
        unfold outT at fin
        rw [if_pos hla] at fin
        exact fin
      · rw [decide_eq_false hm]
        exact iteF (hq _ s2 (by rw [hla]; exact fun z => hm (Option.some.inj z)))
theorem ok_lpt {f : Addr} {fd : FuncData} (F : Fun K "_law_print_total" "_law_print_total" s__law_print_total f fd) (M : Mg mg) (c__law_print : Cl P w K mg base 8 "_law_print" (sp_lpr K 3)) : FnOk P w K mg base CX0 9 f fd ["total"] (sp_lpt K) := by
  refine F.ok sc__law_print_total (fun vs H Q E h => ?_) (fun cdv A outer s H vs Q E hr h => ?_)
  · obtain ⟨p, t, rfl, _⟩ := h
    rfl
  · obtain ⟨p, t, rfl, ⟨a, fo, l, rfl, hs, hl, h⟩, q⟩ := h
    have hl := name_len hl
    refine ⟨_, (pss_cons (ps_set (i := 1) sc__law_print_total.nd rfl (.inl rfl) (pe_ix (ix_tupK K) (pv 0) pe_int (fun _ _ => rfl)))
      (pss_cons (ps_if (pt_cmpR op_eq (pe_ix (ix_tupK K) (pv 1) pe_int (fun _ _ => rfl)) pe_str (nomark _)) (pss_one (ps_ret (pe_op op_add_str pe_str (pe_ix (ix_tupK K) (pv 0) pe_int (fun _ _ => rfl))))) pss_nil)
      (pss_one (ps_ret (pe_op op_add_str (pe_op op_add_str (pe_op op_add_str (pe_op op_add_str (pe_ix (ix_tupK K) (pv 1) pe_int (fun _ _ => rfl)) pe_str) (pe_u c__law_print hr (by first | decide | omega) (by rfl) (pa_cons (pe_ix (ix_tupK K) (pv 1) pe_int (fun _ _ => rfl)) (pa_cons pe_int pa_nil)))) pe_str) (pe_ix (ix_tupK K) (pv 0) pe_int (fun _ _ => rfl))))))), ?_⟩
    refine ⟨_, rfl, a, _, _, _, rfl, rfl, hs, atI_nat (j := 0) rfl, ?_⟩
    rcases h with ⟨hf, rfl⟩ | ⟨w', x, e, hw, hf, dp, ok, ht, rfl⟩
    · refine ⟨_, rfl, fo, _, _, _, rfl, rfl, hf, atI_nat (j := 0) rfl, rfl, _, rfl, iteT ?_⟩
      refine ⟨_, rfl, a, _, _, _, rfl, rfl, hs, atI_nat (j := 1) rfl, _, _, rfl, rfl, add_len (L := codes "count as ") (l := l) (by rw [show (codes "count as ").length = 9 by decide]; omega), ?_⟩
      rw [codes_S "count as ", add_eq]
      have fin := q H (Same.refl H)
      rw [← List.append_assoc, show codes "count" ++ codes " as " = codes "count as " by decide] at fin
      exact fin
    · have hp := pr2 ok ht
      have hw8 : (codes w').length ≤ 8 ∧ decide (V.str (Str.ofString w') = V.str "count") = false := by
        simp only [AGG, List.mem_cons, List.not_mem_nil, or_false] at hw
        rcases hw with rfl | rfl | rfl | rfl
        · exact ⟨by decide, wne "distinct" "count" (by decide +kernel)⟩
        · exact ⟨by decide, wne "sum" "count" (by decide +kernel)⟩
        · exact ⟨by decide, wne "min" "count" (by decide +kernel)⟩
        · exact ⟨by decide, wne "max" "count" (by decide +kernel)⟩
      refine ⟨_, rfl, fo, _, _, _, rfl, rfl, hf, atI_nat (j := 0) rfl, rfl, _, rfl, ?_⟩
      rw [hw8.2]
      refine iteF ?_
      rw [codes_S w'] at hf
      refine ⟨_, rfl, fo, _, _, _, rfl, rfl, hf, atI_nat (j := 0) rfl, _, _, rfl, rfl, add_len (l := [40]) (by show _ + 1 ≤ _; omega), ?_⟩
      rw [show (⟨(codes w').toArray⟩ : Str) ++ Str.ofString "(" = (⟨(codes w' ++ [40] : List Nat).toArray⟩ : Str) from add_eq _ [40]]
      refine ⟨_, rfl, fo, _, _, _, rfl, rfl, hf, atI_nat (j := 1) rfl, x, e, 1, rfl, dp, ok, by omega, by omega, by decide, fun H1 s1 => ?_⟩
      rw [par1]
      refine ⟨_, _, rfl, rfl, add_len (L := codes w' ++ [40]) (l := e.pr) (by rw [List.length_append]; show _ + 1 + _ ≤ _; omega), ?_⟩
      rw [add_eq]
      refine ⟨_, _, rfl, rfl, add_len (L := codes w' ++ [40] ++ e.pr) (l := codes ") as ") (by rw [List.length_append, List.length_append, show (codes ") as ").length = 5 by decide]; show _ + 1 + _ + _ ≤ _; omega), ?_⟩
      rw [codes_S ") as ", add_eq]
      refine ⟨_, rfl, a, _, _, _, rfl, rfl, SqT.ext s1 hs, atI_nat (j := 1) rfl, _, _, rfl, rfl, add_len (L := codes w' ++ [40] ++ e.pr ++ codes ") as ") (l := l) (by rw [List.length_append, List.length_append, List.length_append, show (codes ") as ").length = 5 by decide]; show _ + 1 + _ + _ + _ ≤ _; omega), ?_⟩
      rw [add_eq]
      have fin := q H1 s1
      rw [show codes w' ++ 40 :: (e.pr ++ 41 :: (codes " as " ++ l)) = codes w' ++ [40] ++ e.pr ++ codes ") as " ++ l by rw [show codes ") as " = 41 :: codes " as " by decide]; simp] at fin
      exact fin
end
theorem grT2 (ts us : List (List Nat)) : grT ts us = jl [32] ((codes "group" :: (if ts = [] then [] else [jl [44, 32] ts])) ++ (if us = [] then [] else [codes "with " ++ jl [44, 32] us])) := by
  unfold grT
  have hw : codes "with " = codes "with" ++ [32] := by decide
  by_cases h : us = []
  · rw [if_pos h, if_pos h]
  · rw [if_neg h, if_neg h]
    by_cases h1 : ts = []
    · rw [if_pos h1]
      show codes "group" ++ ([32] ++ (codes "with" ++ ([32] ++ jl [44, 32] us))) = codes "group" ++ ([32] ++ (codes "with " ++ jl [44, 32] us))
      rw [hw, List.append_assoc]
    · rw [if_neg h1]
      show codes "group" ++ ([32] ++ (jl [44, 32] ts ++ ([32] ++ (codes "with" ++ ([32] ++ jl [44, 32] us))))) = codes "group" ++ ([32] ++ (jl [44, 32] ts ++ ([32] ++ (codes "with " ++ jl [44, 32] us))))
      rw [hw, List.append_assoc]
def sp_lpq (K : PySem.W.Frag) (n : Nat) : Sp := fun vs H Q _ => ∃ (p : V) (L : Addr → Prop) (ls : List (List Nat)) (g : List Nat), vs = [p, tx g] ∧ g.length ≤ 30 ∧ RQ L K H n p ls ∧ n ≤ 3 ∧ suml ls + ls.length * g.length ≤ 16777216 ∧ ∀ H', Same H H' → Q (tx (jl g ls)) H'
def sp_lpp (K : PySem.W.Frag) (n : Nat) : Sp := fun vs H Q _ => ∃ (p : V) (L : Addr → Prop) (t : List Nat), vs = [p] ∧ ROp (RQ L K H n) K H p t ∧ n ≤ 2 ∧ ∀ H', Same H H' → Q (tx t) H'
def sp_lps (K : PySem.W.Frag) (n : Nat) : Sp := fun vs H Q _ => ∃ (p : V) (L : Addr → Prop) (t : List Nat), vs = [p] ∧ RSt (ROp (RQ L K H n) K H) L K H p t ∧ n ≤ 2 ∧ ∀ H', Same H H' → Q (tx t) H'
section
variable {P : Program} {w : World} {K : PySem.W.Frag} {mg : Str → Option Value} {base : Heap}
theorem ok_lpp {f : Addr} {fd : FuncData} {j : Nat} (n : Nat) (F : Fun K "_law_print_operand" "_law_print_operand" s__law_print_operand f fd) (M : Mg mg) (c__law_print_query : Cl P w K mg base j "_law_print_query" (sp_lpq K n)) : FnOk P w K mg base CX0 (j + 1) f fd ["operand"] (sp_lpp K n) := by
  refine F.ok sc__law_print_operand (fun vs H Q E h => ?_) (fun cdv A outer s H vs Q E hr h => ?_)
  · obtain ⟨p, L, t, rfl, _⟩ := h
    rfl
  · obtain ⟨p, L, t, rfl, h, hn, q⟩ := h
    have tl := h.le hn
    refine ⟨_, (pss_cons (ps_if (pt_cmpR op_eq (pe_ix (ix_tupK K) (pv 0) pe_int (fun _ _ => rfl)) pe_str (nomark _)) (pss_one (ps_ret (pe_op op_add_str (pe_op op_add_str (pe_op op_add_str pe_str (pe_u c__law_print_query hr (by first | decide | omega) (by rfl) (pa_cons (pe_ix (ix_tupK K) (pv 0) pe_int (fun _ _ => rfl)) (pa_cons pe_str pa_nil)))) pe_str) (pe_ix (ix_tupK K) (pv 0) pe_int (fun _ _ => rfl))))) pss_nil)
      (pss_cons (ps_if (pt_cmpR op_eq (pe_ix (ix_tupK K) (pv 0) pe_int (fun _ _ => rfl)) (pe_ix (ix_tupK K) (pv 0) pe_int (fun _ _ => rfl)) (nomark _)) (pss_one (ps_ret (pe_ix (ix_tupK K) (pv 0) pe_int (fun _ _ => rfl)))) pss_nil)
      (pss_one (ps_ret (pe_op op_add_str (pe_op op_add_str (pe_ix (ix_tupK K) (pv 0) pe_int (fun _ _ => rfl)) pe_str) (pe_ix (ix_tupK K) (pv 0) pe_int (fun _ _ => rfl))))))), ?_⟩
    obtain ⟨a, rfl, ⟨l, m, hs, ll, lm, rfl⟩ | ⟨qv, ls, m, hs, lm, rq, rfl⟩⟩ := h
    · have ll := name_len ll
      have lm := name_len lm
      refine ⟨_, rfl, a, _, _, _, rfl, rfl, hs, atI_nat (j := 0) rfl, rfl, _, rfl, iteF ?_⟩
      refine ⟨_, rfl, a, _, _, _, rfl, rfl, hs, atI_nat (j := 1) rfl, _, rfl, a, _, _, _, rfl, rfl, hs, atI_nat (j := 2) rfl, rfl, _, rfl, ?_⟩
      rw [txe]
      have fin := q H (Same.refl H)
      by_cases hm : l = m
      · rw [if_pos hm] at fin
        rw [decide_eq_true hm]
        exact iteT ⟨_, rfl, a, _, _, _, rfl, rfl, hs, atI_nat (j := 1) rfl, fin⟩
      · rw [if_neg hm] at fin
        rw [decide_eq_false hm]
        refine iteF ⟨_, rfl, a, _, _, _, rfl, rfl, hs, atI_nat (j := 1) rfl, _, _, rfl, rfl, add_len (L := l) (l := codes " as ") (by rw [as4]; omega), ?_⟩
        rw [codes_S " as ", add_eq]
        refine ⟨_, rfl, a, _, _, _, rfl, rfl, hs, atI_nat (j := 2) rfl, _, _, rfl, rfl, add_len (L := l ++ codes " as ") (l := m) (by rw [List.length_append, as4]; omega), ?_⟩
        rw [add_eq]
        rw [← List.append_assoc] at fin
        exact fin
    · have lm := name_len lm
      have ql := RQ.len n _ _ rq
      have := bl2 hn
      have jlen := jl_len [32] ls
      have e1 : ([32] : List Nat).length = 1 := rfl
      rw [e1] at jlen
      refine ⟨_, rfl, a, _, _, _, rfl, rfl, hs, atI_nat (j := 0) rfl, rfl, _, rfl, iteT ?_⟩
      refine ⟨_, rfl, a, _, _, _, rfl, rfl, hs, atI_nat (j := 1) rfl, qv, L, ls, [32], rfl, by decide, rq, by omega, by rw [e1]; omega, fun H1 s1 => ?_⟩
      refine ⟨_, _, rfl, rfl, add_len (L := [40]) (l := jl [32] ls) (by show 1 + _ ≤ _; omega), ?_⟩
      rw [show Str.ofString "(" ++ (⟨(jl [32] ls).toArray⟩ : Str) = (⟨([40] ++ jl [32] ls : List Nat).toArray⟩ : Str) from add_eq [40] _]
      refine ⟨_, _, rfl, rfl, add_len (L := [40] ++ jl [32] ls) (l := codes ") as ") (by rw [List.length_append, show (codes ") as ").length = 5 by decide]; show 1 + _ + _ ≤ _; omega), ?_⟩
      rw [codes_S ") as ", add_eq]
      refine ⟨_, rfl, a, _, _, _, rfl, rfl, SqT.ext s1 hs, atI_nat (j := 2) rfl, _, _, rfl, rfl, add_len (L := [40] ++ jl [32] ls ++ codes ") as ") (l := m) (by rw [List.length_append, List.length_append, show (codes ") as ").length = 5 by decide]; show 1 + _ + _ + _ ≤ _; omega), ?_⟩
      rw [add_eq]
      have fin := q H1 s1
      rw [show (40 :: (jl [32] ls ++ 41 :: (codes " as " ++ m))) = [40] ++ jl [32] ls ++ codes ") as " ++ m by rw [show codes ") as " = 41 :: codes " as " by decide]; simp] at fin
      exact fin
theorem ok_lps {f : Addr} {fd : FuncData} {j : Nat} (h9 : 9 ≤ j) (n : Nat) (F : Fun K "_law_print_stage" "_law_print_stage" s__law_print_stage f fd) (M : Mg mg) (c__law_print_operand : Cl P w K mg base j "_law_print_operand" (sp_lpp K n)) (c__law_print_output : Cl P w K mg base 9 "_law_print_output" (sp_lpo K)) (c__law_print_total : Cl P w K mg base 9 "_law_print_total" (sp_lpt K)) (c__law_print : Cl P w K mg base 8 "_law_print" (sp_lpr K 3)) : FnOk P w K mg base CX0 (j + 1) f fd ["stage"] (sp_lps K n) := by
  refine F.ok sc__law_print_stage (fun vs H Q E h => ?_) (fun cdv A outer s H vs Q E hr h => ?_)
  · obtain ⟨p, L, t, rfl, _⟩ := h
    rfl
  · obtain ⟨p, L, t, rfl, h, hn, q⟩ := h
    obtain ⟨t', ht', hq⟩ : ∃ t', PSs (cxOf CX0 P w K mg base N__law_print_stage "_law_print_stage" (defScope s__law_print_stage) f cdv A outer s H E).nox ((defBody s__law_print_stage).drop 6) t' ∧ ∀ a o ap us xs H' D y1 y2 y4 y5, SqT K H a [.str "group", o, .ref ap] → Rl L (RTo K H) H (.ref ap) us → us.length ≤ 3 → Same H H' → H D = none → H' D = some (.lst (xs.map tx)) → xs.length ≤ 2 → suml xs ≤ 7000 → (∀ H'', Same H H'' → Q (tx (jl [32] (xs ++ (if us = [] then [] else [codes "with " ++ jl [44, 32] us])))) H'') → t' { nx := fun _ H' => Q .non H', rt := Q } [some (.ref a), y1, y2, some (.ref D), y4, y5] H' := by
      refine ⟨_, (pss_cons (ps_if (pt_truthK K (pe_ix (ix_tupK K) (pv 0) pe_int (fun _ _ => rfl)) (by intro _; rfl)) (pss_one (ps_expr (pe_bmK K PySem.F.plainAttrs_list PySem.F.slot_list_append PySem.F.type_list_append mt_append (pv 3) (pa_cons (pe_op op_add_str pe_str (pe_join pe_str (pe_lc (own := [("total", 5)]) (g := gName 5) (tt := tYes) rfl sc__law_print_stage.nd (pi_list (pe_ix (ix_tupK K) (pv 0) pe_int (fun _ _ => rfl))) (blkOk_by (N := N__law_print_stage) (sc := defScope s__law_print_stage) (by decide +kernel)) (fun _ _ _ _ _ => (pg_name (i := 5) sc__law_print_stage.nd rfl (.inl rfl))) (fun _ _ _ _ _ => pts_nil) (fun _ _ _ _ _ => (pe_u c__law_print_total hr (by first | decide | omega) (by rfl) (pa_cons (pv 5) pa_nil)))))) pa_nil)))) pss_nil)
      (pss_one (ps_ret (pe_join pe_str (pv 3))))), fun a o ap us xs H' D y1 y2 y4 y5 hs hp k2 s' nD eD kx sx fq => ?_⟩
      have lp := hp.le (fun _ _ z => RTo.len z) k2
      have j2 := jl_len [44, 32] us
      have e2 : ([44, 32] : List Nat).length = 2 := rfl
      rw [e2] at j2
      obtain ⟨ap', xp, hap, Lp, ep, fp⟩ := hp
      cases hap
      have fin : ∀ Hn zs, Same H Hn → Hn D = some (.lst (zs.map tx)) → suml zs + zs.length ≤ 16777216 → Q (tx (jl [32] zs)) Hn → ∀ y4 y5, tRet (tM1 (fun x xs H_1 Q => ∃ a p ys, x = V.str a ∧ xs = [V.ref p] ∧ (SqL K H_1 p (List.map V.str ys) ∨ SqT K H_1 p (List.map V.str ys)) ∧ (List.map (fun x => x.length) ys).sum + ys.length * a.length ≤ 16777216 ∧ Q (V.str (Txt.join a ys)) H_1) (tC (V.str (Str.ofString " "))) (tVar 3)) { nx := fun _ H' => Q .non H', rt := Q } [some (.ref a), y1, y2, some (.ref D), y4, y5] Hn := fun Hn zs sn en hz hj y4 y5 => by
        rw [tx_map] at en
        refine ⟨⟨_, rfl⟩, _, rfl, _, D, _, rfl, rfl, .inl (.of en), ?_, ?_⟩
        · rw [lens_S, List.length_map]
          show _ + zs.length * 1 ≤ _
          omega
        · rw [show Txt.join (Str.ofString " ") (zs.map fun l => (⟨l.toArray⟩ : Str)) = ⟨(jl [32] zs).toArray⟩ from jl_S [32] zs]
          exact hj
      refine ⟨_, rfl, a, _, _, _, rfl, rfl, SqT.ext s' hs, atI_nat (j := 2) rfl, !xp.isEmpty, .inl ⟨xp, .of (s' _ _ ep), rfl⟩, ?_⟩
      rw [fp.emp]
      cases us with
      | nil =>
        refine iteF ?_
        refine fin H' xs s' eD (by omega) ?_ _ _
        have := fq H' s'
        rw [if_pos rfl, List.append_nil] at this
        exact this
      | cons u us =>
        refine iteT ?_
        refine ⟨_, rfl, .inl ⟨rfl, _, .of eD⟩, ⟨_, rfl⟩, _, rfl, a, _, _, _, rfl, rfl, SqT.ext s' hs, atI_nat (j := 2) rfl, ap, rfl, ⟨_, .of (s' _ _ ep)⟩, fun D2 nD2 => ?_⟩
        refine lc_txt (K := K) (a := ap) fp (by omega) (.of (s' _ _ ep)) nD2 (fun v t Hi r si Qc Nc qc => ⟨rfl, ?_⟩) (fun Hn sn eD2 => ?_)
        · exact ⟨_, rfl, v, t, rfl, r.ch (Ch.of (L := L) (s'.trans si)), qc⟩
        · rw [tx_map] at eD2
          refine ⟨_, D2, _, rfl, rfl, .inl (.of eD2), ?_, ?_⟩
          · rw [lens_S, List.length_map]
            show _ + (u :: us).length * 2 ≤ 16777216
            omega
          · rw [show Txt.join (Str.ofString ", ") ((u :: us).map fun l => (⟨l.toArray⟩ : Str)) = ⟨(jl [44, 32] (u :: us)).toArray⟩ from jl_S [44, 32] _]
            refine ⟨_, _, rfl, rfl, add_len (L := codes "with ") (l := jl [44, 32] (u :: us)) (by rw [show (codes "with ").length = 5 by decide]; omega), ?_⟩
            rw [codes_S "with ", add_eq]
            refine ⟨D, _, _, rfl, rfl, sn _ _ eD, by rw [List.length_map]; exact Nat.lt_of_lt_of_le (m := 1000) (by omega) (by decide), ?_⟩
            have sf := same_at (o := .lst (xs.map tx ++ [tx (codes "with " ++ jl [44, 32] (u :: us))])) (s'.trans sn) nD
            refine fin _ (xs ++ [codes "with " ++ jl [44, 32] (u :: us)]) sf ?_ ?_ ?_ _ _
            · rw [upd_same, List.map_append]
              rfl
            · rw [suml_app, List.length_append]
              show _ + ((codes "with " ++ jl [44, 32] (u :: us)).length + 0) + (_ + 1) ≤ _
              rw [List.length_append, show (codes "with ").length = 5 by decide]
              omega
            · have := fq _ sf
              rw [if_neg (fun z => nomatch z)] at this
              exact this
    refine ⟨_, (pss_cons (ps_if (pt_cmpR op_eq (pe_ix (ix_tupK K) (pv 0) pe_int (fun _ _ => rfl)) pe_str (nomark _)) (pss_cons (ps_set (i := 1) sc__law_print_stage.nd rfl (.inl rfl) (pe_dget (hu_of hr) (pe_disp (pps_cons pe_str pe_str (pps_cons pe_str pe_str (pps_cons pe_str pe_str (pps_cons pe_str pe_str pps_nil)))) (by rfl) (by rfl) (fun z => by cases z) (by decide)) (pe_ix (ix_tupK K) (pv 0) pe_int (fun _ _ => rfl)) (fun _ _ => rfl)))
      (pss_one (ps_ret (pe_op op_add_str (pe_op op_add_str (pe_op op_add_str (pe_op op_add_str (pv 1) pe_str) (pe_u c__law_print_operand hr (by first | decide | omega) (by rfl) (pa_cons (pe_ix (ix_tupK K) (pv 0) pe_int (fun _ _ => rfl)) pa_nil))) pe_str) (pe_u c__law_print hr (by first | decide | omega) (by rfl) (pa_cons (pe_ix (ix_tupK K) (pv 0) pe_int (fun _ _ => rfl)) (pa_cons pe_int pa_nil))))))) pss_nil)
      (pss_cons (ps_if (pt_cmpR op_eq (pe_ix (ix_tupK K) (pv 0) pe_int (fun _ _ => rfl)) pe_str (nomark _)) (pss_one (ps_ret (pe_op op_add_str pe_str (pe_u c__law_print hr (by first | decide | omega) (by rfl) (pa_cons (pe_ix (ix_tupK K) (pv 0) pe_int (fun _ _ => rfl)) (pa_cons pe_int pa_nil)))))) pss_nil)
      (pss_cons (ps_setLc (i := 2) (own := [("output", 4)]) (g := gName 4) (tt := tYes) rfl sc__law_print_stage.nd rfl rfl (sw_true rfl rfl rfl (by decide +kernel)) (pi_list (pe_ix (ix_tupK K) (pv 0) pe_int (fun _ _ => rfl))) (blkOk_by (N := N__law_print_stage) (sc := defScope s__law_print_stage) (by decide +kernel)) (fun _ _ _ _ _ => (pg_name (i := 4) sc__law_print_stage.nd rfl (.inl rfl))) (fun _ _ _ _ _ => pts_nil) (fun _ _ _ _ _ => (pe_u c__law_print_output hr (by first | decide | omega) (by rfl) (pa_cons (pv 4) pa_nil))))
      (pss_cons (ps_if (pt_cmpR op_eq (pe_ix (ix_tupK K) (pv 0) pe_int (fun _ _ => rfl)) pe_str (nomark _)) (pss_one (ps_ret (pe_op op_add_str pe_str (pe_join pe_str (pv 2))))) pss_nil)
      (pss_cons (ps_set (i := 3) sc__law_print_stage.nd rfl (.inl rfl) (pe_lst (pa_cons pe_str pa_nil)))
      (pss_cons (ps_if (pt_truthK K (pe_ix (ix_tupK K) (pv 0) pe_int (fun _ _ => rfl)) (by intro _; rfl)) (pss_one (ps_expr (pe_bmK K PySem.F.plainAttrs_list PySem.F.slot_list_append PySem.F.type_list_append mt_append (pv 3) (pa_cons (pe_join pe_str (pv 2)) pa_nil)))) pss_nil)
      ht')))))), ?_⟩
    obtain ⟨a, rfl, ⟨s', o, x, e, u, hj, hs, ho, dp, ok, ht, rfl⟩ | ⟨x, e, hs, dp, ok, ht, rfl⟩ | ⟨o, ts, hs, ho, k, rfl, _⟩ | ⟨o, p, ts, us, hs, ho, hp, k1, k2, rfl, _⟩⟩ := h
    · have ul := ho.le hn
      have el := pr2 ok ht
      have jl9 : (codes (joiT s')).length ≤ 10 := by
        simp only [JOI, List.mem_cons, List.not_mem_nil, or_false] at hj
        rcases hj with rfl | rfl | rfl | rfl <;> decide
      have hv : some (tx (codes (joiT s'))) = valV (mergeK [] ([(.inr "inner", .str "join"), (.inr "left", .str "left join"), (.inr "semi", .str "semi join"), (.inr "anti", .str "anti join")] : List (Key × V))) (.inr (Str.ofString s')) := by
        simp only [JOI, List.mem_cons, List.not_mem_nil, or_false] at hj
        rcases hj with rfl | rfl | rfl | rfl <;> decide +kernel
      refine ⟨_, rfl, a, _, _, _, rfl, rfl, hs, atI_nat (j := 0) rfl, rfl, _, rfl, iteT ?_⟩
      refine fun D nD => ?_
      refine ⟨upd_same, [(.inr "inner", .str "join"), (.inr "left", .str "left join"), (.inr "semi", .str "semi join"), (.inr "anti", .str "anti join")], rfl, by show 4 ≤ 15; decide, ?_⟩
      have s1 : Same H (upd (upd H D (.dK [])) D (.dK (mergeK [] [(.inr "inner", .str "join"), (.inr "left", .str "left join"), (.inr "semi", .str "semi join"), (.inr "anti", .str "anti join")]))) := same_at (same_upd nD) nD
      refine ⟨_, rfl, a, _, _, _, rfl, rfl, SqT.ext s1 hs, atI_nat (j := 1) rfl, D, tx (codes (joiT s')), rfl, .inl ⟨_, .inr (Str.ofString s'), .inl upd_same, rfl, hv⟩, ?_⟩
      generalize upd (upd H D (.dK [])) D (.dK (mergeK [] [(.inr "inner", .str "join"), (.inr "left", .str "left join"), (.inr "semi", .str "semi join"), (.inr "anti", .str "anti join")])) = H1 at s1
      refine ⟨_, rfl, _, _, rfl, rfl, add_len (L := codes (joiT s')) (l := [32]) (by show _ + 1 ≤ _; omega), ?_⟩
      rw [show (⟨(codes (joiT s')).toArray⟩ : Str) ++ Str.ofString " " = (⟨(codes (joiT s') ++ [32] : List Nat).toArray⟩ : Str) from add_eq _ [32]]
      refine ⟨_, rfl, a, _, _, _, rfl, rfl, SqT.ext s1 hs, atI_nat (j := 2) rfl, o, L, u, rfl, ROp.ch (Ch.of (L := L) s1) (fun _ _ z => RQ.ch (Ch.of s1) _ _ _ z) ho, hn, fun H2 s2 => ?_⟩
      refine ⟨_, _, rfl, rfl, add_len (L := codes (joiT s') ++ [32]) (l := u) (by rw [List.length_append]; show _ + 1 + _ ≤ _; omega), ?_⟩
      rw [add_eq]
      refine ⟨_, _, rfl, rfl, add_len (L := codes (joiT s') ++ [32] ++ u) (l := codes " on ") (by rw [List.length_append, List.length_append, show (codes " on ").length = 4 by decide]; show _ + 1 + _ + _ ≤ _; omega), ?_⟩
      rw [codes_S " on ", add_eq]
      refine ⟨_, rfl, a, _, _, _, rfl, rfl, SqT.ext (s1.trans s2) hs, atI_nat (j := 3) rfl, x, e, 1, rfl, Dp.ext (s1.trans s2) _ _ dp, ok, by omega, by omega, by decide, fun H3 s3 => ?_⟩
      rw [par1]
      refine ⟨_, _, rfl, rfl, add_len (L := codes (joiT s') ++ [32] ++ u ++ codes " on ") (l := e.pr) (by rw [List.length_append, List.length_append, List.length_append, show (codes " on ").length = 4 by decide]; show _ + 1 + _ + _ + _ ≤ _; omega), ?_⟩
      rw [add_eq]
      have fin := q H3 ((s1.trans s2).trans s3)
      rw [show codes (joiT s') ++ 32 :: (u ++ (codes " on " ++ e.pr)) = codes (joiT s') ++ [32] ++ u ++ codes " on " ++ e.pr by simp] at fin
      exact fin
    · have el := pr2 ok ht
      refine ⟨_, rfl, a, _, _, _, rfl, rfl, hs, atI_nat (j := 0) rfl, rfl, _, rfl, iteF ?_⟩
      refine ⟨_, rfl, a, _, _, _, rfl, rfl, hs, atI_nat (j := 0) rfl, rfl, _, rfl, iteT ?_⟩
      refine ⟨_, rfl, a, _, _, _, rfl, rfl, hs, atI_nat (j := 1) rfl, x, e, 1, rfl, dp, ok, by omega, by omega, by decide, fun H1 s1 => ?_⟩
      rw [par1]
      refine ⟨_, _, rfl, rfl, add_len (L := codes "where ") (l := e.pr) (by rw [show (codes "where ").length = 6 by decide]; omega), ?_⟩
      rw [codes_S "where ", add_eq]
      exact q H1 s1
    · have lo := ho.le (fun _ _ z => RO.len z) k
      have j1 := jl_len [44, 32] ts
      have e2 : ([44, 32] : List Nat).length = 2 := rfl
      rw [e2] at j1
      obtain ⟨ao, xo, rfl, Lo, eo, fo⟩ := ho
      refine ⟨_, rfl, a, _, _, _, rfl, rfl, hs, atI_nat (j := 0) rfl, rfl, _, rfl, iteF ?_⟩
      refine ⟨_, rfl, a, _, _, _, rfl, rfl, hs, atI_nat (j := 0) rfl, rfl, _, rfl, iteF ?_⟩
      refine ⟨_, rfl, a, _, _, _, rfl, rfl, hs, atI_nat (j := 1) rfl, ao, rfl, ⟨_, .of eo⟩, fun D nD => ?_⟩
      refine lc_txt (K := K) (a := ao) fo (by omega) (.of eo) nD (fun v t Hi r si Qc Nc qc => ⟨rfl, ?_⟩) (fun Hn sn eD => ?_)
      · exact ⟨_, rfl, v, t, rfl, r.ch (Ch.of (L := L) si), qc⟩
      · rw [tx_map] at eD
        refine ⟨_, rfl, a, _, _, _, rfl, rfl, SqT.ext sn hs, atI_nat (j := 0) rfl, rfl, _, rfl, iteT ?_⟩
        refine ⟨⟨_, rfl⟩, _, rfl, _, D, _, rfl, rfl, .inl (.of eD), ?_, ?_⟩
        · rw [lens_S, List.length_map]
          show _ + ts.length * 2 ≤ 16777216
          omega
        · rw [show Txt.join (Str.ofString ", ") (ts.map fun l => (⟨l.toArray⟩ : Str)) = ⟨(jl [44, 32] ts).toArray⟩ from jl_S [44, 32] _]
          refine ⟨_, _, rfl, rfl, add_len (L := codes "select ") (l := jl [44, 32] ts) (by rw [show (codes "select ").length = 7 by decide]; omega), ?_⟩
          rw [codes_S "select ", add_eq]
          exact q Hn sn
    · have lo := ho.le (fun _ _ z => RO.len z) k1
      have j1 := jl_len [44, 32] ts
      have e2 : ([44, 32] : List Nat).length = 2 := rfl
      rw [e2] at j1
      have hp0 := hp
      obtain ⟨ao, xo, rfl, Lo, eo, fo⟩ := ho
      obtain ⟨ap, xp, rfl, Lp, ep, fp⟩ := hp
      have fq : ∀ zs, zs = codes "group" :: (if ts = [] then [] else [jl [44, 32] ts]) → ∀ H'', Same H H'' → Q (tx (jl [32] (zs ++ (if us = [] then [] else [codes "with " ++ jl [44, 32] us])))) H'' := fun zs hz H'' s'' => by
        have := q H'' s''
        rw [grT2] at this
        rw [hz]
        exact this
      refine ⟨_, rfl, a, _, _, _, rfl, rfl, hs, atI_nat (j := 0) rfl, rfl, _, rfl, iteF ?_⟩
      refine ⟨_, rfl, a, _, _, _, rfl, rfl, hs, atI_nat (j := 0) rfl, rfl, _, rfl, iteF ?_⟩
      refine ⟨_, rfl, a, _, _, _, rfl, rfl, hs, atI_nat (j := 1) rfl, ao, rfl, ⟨_, .of eo⟩, fun D nD => ?_⟩
      refine lc_txt (K := K) (a := ao) fo (by omega) (.of eo) nD (fun v t Hi r si Qc Nc qc => ⟨rfl, ?_⟩) (fun Hn sn eD => ?_)
      · exact ⟨_, rfl, v, t, rfl, r.ch (Ch.of (L := L) si), qc⟩
      · refine ⟨_, rfl, a, _, _, _, rfl, rfl, SqT.ext sn hs, atI_nat (j := 0) rfl, rfl, _, rfl, iteF ?_⟩
        refine ⟨by show 1 ≤ sizeLine; decide, fun D2 nD2 => ?_⟩
        have s2 := sn.trans (same_upd nD2 (o := .lst [.str "group"]))
        have nD2H : H D2 = none := by
          cases z : H D2 with
          | none => rfl
          | some o => rw [sn _ _ z] at nD2; cases nD2
        have eD' := (same_upd nD2 (o := .lst [.str "group"])) _ _ eD
        have e2' : (upd Hn D2 (.lst [.str "group"])) D2 = some (.lst [.str "group"]) := upd_same
        generalize upd Hn D2 (.lst [.str "group"]) = H2 at s2 eD' e2'
        refine ⟨_, rfl, a, _, _, _, rfl, rfl, SqT.ext s2 hs, atI_nat (j := 1) rfl, !xo.isEmpty, .inl ⟨xo, .of (s2 _ _ eo), rfl⟩, ?_⟩
        rw [fo.emp]
        by_cases ht : ts = []
        · rw [ht]
          refine iteF ?_
          exact hq a _ ap us [codes "group"] H2 D2 _ _ _ _ hs hp0 k2 s2 nD2H e2' (by decide) (by decide) (fq _ (by rw [if_pos ht]))
        · rw [show (!ts.isEmpty) = true by cases ts <;> first | rfl | exact absurd rfl ht]
          refine iteT ?_
          rw [tx_map] at eD'
          refine ⟨_, rfl, .inl ⟨rfl, _, .of e2'⟩, ⟨_, rfl⟩, _, rfl, _, D, _, rfl, rfl, .inl (.of eD'), ?_, ?_⟩
          · rw [lens_S, List.length_map]
            show _ + ts.length * 2 ≤ 16777216
            omega
          · rw [show Txt.join (Str.ofString ", ") (ts.map fun l => (⟨l.toArray⟩ : Str)) = ⟨(jl [44, 32] ts).toArray⟩ from jl_S [44, 32] _]
            refine ⟨D2, _, _, rfl, rfl, e2', by show 1 < sizeLine; decide, ?_⟩
            exact hq a _ ap us [codes "group", jl [44, 32] ts] _ D2 _ _ _ _ hs hp0 k2 (same_at s2 nD2H) nD2H upd_same (Nat.le_refl 2) (by
              show (codes "group").length + ((jl [44, 32] ts).length + 0) ≤ _
              rw [show (codes "group").length = 5 by decide]
              omega) (fq _ (by rw [if_neg ht]))
end

theorem RQ.up {L : Addr → Prop} {K : PySem.W.Frag} {H : Hp} : ∀ (n : Nat) (v : V) (ls : List (List Nat)), RQ L K H n v ls → RQ L K H (n + 1) v ls
  | 0, _, _, h => h.elim
  | n + 1, _, _, ⟨css, h1, r⟩ => ⟨css, h1.wide (fun _ z => z) fun _ _ z => RC.wide (fun _ z => z) (fun _ _ y => ROp.wide (RQ.up n) y) (fun _ _ y => RSt.wide (fun _ z => z) (fun _ _ x => ROp.wide (RQ.up n) x) y) z, r⟩
theorem RQ.to3 {L : Addr → Prop} {K : PySem.W.Frag} {H : Hp} {n : Nat} {v : V} {ls : List (List Nat)} (h : RQ L K H n v ls) (k : n ≤ 3) : RQ L K H 3 v ls := by
  have : n = 0 ∨ n = 1 ∨ n = 2 ∨ n = 3 := by omega
  rcases this with rfl | rfl | rfl | rfl
  · exact h.elim
  · exact RQ.up _ _ _ (RQ.up _ _ _ h)
  · exact RQ.up _ _ _ h
  · exact h
section
variable {P : Program} {w : World} {K : PySem.W.Frag} {mg : Str → Option Value} {base : Heap}
theorem ok_lpq {f : Addr} {fd : FuncData} {j : Nat} (n : Nat) (F : Fun K "_law_print_query" "_law_print_query" s__law_print_query f fd) (M : Mg mg) (c__law_print_operand : Cl P w K mg base (j + 1) "_law_print_operand" (sp_lpp K n)) (c__law_print_stage : Cl P w K mg base (j + 2) "_law_print_stage" (sp_lps K n)) : FnOk P w K mg base CX0 (j + 3) f fd ["query", "gap"] (sp_lpq K (n + 1)) := by
  refine F.ok sc__law_print_query (fun vs H Q E h => ?_) (fun cdv A outer s H vs Q E hr h => ?_)
  · obtain ⟨p, L, ls, g, rfl, _⟩ := h
    rfl
  · obtain ⟨p, L, ls, g, rfl, hg, ⟨css, ⟨a, xs, rfl, hL, eL, hf⟩, k, rfl, _⟩, hn, hz, q⟩ := h
    have hfl := hf.len
    refine ⟨_, (pss_cons (ps_set (i := 2) sc__law_print_query.nd rfl (.inl rfl) (pe_lst pa_nil))
      (pss_cons (ps_for PassesOwn.never rfl (pi_list (pv 0)) (pg_tup (by rfl) (pgs_cons (pg_name (i := 3) sc__law_print_query.nd rfl (.inl rfl)) (pgs_cons (pg_name (i := 4) sc__law_print_query.nd rfl (.inl rfl)) pgs_nil))) (pss_cons (ps_set (i := 5) sc__law_print_query.nd rfl (.inl rfl) (pe_op op_add_str pe_str (pe_u c__law_print_operand hr (by first | decide | omega) (by rfl) (pa_cons (pe_ix (ix_tupK K) (pv 4) pe_int (fun _ _ => rfl)) pa_nil))))
      (pss_cons (ps_if (pt_cmpR op_notN (pv 3) pe_non (nomark _)) (pss_one (ps_set (i := 5) sc__law_print_query.nd rfl (.inl rfl) (pe_op op_add_str (pe_op op_add_str (pv 3) pe_str) (pv 5)))) pss_nil)
      (pss_cons (ps_expr (pe_bmK K PySem.F.plainAttrs_list PySem.F.slot_list_append PySem.F.type_list_append mt_append (pv 2) (pa_cons (pv 5) pa_nil)))
      (pss_one (ps_expr (pe_bmK K PySem.F.plainAttrs_list PySem.F.slot_list_extend PySem.F.type_list_extend mt_extend (pv 2) (pa_cons (pe_lc (own := [("stage", 6)]) (g := gName 6) (tt := tYes) rfl sc__law_print_query.nd (pi_list (pe_ix (ix_tupK K) (pv 4) pe_int (fun _ _ => rfl))) (blkOk_by (N := N__law_print_query) (sc := defScope s__law_print_query) (by decide +kernel)) (fun _ _ _ _ _ => (pg_name (i := 6) sc__law_print_query.nd rfl (.inl rfl))) (fun _ _ _ _ _ => pts_nil) (fun _ _ _ _ _ => (pe_u c__law_print_stage hr (by first | decide | omega) (by rfl) (pa_cons (pv 6) pa_nil)))) pa_nil))))))))
      (pss_one (ps_ret (pe_join (pv 1) (pv 2)))))), ?_⟩
    refine ⟨Nat.zero_le _, fun D nD => ?_⟩
    refine ⟨_, rfl, a, rfl, ⟨_, .of ((same_upd nD) _ _ eL)⟩, ?_⟩
    refine for_list (K := K) (a := a) (xs := xs) (fun i σ Hi => Same H Hi ∧ Hi D = some (.lst ((css.take i).flatten.map tx)) ∧ (css.take i).flatten.length ≤ 4 * i ∧ ∃ y3 y4 y5 y6, σ = [some (.ref a), some (tx g), some (.ref D), y3, y4, y5, y6]) ⟨same_upd nD, upd_same, Nat.le_refl _, _, _, _, _, rfl⟩ (fun i σ Hi _ hp => .of (hp.1 _ _ eL)) (fun i x σ Hi hx hp => ?_) (fun σ Hn hp => ?_)
    · obtain ⟨si, eD, li, y3, y4, y5, y6, rfl⟩ := hp
      obtain ⟨c, hc, rc⟩ := hf.get hx
      have hi : i < 2 := by have := (List.getElem?_eq_some_iff.mp hc).1; omega
      obtain ⟨a', b, how, l, o, sp, u, ts, rfl, hs1, hs2, hh, ho, hst, kt, rfl⟩ := rc
      have ul := ho.le (by omega)
      have lh := how_len hh
      have lt1000 : (1000 : Nat) < sizeLine := by decide
      refine ⟨a', _, rfl, SqT.ext si hs1, rfl, _, _, rfl, _, _, rfl, rfl, ?_⟩
      refine ⟨_, rfl, b, _, _, _, rfl, rfl, SqT.ext si hs2, atI_nat (j := 0) rfl, o, L, u, rfl, ho.ch (Ch.of (L := L) si) (fun v t z => RQ.ch (Ch.of si) n v t z), by omega, fun H1 s1 => ?_⟩
      refine ⟨_, _, rfl, rfl, add_len (L := codes "from ") (l := u) (by rw [show (codes "from ").length = 5 by decide]; omega), ?_⟩
      rw [codes_S "from ", add_eq]
      have s01 := si.trans s1
      have eD1 := s1 _ _ eD
      rcases hh with ⟨rfl, rfl⟩ | ⟨s', hs', rfl, rfl⟩
      · refine ⟨_, rfl, rfl, _, rfl, iteF ?_⟩
        · refine ⟨_, rfl, .inl ⟨rfl, _, .of eD1⟩, _, rfl, D, _, _, rfl, rfl, eD1, by rw [List.length_map]; omega, ?_⟩
          have s2 : Same H (upd H1 D (.lst ((css.take i).flatten.map tx ++ [V.str ⟨(codes "from " ++ u : List Nat).toArray⟩]))) := same_at s01 nD
          have e2 : (upd H1 D (.lst ((css.take i).flatten.map tx ++ [V.str ⟨(codes "from " ++ u : List Nat).toArray⟩]))) D = some (.lst ((css.take i).flatten.map tx ++ [V.str ⟨(codes "from " ++ u : List Nat).toArray⟩])) := upd_same
          generalize upd H1 D (.lst ((css.take i).flatten.map tx ++ [V.str ⟨(codes "from " ++ u : List Nat).toArray⟩])) = H2 at s2 e2
          have st2 := hst.ch (R' := RSt (ROp (RQ L K H2 n) K H2) L K H2) (Ch.of (L := L) s2) fun v t z => z.ch (Ch.of (L := L) s2) fun v t y => y.ch (Ch.of (L := L) s2) fun v t x => RQ.ch (Ch.of s2) n v t x
          obtain ⟨as, xst, rfl, hLs, es, fs⟩ := st2
          refine ⟨_, rfl, .inl ⟨rfl, _, .of e2⟩, _, rfl, b, _, _, _, rfl, rfl, SqT.ext s2 hs2, atI_nat (j := 1) rfl, as, rfl, ⟨_, .of es⟩, fun D2 nD2 => ?_⟩
          refine lc_txt (K := K) (a := as) fs (by omega) (.of es) nD2 (fun v t H3 r s3 Qc Nc qc => ⟨rfl, ?_⟩) (fun Hn sn eD2 => ?_)
          · exact ⟨_, rfl, v, L, t, rfl, r.ch (Ch.of (L := L) s3) (fun v t y => y.ch (Ch.of (L := L) s3) fun v t x => RQ.ch (Ch.of s3) n v t x), by omega, qc⟩
          · have eDn := sn _ _ e2
            refine ⟨D, D2, _, _, rfl, rfl, eDn, eD2, by rw [List.length_append, List.length_map, List.length_map]; show _ + 1 + _ ≤ _; omega, ?_⟩
            refine ⟨same_at (s2.trans sn) nD, ?_, ?_, _, _, _, _, rfl⟩
            · rw [upd_same, flat_take css i _ hc, List.map_append, List.map_cons, List.append_assoc]
              rfl
            · rw [flat_take css i _ hc, List.length_append, List.length_cons]
              omega
      · have ls : (codes s').length ≤ 10 := by rw [List.length_append] at lh; omega
        refine ⟨_, rfl, rfl, _, rfl, iteT ?_⟩
        · refine ⟨_, rfl, _, _, rfl, rfl, by rw [codes_S s', S_len']; exact Nat.le_trans (m := 100) (by show _ + 1 ≤ 100; omega) (by decide), ?_⟩
          rw [show Str.ofString s' ++ Str.ofString " " = (⟨(codes s' ++ [32] : List Nat).toArray⟩ : Str) by rw [codes_S s']; exact add_eq _ [32]]
          refine ⟨_, rfl, _, _, rfl, rfl, add_len (L := codes s' ++ [32]) (l := codes "from " ++ u) (by rw [List.length_append, List.length_append, show (codes "from ").length = 5 by decide]; show _ + 1 + _ ≤ _; omega), ?_⟩
          rw [add_eq]
          refine ⟨_, rfl, .inl ⟨rfl, _, .of eD1⟩, _, rfl, D, _, _, rfl, rfl, eD1, by rw [List.length_map]; omega, ?_⟩
          have s2 : Same H (upd H1 D (.lst ((css.take i).flatten.map tx ++ [V.str ⟨(codes s' ++ [32] ++ (codes "from " ++ u) : List Nat).toArray⟩]))) := same_at s01 nD
          have e2 : (upd H1 D (.lst ((css.take i).flatten.map tx ++ [V.str ⟨(codes s' ++ [32] ++ (codes "from " ++ u) : List Nat).toArray⟩]))) D = some (.lst ((css.take i).flatten.map tx ++ [V.str ⟨(codes s' ++ [32] ++ (codes "from " ++ u) : List Nat).toArray⟩])) := upd_same
          generalize upd H1 D (.lst ((css.take i).flatten.map tx ++ [V.str ⟨(codes s' ++ [32] ++ (codes "from " ++ u) : List Nat).toArray⟩])) = H2 at s2 e2
          have st2 := hst.ch (R' := RSt (ROp (RQ L K H2 n) K H2) L K H2) (Ch.of (L := L) s2) fun v t z => z.ch (Ch.of (L := L) s2) fun v t y => y.ch (Ch.of (L := L) s2) fun v t x => RQ.ch (Ch.of s2) n v t x
          obtain ⟨as, xst, rfl, hLs, es, fs⟩ := st2
          refine ⟨_, rfl, .inl ⟨rfl, _, .of e2⟩, _, rfl, b, _, _, _, rfl, rfl, SqT.ext s2 hs2, atI_nat (j := 1) rfl, as, rfl, ⟨_, .of es⟩, fun D2 nD2 => ?_⟩
          refine lc_txt (K := K) (a := as) fs (by omega) (.of es) nD2 (fun v t H3 r s3 Qc Nc qc => ⟨rfl, ?_⟩) (fun Hn sn eD2 => ?_)
          · exact ⟨_, rfl, v, L, t, rfl, r.ch (Ch.of (L := L) s3) (fun v t y => y.ch (Ch.of (L := L) s3) fun v t x => RQ.ch (Ch.of s3) n v t x), by omega, qc⟩
          · have eDn := sn _ _ e2
            refine ⟨D, D2, _, _, rfl, rfl, eDn, eD2, by rw [List.length_append, List.length_map, List.length_map]; show _ + 1 + _ ≤ _; omega, ?_⟩
            refine ⟨same_at (s2.trans sn) nD, ?_, ?_, _, _, _, _, rfl⟩
            · rw [upd_same, flat_take css i _ hc, List.map_append, List.map_cons, List.append_assoc]
              rfl
            · rw [flat_take css i _ hc, List.length_append, List.length_cons]
              omega
    · obtain ⟨sn, eD, _, y3, y4, y5, y6, rfl⟩ := hp
      rw [hfl, List.take_length] at eD
      rw [tx_map] at eD
      refine ⟨_, rfl, ⟨_, rfl⟩, _, rfl, _, D, _, rfl, rfl, .inl (.of eD), ?_, ?_⟩
      · rw [lens_S, List.length_map, S_len']
        exact hz
      · rw [jl_S]
        exact q Hn sn
theorem cl_lpq {fq fo fs : Addr} {dq d_o ds : FuncData} (FQ : Fun K "_law_print_query" "_law_print_query" s__law_print_query fq dq) (FO : Fun K "_law_print_operand" "_law_print_operand" s__law_print_operand fo d_o) (FS : Fun K "_law_print_stage" "_law_print_stage" s__law_print_stage fs ds) (M : Mg mg)
    (gq : mg "_law_print_query" = some (.ref fq)) (bq : Binds K dq ["query", "gap"] []) (go : mg "_law_print_operand" = some (.ref fo)) (bo : Binds K d_o ["operand"] []) (gs : mg "_law_print_stage" = some (.ref fs)) (bs : Binds K ds ["stage"] [])
    (LO : Cl P w K mg base 9 "_law_print_output" (sp_lpo K)) (LT : Cl P w K mg base 9 "_law_print_total" (sp_lpt K)) (LP : Cl P w K mg base 8 "_law_print" (sp_lpr K 3)) : ∀ n, Cl P w K mg base (3 * n + 9) "_law_print_query" (sp_lpq K n)
  | 0 => FnOk.cl (P := P) (w := w) (base := base) (FQ.ok sc__law_print_query (fun vs H Q E h => by obtain ⟨p, L, ls, g, rfl, _⟩ := h; rfl) (fun cdv A outer s H vs Q E hr h => by obtain ⟨p, L, ls, g, rfl, _, h, _⟩ := h; exact h.elim)) FQ gq bq
  | n + 1 => by
    have Q0 := cl_lpq FQ FO FS M gq bq go bo gs bs LO LT LP n
    have O := FnOk.cl (ok_lpp n FO M Q0) FO go bo
    have S := FnOk.cl (ok_lps (by omega) n FS M O LO LT LP) FS gs bs
    exact FnOk.cl (ok_lpq (j := 3 * n + 9) n FQ M O S) FQ gq bq
end

/-! ### how deep data are -/
/-- the data of an expression are as deep as it is high -/
theorem Sh.mono {D : PyData} : ∀ {n : Nat}, Sh n D → ∀ {m : Nat}, n ≤ m → Sh m D := by
  intro n h
  induction h with
  | non => exact fun _ => .non
  | bl b => exact fun _ => .bl b
  | int i => exact fun _ => .int i
  | str x => exact fun _ => .str x
  | lst l _ ih =>
    intro m hm
    obtain ⟨k, rfl⟩ : ∃ k, m = k + 1 := ⟨m - 1, by omega⟩
    exact .lst l fun d hd => ih d hd (by omega)
  | tup l _ ih =>
    intro m hm
    obtain ⟨k, rfl⟩ : ∃ k, m = k + 1 := ⟨m - 1, by omega⟩
    exact .tup l fun d hd => ih d hd (by omega)
theorem sh_tup {n : Nat} {ds : List PyData} (l : ds.length ≤ 100) (h : ∀ d ∈ ds, Sh n d) : Sh (n + 1) (.tuple ds) := .tup (Nat.le_trans l (by decide)) h
theorem ex_sh : ∀ e : Ex, Sh (e.ht + 1) e.d
  | .num n => sh_tup (by show 2 ≤ 100; decide) fun d hd => by
    rcases List.mem_cons.mp hd with rfl | hd
    · exact .str _
    · rw [List.mem_singleton.mp hd]; exact .int _
  | .text l => sh_tup (by show 2 ≤ 100; decide) fun d hd => by
    rcases List.mem_cons.mp hd with rfl | hd
    · exact .str _
    · rw [List.mem_singleton.mp hd]; exact .str _
  | .truth b => sh_tup (by show 2 ≤ 100; decide) fun d hd => by
    rcases List.mem_cons.mp hd with rfl | hd
    · exact .str _
    · rw [List.mem_singleton.mp hd]; exact .int _
  | .null => sh_tup (by show 1 ≤ 100; decide) fun d hd => by
    rw [List.mem_singleton.mp hd]; exact .str _
  | .name l => sh_tup (by show 2 ≤ 100; decide) fun d hd => by
    rcases List.mem_cons.mp hd with rfl | hd
    · exact .str _
    · rw [List.mem_singleton.mp hd]; exact .str _
  | .field l m => sh_tup (by show 3 ≤ 100; decide) fun d hd => by
    rcases List.mem_cons.mp hd with rfl | hd
    · exact .str _
    · rcases List.mem_cons.mp hd with rfl | hd
      · exact .str _
      · rw [List.mem_singleton.mp hd]; exact .str _
  | .neg a => sh_tup (by show 2 ≤ 100; decide) fun d hd => by
    rcases List.mem_cons.mp hd with rfl | hd
    · exact .str _
    · rw [List.mem_singleton.mp hd]; exact ex_sh a
  | .nt a => sh_tup (by show 2 ≤ 100; decide) fun d hd => by
    rcases List.mem_cons.mp hd with rfl | hd
    · exact .str _
    · rw [List.mem_singleton.mp hd]; exact ex_sh a
  | .f1 m a => sh_tup (by show 2 ≤ 100; decide) fun d hd => by
    rcases List.mem_cons.mp hd with rfl | hd
    · exact .str _
    · rw [List.mem_singleton.mp hd]; exact ex_sh a
  | .bin o a b => sh_tup (by show 3 ≤ 100; decide) fun d hd => by
    rcases List.mem_cons.mp hd with rfl | hd
    · exact .str _
    · rcases List.mem_cons.mp hd with rfl | hd
      · exact (ex_sh a).mono (by show a.ht + 1 ≤ max a.ht b.ht + 1; omega)
      · rw [List.mem_singleton.mp hd]; exact (ex_sh b).mono (by show b.ht + 1 ≤ max a.ht b.ht + 1; omega)
  | .f2 m a b => sh_tup (by show 3 ≤ 100; decide) fun d hd => by
    rcases List.mem_cons.mp hd with rfl | hd
    · exact .str _
    · rcases List.mem_cons.mp hd with rfl | hd
      · exact (ex_sh a).mono (by show a.ht + 1 ≤ max a.ht b.ht + 1; omega)
      · rw [List.mem_singleton.mp hd]; exact (ex_sh b).mono (by show b.ht + 1 ≤ max a.ht b.ht + 1; omega)
  | .f3 a b c => sh_tup (by show 4 ≤ 100; decide) fun d hd => by
    rcases List.mem_cons.mp hd with rfl | hd
    · exact .str _
    · rcases List.mem_cons.mp hd with rfl | hd
      · exact (ex_sh a).mono (by show a.ht + 1 ≤ max a.ht (max b.ht c.ht) + 1; omega)
      · rcases List.mem_cons.mp hd with rfl | hd
        · exact (ex_sh b).mono (by show b.ht + 1 ≤ max a.ht (max b.ht c.ht) + 1; omega)
        · rw [List.mem_singleton.mp hd]; exact (ex_sh c).mono (by show c.ht + 1 ≤ max a.ht (max b.ht c.ht) + 1; omega)
theorem sh_one {n : Nat} {d : PyData} (h : Sh n d) : ∀ x ∈ [d], Sh n x := fun x hx => by rw [List.mem_singleton.mp hx]; exact h
theorem sh_two {n : Nat} {d e : PyData} (h : Sh n d) (h2 : Sh n e) : ∀ x ∈ [d, e], Sh n x := fun x hx => by
  rcases List.mem_cons.mp hx with rfl | hx
  · exact h
  · exact sh_one h2 x hx
theorem sh_three {n : Nat} {d e f : PyData} (h : Sh n d) (h2 : Sh n e) (h3 : Sh n f) : ∀ x ∈ [d, e, f], Sh n x := fun x hx => by
  rcases List.mem_cons.mp hx with rfl | hx
  · exact h
  · exact sh_two h2 h3 x hx
theorem sh_lst {n : Nat} {ds : List PyData} (l : ds.length ≤ 100) (h : ∀ d ∈ ds, Sh n d) : Sh (n + 1) (.list ds) := .lst (Nat.le_trans l (by decide)) h
theorem Lx.few {n : Nat} {s : List Nat} {T : List (Kv × Nat)} (h : Lx n s T) : T.length ≤ s.length := by
  induction h with
  | nil => exact Nat.le_refl _
  | @cons s kv rest ts ht _ ih =>
    have h1 := tok_len ht
    have h2 := skip_le rest
    rw [List.length_cons]
    omega

/-! ### what stands between tokens -/
theorem nl_sk (tail : List Nat) : skip (10 :: tail) = skip tail := by rw [skip_cons, if_pos (show isBl 10 = true from rfl)]
theorem bl_sk {c : Nat} (h : isBl c = true) (tail : List Nat) : skip (c :: tail) = skip tail := by rw [skip_cons, if_pos h]
theorem rem_sk (l tail : List Nat) (h : 10 ∉ l) : skip (35 :: (l ++ 10 :: tail)) = skip tail := by
  rw [skip_cons, if_neg (by decide), if_pos rfl]
  have : toNl (l ++ 10 :: tail) = 10 :: tail := by
    unfold toNl
    induction l with
    | nil => rfl
    | cons c l ih =>
      rw [List.cons_append, List.dropWhile_cons_of_pos (by simpa using fun z : c = 10 => h (by rw [z]; exact List.mem_cons_self ..))]
      exact ih fun z => h (List.mem_cons_of_mem _ z)
  rw [this, nl_sk]

/-! ### the texts of queries, token by token -/
inductive LL : List (List Nat) → List (List Kv) → Prop
  | nil : LL [] []
  | cons {s : List Nat} {k : List Kv} {ss : List (List Nat)} {ks : List (List Kv)} (h : Lexs s k) (r : LL ss ks) : LL (s :: ss) (k :: ks)
theorem LL.len {ss : List (List Nat)} {ks : List (List Kv)} (h : LL ss ks) : ss.length = ks.length := by
  induction h with
  | nil => rfl
  | cons _ _ ih => rw [List.length_cons, List.length_cons, ih]
theorem LL.app {ss tt : List (List Nat)} {ks ls : List (List Kv)} (h : LL ss ks) (h2 : LL tt ls) : LL (ss ++ tt) (ks ++ ls) := by
  induction h with
  | nil => exact h2
  | cons h _ ih => exact .cons h ih
theorem LexTo.nil (tail : List Nat) : LexTo [] [] tail := fun n T hx => ⟨[], rfl, hx⟩
theorem LL.cj : ∀ {ss : List (List Nat)} {ks : List (List Kv)}, LL ss ks → Lexs (jl [44, 32] ss) (cj ks)
  | _, _, .nil => fun tail _ => LexTo.nil tail
  | _, _, .cons (s := s) (k := k) h .nil => h
  | _, _, .cons (s := s) (k := k) h (.cons h2 r) => fun tail ht => comma s k h _ _ _ ((LL.cj (.cons h2 r)) tail ht)
/-- what stands between the parts of a query -/
structure GapOk (g : List Nat) : Prop where
  sk : ∀ tail, skip (g ++ tail) = skip tail
  ok : ∀ tail, OkT (g ++ tail)
theorem gap_sp : GapOk [32] := ⟨fun tail => by
  rw [List.singleton_append, skip_cons, if_pos (show isBl 32 = true from rfl)], fun tail => OkT.c (by decide) tail⟩
theorem GapOk.to {g : List Nat} (h : GapOk g) (tail : List Nat) : LexTo g [] tail := fun n T hx => ⟨[], rfl, by rw [h.sk]; exact hx⟩
theorem LL.gap {g : List Nat} (hg : GapOk g) : ∀ {ss : List (List Nat)} {ks : List (List Kv)}, LL ss ks → Lexs (jl g ss) ks.flatten
  | _, _, .nil => fun tail _ => LexTo.nil tail
  | _, _, .cons (s := s) (k := k) h .nil => by
    show Lexs s (k ++ [])
    rw [List.append_nil]
    exact h
  | _, _, .cons (s := s) (k := k) h (.cons (s := s2) (k := k2) (ss := ss) (ks := ks) h2 r) => fun tail ht => by
    show LexTo (s ++ (g ++ jl g (s2 :: ss))) (k ++ ([] ++ (k2 :: ks).flatten)) tail
    exact (h _ (by rw [List.append_assoc]; exact hg.ok _)).app ((hg.to _).app ((LL.gap hg (.cons h2 r)) tail ht))
theorem Lexs.as {s : List Nat} {k : List Kv} {l : List Nat} (h : Lexs s k) (hl : NmOk l) : Lexs (s ++ (codes " as " ++ l)) (k ++ [wK "as", .word l]) := fun tail ht => by
  rw [show s ++ (codes " as " ++ l) = s ++ ([32] ++ (codes "as" ++ ([32] ++ l))) by rw [show codes " as " = [32] ++ (codes "as" ++ [32]) by decide +kernel]; simp,
    show k ++ [wK "as", Kv.word l] = k ++ ([] ++ ([wK "as"] ++ ([] ++ [Kv.word l]))) by simp]
  exact (h _ (OkT.c (by decide) _)).app ((LexTo.sp _).app ((word_lex (by decide +kernel) (by decide) _).app ((LexTo.sp _).app (LexTo.ok (tok_name hl.1) ht.gap))))
theorem Lexs.name {l : List Nat} (hl : NmOk l) : Lexs l [.word l] := fun tail ht => LexTo.ok (tok_name hl.1) ht.gap
/-- a word, a blank, and what comes behind it -/
theorem Lexs.wd {s : List Nat} {k : List Kv} (w ws : String) (hw : Str.ofString w ∈ RES) (e : codes ws = codes w ++ [32]) (h : Lexs s k) : Lexs (codes ws ++ s) (wK w :: k) := fun tail ht => by
  rw [e, List.append_assoc, show wK w :: k = [wK w] ++ ([] ++ k) by rfl]
  exact (word_lex hw (by decide) _).app ((LexTo.sp _).app (h tail ht))
theorem GE.of {e : Ex} (ok : e.ok) (ht : e.ht ≤ 2) : GE 5 e (tkC e) := ⟨ok, by omega, 4, by decide, by decide, Gx.to (tkC_G e ok 4 (by omega)) (by decide) (lev_le e).1 (lev_le e).2⟩
section
variable {K : PySem.W.Frag} {H : Hp} {L : Addr → Prop}
theorem RO.g {v : V} {t : List Nat} (h : RO K H v t) : ∃ d ks, Dp K H v d ∧ Lexs t ks ∧ GO 5 d ks := by
  obtain ⟨a, x, e, l, rfl, hs, dp, ok, ht, nl, rfl⟩ := h
  have dd : Dp K H (.ref a) (.tuple [e.d, .str ⟨l.toArray⟩]) := .tup hs (.cons dp (.cons (.str _) .nil))
  unfold outT
  by_cases hl : e.last = some l
  · rw [if_pos hl]
    exact ⟨_, _, dd, pr_lex e ok, e, l, _, GE.of ok ht, nl, rfl, .inl ⟨hl, rfl⟩⟩
  · rw [if_neg hl]
    exact ⟨_, _, dd, (pr_lex e ok).as nl, e, l, _, GE.of ok ht, nl, rfl, .inr rfl⟩
theorem agg_res (w : String) (h : w ∈ AGG) : Str.ofString w ∈ RES := by
  simp only [AGG, List.mem_cons, List.not_mem_nil, or_false] at h
  rcases h with rfl | rfl | rfl | rfl <;> decide +kernel
theorem RTo.g {v : V} {t : List Nat} (h : RTo K H v t) : ∃ d ks, Dp K H v d ∧ Lexs t ks ∧ GTo 5 d ks := by
  obtain ⟨a, f, l, rfl, hs, nl, ⟨hc, rfl⟩ | ⟨w, x, e, hw, hc, dp, ok, ht, rfl⟩⟩ := h
  · exact ⟨.tuple [.tuple [.str "count"], .str ⟨l.toArray⟩], _, .tup hs (.cons (.tup hc (.cons (.str _) .nil)) (.cons (.str _) .nil)), Lexs.as (k := [wK "count"]) (fun tail ht => LexTo.ok (tok_name (res_name (Str.ofString "count") (by decide +kernel))) ht.gap) nl, _, _, l, nl, rfl, rfl, .inl ⟨rfl, rfl⟩⟩
  · refine ⟨.tuple [.tuple [.str (Str.ofString w), e.d], .str ⟨l.toArray⟩], _, .tup hs (.cons (.tup hc (.cons (.str _) (.cons dp .nil))) (.cons (.str _) .nil)), ?_, _, _, l, nl, rfl, rfl, .inr ⟨w, e, _, hw, GE.of ok ht, rfl, rfl⟩⟩
    have := (Lexs.f1 (agg_res w hw) (pr_lex e ok)).as nl
    rw [show codes w ++ 40 :: (e.pr ++ 41 :: (codes " as " ++ l)) = codes w ++ 40 :: (e.pr ++ [41]) ++ (codes " as " ++ l) by simp]
    exact this
theorem F2.a2 {R : V → List Nat → Prop} {G : PyData → List Kv → Prop} (i : ∀ v t, R v t → ∃ d ks, Dp K H v d ∧ Lexs t ks ∧ G d ks) {xs : List V} {ts : List (List Nat)} (h : F2 R xs ts) : ∃ ds kss, DpAll K H xs ds ∧ LL ts kss ∧ A2 G ds kss := by
  induction h with
  | nil => exact ⟨[], [], .nil, .nil, .nil⟩
  | cons h _ ih =>
    obtain ⟨ds, kss, h1, h2, h3⟩ := ih
    obtain ⟨d, ks, g1, g2, g3⟩ := i _ _ h
    exact ⟨d :: ds, ks :: kss, .cons g1 h1, .cons g2 h2, .cons g3 h3⟩
theorem Rl.a2 {R : V → List Nat → Prop} {G : PyData → List Kv → Prop} (i : ∀ v t, R v t → ∃ d ks, Dp K H v d ∧ Lexs t ks ∧ G d ks) {v : V} {ts : List (List Nat)} (h : Rl L R H v ts) : ∃ ds kss, Dp K H v (.list ds) ∧ LL ts kss ∧ A2 G ds kss ∧ ds.length = ts.length := by
  obtain ⟨a, xs, rfl, _, e, h⟩ := h
  obtain ⟨ds, kss, h1, h2, h3⟩ := h.a2 i
  exact ⟨ds, kss, .lst (.of e) h1, h2, h3, by rw [h3.len, h2.len]⟩
theorem ROp.g {Rq : V → List (List Nat) → Prop} {Gq : PyData → List Kv → Prop} (i : ∀ q ls, Rq q ls → ∃ d kss, Dp K H q d ∧ LL ls kss ∧ Gq d kss.flatten) {v : V} {t : List Nat} (h : ROp Rq K H v t) : ∃ d ks, Dp K H v d ∧ Lexs t ks ∧ GP Gq d ks := by
  obtain ⟨a, rfl, ⟨l, m, hs, nl, nm, rfl⟩ | ⟨q, ls, m, hs, nm, hq, rfl⟩⟩ := h
  · have dd : Dp K H (.ref a) (.tuple [.str "named", .str ⟨l.toArray⟩, .str ⟨m.toArray⟩]) := .tup hs (.cons (.str _) (.cons (.str _) (.cons (.str _) .nil)))
    by_cases e : l = m
    · rw [if_pos e]
      exact ⟨_, _, dd, .name nl, .inl ⟨l, m, nl, nm, rfl, .inl ⟨e, rfl⟩⟩⟩
    · rw [if_neg e]
      exact ⟨_, _, dd, (Lexs.name nl).as nm, .inl ⟨l, m, nl, nm, rfl, .inr rfl⟩⟩
  · obtain ⟨d, kss, dq, hl, hg⟩ := i _ _ hq
    refine ⟨.tuple [.str "inside", d, .str ⟨m.toArray⟩], _, .tup hs (.cons (.str _) (.cons dq (.cons (.str _) .nil))), ?_, .inr ⟨d, _, m, nm, hg, rfl, rfl⟩⟩
    have base : Lexs ([40] ++ (jl [32] ls ++ [41])) ([sK "("] ++ (kss.flatten ++ [sK ")"])) := fun tail ht =>
      (LexTo.sg (by decide) _).app (((LL.gap gap_sp hl) _ (OkT.c (by decide) _)).app (LexTo.sg (by decide) _))
    have := base.as nm
    rw [show 40 :: (jl [32] ls ++ 41 :: (codes " as " ++ m)) = [40] ++ (jl [32] ls ++ [41]) ++ (codes " as " ++ m) by simp, show sK "(" :: (kss.flatten ++ [sK ")", wK "as", Kv.word m]) = [sK "("] ++ (kss.flatten ++ [sK ")"]) ++ [wK "as", Kv.word m] by simp]
    exact this
theorem joi_lex (s : String) (h : s ∈ JOI) (tail : List Nat) : LexTo (codes (joiT s)) (joiK s) (32 :: tail) := by
  have two : ∀ s : String, Str.ofString s ∈ RES → LexTo (codes s ++ ([32] ++ codes "join")) ([wK s] ++ ([] ++ [wK "join"])) (32 :: tail) := fun s hs =>
    (word_lex hs (by decide) _).app ((LexTo.sp _).app (word_lex (by decide +kernel) (by decide) _))
  simp only [JOI, List.mem_cons, List.not_mem_nil, or_false] at h
  rcases h with rfl | rfl | rfl | rfl
  · exact word_lex (s := "join") (by decide +kernel) (by decide) tail
  · exact two "left" (by decide +kernel)
  · exact two "semi" (by decide +kernel)
  · exact two "anti" (by decide +kernel)
theorem Lexs.on {s t : List Nat} {k ke : List Kv} (h : Lexs s k) (h2 : Lexs t ke) : Lexs (s ++ (codes " on " ++ t)) (k ++ wK "on" :: ke) := fun tail ht => by
  rw [show s ++ (codes " on " ++ t) = s ++ ([32] ++ (codes "on" ++ ([32] ++ t))) by rw [show codes " on " = [32] ++ (codes "on" ++ [32]) by decide +kernel]; simp,
    show k ++ wK "on" :: ke = k ++ ([] ++ ([wK "on"] ++ ([] ++ ke))) by simp]
  exact (h _ (OkT.c (by decide) _)).app ((LexTo.sp _).app ((word_lex (by decide +kernel) (by decide) _).app ((LexTo.sp _).app (h2 _ ht))))
theorem gr_lex {ts us : List (List Nat)} {kts kus : List (List Kv)} (h : LL ts kts) (h2 : LL us kus) (ne : ts ≠ [] ∨ us ≠ []) : Lexs (grT ts us) (wK "group" :: (cj kts ++ if us = [] then [] else wK "with" :: cj kus)) := by
  have gw : Lexs (codes "group") [wK "group"] := fun tail ht => LexTo.ok (tok_name (res_name (Str.ofString "group") (by decide +kernel))) ht.gap
  have ww : Lexs (codes "with") [wK "with"] := fun tail ht => LexTo.ok (tok_name (res_name (Str.ofString "with") (by decide +kernel))) ht.gap
  have a1 : ∃ k1, LL (if ts = [] then [] else [jl [44, 32] ts]) k1 ∧ k1.flatten = cj kts := by
    by_cases e : ts = []
    · subst e
      cases h
      exact ⟨[], .nil, rfl⟩
    · rw [if_neg e]
      exact ⟨[cj kts], .cons h.cj .nil, by simp⟩
  have a2 : ∃ k2, LL (if us = [] then [] else [codes "with", jl [44, 32] us]) k2 ∧ k2.flatten = if us = [] then [] else wK "with" :: cj kus := by
    by_cases e : us = []
    · rw [if_pos e, if_pos e]
      exact ⟨[], .nil, rfl⟩
    · rw [if_neg e, if_neg e]
      exact ⟨[[wK "with"], cj kus], .cons ww (.cons h2.cj .nil), by simp⟩
  obtain ⟨k1, b1, c1⟩ := a1
  obtain ⟨k2, b2, c2⟩ := a2
  have := LL.gap gap_sp ((LL.cons gw b1).app b2)
  rw [List.flatten_append, List.flatten_cons, c1, c2] at this
  exact this
theorem RSt.g {Rp : V → List Nat → Prop} {Gp : PyData → List Kv → Prop} (i : ∀ v t, Rp v t → ∃ d ks, Dp K H v d ∧ Lexs t ks ∧ Gp d ks) {v : V} {t : List Nat} (h : RSt Rp L K H v t) : ∃ d ks, Dp K H v d ∧ Lexs t ks ∧ GS 5 Gp d ks := by
  obtain ⟨a, rfl, ⟨s, o, x, e, u, hj, hs, ho, dp, ok, ht, rfl⟩ | ⟨x, e, hs, dp, ok, ht, rfl⟩ | ⟨o, ts, hs, ho, k, rfl, ne⟩ | ⟨o, p, ts, us, hs, ho, hp, k1, k2, rfl, ne⟩⟩ := h
  · obtain ⟨d, ks, h1, h2, h3⟩ := i _ _ ho
    refine ⟨.tuple [.str "join", .str (Str.ofString s), d, e.d], joiK s ++ (ks ++ wK "on" :: tkC e), .tup hs (.cons (.str _) (.cons (.str _) (.cons h1 (.cons dp .nil)))), fun tail ht => ?_, .inl ⟨s, d, ks, e, _, hj, h3, GE.of ok (by assumption), rfl, rfl⟩⟩
    rw [show codes (joiT s) ++ 32 :: (u ++ (codes " on " ++ e.pr)) = codes (joiT s) ++ ([32] ++ (u ++ (codes " on " ++ e.pr))) by simp, show joiK s ++ (ks ++ wK "on" :: tkC e) = joiK s ++ ([] ++ (ks ++ wK "on" :: tkC e)) by simp]
    exact (joi_lex s hj _).app ((LexTo.sp _).app ((h2.on (pr_lex e ok)) tail ht))
  · exact ⟨.tuple [.str "where", e.d], _, .tup hs (.cons (.str _) (.cons dp .nil)), Lexs.wd "where" "where " (by decide +kernel) (by decide +kernel) (pr_lex e ok), .inr (.inl ⟨e, _, GE.of ok ht, rfl, rfl⟩)⟩
  · obtain ⟨ds, kss, h1, h2, h3, h4⟩ := ho.a2 fun _ _ z => z.g
    refine ⟨.tuple [.str "select", .list ds], _, .tup hs (.cons (.str _) (.cons h1 .nil)), Lexs.wd "select" "select " (by decide +kernel) (by decide +kernel) h2.cj, .inr (.inr (.inl ⟨ds, kss, h3, fun z => ?_, by omega, rfl, rfl⟩))⟩
    rw [z] at h4
    exact ne (List.length_eq_zero_iff.mp h4.symm)
  · obtain ⟨ds, kss, h1, h2, h3, h4⟩ := ho.a2 fun _ _ z => z.g
    obtain ⟨es, lss, g1, g2, g3, g4⟩ := hp.a2 fun _ _ z => z.g
    have nil_of : ∀ {ds : List PyData} {ts : List (List Nat)}, ds.length = ts.length → ts ≠ [] → ds ≠ [] := fun e n z => n (by rw [z] at e; exact List.length_eq_zero_iff.mp e.symm)
    refine ⟨.tuple [.str "group", .list ds, .list es], _, .tup hs (.cons (.str _) (.cons h1 (.cons g1 .nil))), gr_lex h2 g2 ne, .inr (.inr (.inr ⟨ds, kss, es, lss, h3, g3, ?_, by omega, by omega, rfl, ?_⟩))⟩
    · exact ne.elim (fun z => .inl (nil_of h4 z)) (fun z => .inr (nil_of g4 z))
    · by_cases e : us = []
      · have : es = [] := by rw [e] at g4; exact List.length_eq_zero_iff.mp g4
        rw [if_pos e, if_pos this]
      · rw [if_neg e, if_neg (nil_of g4 e)]
theorem RC.g {Rp Rs : V → List Nat → Prop} {Gp : PyData → List Kv → Prop} (i : ∀ v t, Rp v t → ∃ d ks, Dp K H v d ∧ Lexs t ks ∧ Gp d ks) (j : ∀ v t, Rs v t → ∃ d ks, Dp K H v d ∧ Lexs t ks ∧ GS 5 Gp d ks) {v : V} {ls : List (List Nat)} (h : RC Rp Rs L K H v ls) : ∃ d kss, Dp K H v d ∧ LL ls kss ∧ GC 5 Gp (isFr ls) d kss.flatten := by
  obtain ⟨a, b, how, l, o, p, u, ts, rfl, hs, hs2, hh, ho, hp, hk, rfl⟩ := h
  obtain ⟨d, ks, h1, h2, h3⟩ := i _ _ ho
  obtain ⟨ds, kss, g1, g2, g3, g4⟩ := hp.a2 j
  have fr : Lexs (codes "from " ++ u) (wK "from" :: ks) := Lexs.wd "from" "from " (by decide +kernel) (by decide +kernel) h2
  rcases hh with ⟨rfl, rfl⟩ | ⟨s, hs', rfl, rfl⟩
  · exact ⟨.tuple [.none, .tuple [d, .list ds]], (wK "from" :: ks) :: kss, .tup hs (.cons .non (.cons (.tup hs2 (.cons h1 (.cons g1 .nil))) .nil)), .cons fr g2, d, ks, ds, kss, h3, g3, by omega, .inl ⟨rfl, rfl, rfl⟩⟩
  · have hR : Str.ofString s ∈ RES := by
      simp only [SETS, List.mem_cons, List.not_mem_nil, or_false] at hs'
      rcases hs' with rfl | rfl | rfl <;> decide +kernel
    have hf : isFr ((codes s ++ [32] ++ (codes "from " ++ u)) :: ts) = false := by
      simp only [SETS, List.mem_cons, List.not_mem_nil, or_false] at hs'
      rcases hs' with rfl | rfl | rfl <;> rfl
    have fr2 : Lexs (codes s ++ [32] ++ (codes "from " ++ u)) (wK s :: wK "from" :: ks) := fun tail ht => by
      rw [List.append_assoc, show wK s :: wK "from" :: ks = [wK s] ++ ([] ++ (wK "from" :: ks)) by rfl]
      exact (word_lex hR (by decide) _).app ((LexTo.sp _).app (fr tail ht))
    refine ⟨.tuple [.str (Str.ofString s), .tuple [d, .list ds]], (wK s :: wK "from" :: ks) :: kss, .tup hs (.cons (.str _) (.cons (.tup hs2 (.cons h1 (.cons g1 .nil))) .nil)), .cons fr2 g2, d, ks, ds, kss, h3, g3, by omega, .inr ⟨hf, s, hs', rfl, rfl⟩⟩
theorem F2.a3 {R : V → List (List Nat) → Prop} {G : Bool → PyData → List Kv → Prop} {b : Bool} (i : ∀ v ls, R v ls → ∃ d kss, Dp K H v d ∧ LL ls kss ∧ G (isFr ls) d kss.flatten) {xs : List V} {css : List (List (List Nat))} (h : F2 R xs css) : (∀ c ∈ css, isFr c = b) → ∃ ds ksss tss, DpAll K H xs ds ∧ LL css.flatten ksss ∧ A2 (G b) ds tss ∧ ksss.flatten = tss.flatten := by
  induction h with
  | nil => exact fun _ => ⟨[], [], [], .nil, .nil, .nil, rfl⟩
  | @cons v c vs cs h _ ih =>
    intro hb
    obtain ⟨ds, ksss, tss, h1, h2, h3, h4⟩ := ih fun c hc => hb c (List.mem_cons_of_mem _ hc)
    obtain ⟨d, kss, g1, g2, g3⟩ := i _ _ h
    rw [hb c (List.mem_cons_self ..)] at g3
    exact ⟨d :: ds, kss ++ ksss, kss.flatten :: tss, .cons g1 h1, g2.app h2, .cons g3 h3, by rw [List.flatten_append, List.flatten_cons, h4]⟩
theorem F2.lenD {xs : List V} {ds : List PyData} (h : DpAll K H xs ds) : xs.length = ds.length := DpAll.len h
theorem RQ.g : ∀ (n : Nat) (v : V) (ls : List (List Nat)), RQ L K H n v ls → ∃ d kss, Dp K H v d ∧ LL ls kss ∧ GQ 5 n d kss.flatten
  | 0, _, _, h => h.elim
  | n + 1, v, ls, ⟨css, ⟨a, xs, ev, _, ea, hf⟩, hk, el, hne, hfo⟩ => by
    subst ev
    subst el
    have ip := fun v t (z : ROp (RQ L K H n) K H v t) => z.g (RQ.g n)
    have ic := fun v ls (z : RC (ROp (RQ L K H n) K H) (RSt (ROp (RQ L K H n) K H) L K H) L K H v ls) => z.g ip fun v t y => y.g ip
    cases hf with
    | nil => exact absurd rfl hne
    | @cons v c vs cs h r =>
      obtain ⟨d, kss, g1, g2, g3⟩ := ic _ _ h
      rw [show isFr c = true from hfo 0 c rfl] at g3
      obtain ⟨ds, ksss, tss, h1, h2, h3, h4⟩ := r.a3 (G := GC 5 (GP (GQ 5 n))) (b := false) ic fun c' hc' => by
        obtain ⟨j, hj, e⟩ := List.getElem_of_mem hc'
        have := hfo (j + 1) c' (by rw [List.getElem?_cons_succ, List.getElem?_eq_getElem hj, e])
        rw [this]
        exact decide_eq_false (by omega)
      refine ⟨.list (d :: ds), kss ++ ksss, .lst (.of ea) (.cons g1 h1), by rw [List.flatten_cons]; exact g2.app h2, d, ds, _, tss, g3, h3, ?_, rfl, by rw [List.flatten_append, h4]⟩
      have a1 := DpAll.len h1
      have a2 := r.len
      rw [List.length_cons] at hk
      omega
end
/-! ### how deep they are -/
theorem sh_mem {n : Nat} {R : PyData → List Kv → Prop} {ds : List PyData} {ts : List (List Kv)} (h : A2 R ds ts) (i : ∀ d t, R d t → Sh n d) : ∀ d ∈ ds, Sh n d := by
  induction h with
  | nil => intro d hd; cases hd
  | cons h _ ih =>
    intro d hd
    rcases List.mem_cons.mp hd with rfl | hd
    · exact i _ _ h
    · exact ih d hd
theorem sh_many {n : Nat} {ds : List PyData} (l : ds.length ≤ 1000) (h : ∀ d ∈ ds, Sh n d) : Sh (n + 1) (.list ds) := .lst (Nat.le_trans l (by decide)) h
section
variable {z : Nat}
theorem GE.sh {e : Ex} {te : List Kv} (h : GE z e te) : Sh 31 e.d := (ex_sh e).mono (by have := h.2.1; omega)
theorem GO.sh {d : PyData} {ts : List Kv} (h : GO z d ts) : Sh 32 d := by
  obtain ⟨e, l, te, g, _, rfl, _⟩ := h
  exact sh_tup (by show 2 ≤ 100; decide) (sh_two g.sh (.str _))
theorem GTo.sh {d : PyData} {ts : List Kv} (h : GTo z d ts) : Sh 33 d := by
  obtain ⟨f, tf, l, _, rfl, _, ⟨rfl, _⟩ | ⟨w, e, te, _, g, rfl, _⟩⟩ := h
  · exact sh_tup (by show 2 ≤ 100; decide) (sh_two (sh_tup (by show 1 ≤ 100; decide) (sh_one (.str _))) (.str _))
  · exact sh_tup (by show 2 ≤ 100; decide) (sh_two (sh_tup (by show 2 ≤ 100; decide) (sh_two (.str _) g.sh)) (.str _))
theorem GP.sh {n : Nat} {Gq : PyData → List Kv → Prop} (i : ∀ d t, Gq d t → Sh n d) {d : PyData} {ts : List Kv} (h : GP Gq d ts) : Sh (n + 1) d := by
  obtain ⟨l, m, _, _, rfl, _⟩ | ⟨q, tq, m, _, g, rfl, _⟩ := h
  · exact sh_tup (by show 3 ≤ 100; decide) (sh_three (.str _) (.str _) (.str _))
  · exact sh_tup (by show 3 ≤ 100; decide) (sh_three (.str _) (i _ _ g) (.str _))
theorem GS.sh {n : Nat} (hn : 34 ≤ n) {Gp : PyData → List Kv → Prop} (i : ∀ d t, Gp d t → Sh n d) {d : PyData} {ts : List Kv} (h : GS z Gp d ts) : Sh (n + 1) d := by
  obtain ⟨h, o, to, e, te, _, g, ge, rfl, _⟩ | ⟨e, te, ge, rfl, _⟩ | ⟨ds, tss, a, _, k, rfl, _⟩ | ⟨ds, tss, us, uss, a, b, _, k, k2, rfl, _⟩ := h
  · refine sh_tup (by show 4 ≤ 100; decide) fun x hx => ?_
    rcases List.mem_cons.mp hx with rfl | hx
    · exact .str _
    · exact sh_three (.str _) (i _ _ g) (ge.sh.mono (by omega)) x hx
  · exact sh_tup (by show 2 ≤ 100; decide) (sh_two (.str _) (ge.sh.mono (by omega)))
  · exact sh_tup (by show 2 ≤ 100; decide) (sh_two (.str _) ((sh_many k (sh_mem a fun _ _ z => z.sh)).mono (by omega)))
  · exact sh_tup (by show 3 ≤ 100; decide) (sh_three (.str _) ((sh_many k (sh_mem a fun _ _ z => z.sh)).mono (by omega)) ((sh_many k2 (sh_mem b fun _ _ z => z.sh)).mono (by omega)))
theorem GC.sh {n : Nat} (hn : 34 ≤ n) {Gp : PyData → List Kv → Prop} (i : ∀ d t, Gp d t → Sh n d) {b : Bool} {d : PyData} {ts : List Kv} (h : GC z Gp b d ts) : Sh (n + 4) d := by
  obtain ⟨o, to, ss, sss, g, a, k, h⟩ := h
  have c : Sh (n + 3) (.tuple [o, .list ss]) := sh_tup (by show 2 ≤ 100; decide) (sh_two ((i _ _ g).mono (by omega)) (sh_many k (sh_mem a fun _ _ z => z.sh hn i)))
  rcases h with ⟨_, rfl, _⟩ | ⟨_, s, _, rfl, _⟩
  · exact sh_tup (by show 2 ≤ 100; decide) (sh_two .non c)
  · exact sh_tup (by show 2 ≤ 100; decide) (sh_two (.str _) c)
theorem GQ.sh : ∀ (n : Nat) (d : PyData) (ts : List Kv), GQ z n d ts → Sh (6 * n + 34) d
  | 0, _, _, h => h.elim
  | n + 1, _, _, ⟨c, cs, t, tss, hc, ha, hk, e, _⟩ => by
    subst e
    have ip := fun d t (y : GP (GQ z n) d t) => y.sh (GQ.sh n)
    refine (Sh.lst (n := 6 * n + 39) (by rw [List.length_cons]; exact Nat.le_trans (m := 1001) (by omega) (by decide)) fun d hd => ?_).mono (by omega)
    rcases List.mem_cons.mp hd with rfl | hd
    · exact GC.sh (by omega) ip hc
    · exact sh_mem ha (fun _ _ y => GC.sh (by omega) ip y) d hd
end

/-! ### items on the heap -/
def RCol (K : PySem.W.Frag) (H : Hp) (v : V) (t : List Nat) : Prop := ∃ a l k, v = .ref a ∧ SqT K H a [tx l, tx k] ∧ NmOk l ∧ k ∈ KND.map codes ∧ t = l ++ 32 :: k
theorem knd_len {k : List Nat} (h : k ∈ KND.map codes) : k.length ≤ 5 := by
  have : ∀ k ∈ KND.map codes, k.length ≤ 5 := by decide +kernel
  exact this k h
def stT (l : List Nat) (ls : List (List Nat)) : List Nat := codes "step " ++ (l ++ (codes " =" ++ ((ls.map fun x => 10 :: 32 :: 32 :: x).flatten ++ codes ";")))
def taT (l : List Nat) (ts : List (List Nat)) : List Nat := codes "table " ++ (l ++ (codes " (" ++ (jl [44, 32] ts ++ codes ");")))
def RIt (L : Addr → Prop) (K : PySem.W.Frag) (H : Hp) (v : V) (t : List Nat) : Prop := ∃ a l, v = .ref a ∧ NmOk l ∧
  ((∃ cs ts, SqT K H a [.str "table", tx l, cs] ∧ Rl L (RCol K H) H cs ts ∧ ts.length ≤ 3 ∧ t = taT l ts ∧ ts ≠ []) ∨
    ∃ q ls, SqT K H a [.str "step", tx l, q] ∧ RQ L K H 3 q ls ∧ ls ≠ [] ∧ t = stT l ls)
section
variable {L : Addr → Prop} {K : PySem.W.Frag} {H H' : Hp}
theorem RCol.ch (c : Ch L H H') {v : V} {t : List Nat} (h : RCol K H v t) : RCol K H' v t := by
  obtain ⟨a, l, k, h1, h2, r⟩ := h
  exact ⟨a, l, k, h1, c.tup h2, r⟩
theorem RIt.ch (c : Ch L H H') {v : V} {t : List Nat} (h : RIt L K H v t) : RIt L K H' v t := by
  obtain ⟨a, l, h1, hl, ⟨cs, ts, h2, h3, r⟩ | ⟨q, ls, h2, h3, r⟩⟩ := h
  · exact ⟨a, l, h1, hl, .inl ⟨cs, ts, c.tup h2, h3.ch c fun _ _ z => z.ch c, r⟩⟩
  · exact ⟨a, l, h1, hl, .inr ⟨q, ls, c.tup h2, RQ.ch c _ _ _ h3, r⟩⟩
theorem RIt.wide {L' : Addr → Prop} (w : ∀ a, L a → L' a) {v : V} {t : List Nat} (h : RIt L K H v t) : RIt L' K H v t := by
  obtain ⟨a, l, h1, hl, ⟨cs, ts, h2, h3, r⟩ | ⟨q, ls, h2, h3, r⟩⟩ := h
  · exact ⟨a, l, h1, hl, .inl ⟨cs, ts, h2, h3.wide w fun _ _ z => z, r⟩⟩
  · exact ⟨a, l, h1, hl, .inr ⟨q, ls, h2, RQ.wide w _ _ _ h3, r⟩⟩
theorem RCol.len {v : V} {t : List Nat} (h : RCol K H v t) : t.length ≤ 30 := by
  obtain ⟨a, l, k, _, _, hl, hk, rfl⟩ := h
  have hl := name_len hl
  have hk := knd_len hk
  rw [List.length_append, List.length_cons]
  omega
theorem RC.few {Rp Rs : V → List Nat → Prop} {v : V} {ls : List (List Nat)} (h : RC Rp Rs L K H v ls) : ls.length ≤ 4 := by
  obtain ⟨_, _, _, _, _, _, _, _, _, _, _, _, _, _, k, rfl⟩ := h
  rw [List.length_cons]
  omega
theorem flat_few : ∀ css : List (List (List Nat)), (∀ c ∈ css, c.length ≤ 4) → css.flatten.length ≤ css.length * 4
  | [], _ => Nat.zero_le _
  | c :: css, h => by
    have h1 := h c (List.mem_cons_self ..)
    have := flat_few css fun x hx => h x (List.mem_cons_of_mem _ hx)
    rw [List.flatten_cons, List.length_append, List.length_cons, Nat.add_mul]
    omega
theorem RQ.few {n : Nat} {v : V} {ls : List (List Nat)} (h : RQ L K H n v ls) : ls.length ≤ 8 := by
  cases n with
  | zero => exact h.elim
  | succ n =>
    obtain ⟨css, ⟨a, xs, _, _, _, hf⟩, k, rfl, _⟩ := h
    have := flat_few css (hf.all fun _ _ z => RC.few z)
    omega
theorem pre_len : ∀ ls : List (List Nat), ((ls.map fun x => 10 :: 32 :: 32 :: x).flatten).length = suml ls + 3 * ls.length
  | [] => rfl
  | l :: ls => by
    have := pre_len ls
    rw [List.map_cons, List.flatten_cons, List.length_append, this]
    show l.length + 3 + (suml ls + 3 * ls.length) = l.length + suml ls + 3 * (ls.length + 1)
    omega
theorem pre_jl : ∀ ls : List (List Nat), ls ≠ [] → (ls.map fun x => 10 :: 32 :: 32 :: x).flatten = [10, 32, 32] ++ jl [10, 32, 32] ls
  | [], h => absurd rfl h
  | [p], _ => by
    show (10 :: 32 :: 32 :: p) ++ [] = [10, 32, 32] ++ p
    rw [List.append_nil]
    rfl
  | p :: q :: r, _ => by
    have := pre_jl (q :: r) (fun z => nomatch z)
    rw [List.map_cons, List.flatten_cons, this]
    rfl
theorem jl_pre : ∀ (ls : List (List Nat)) (hd : List Nat), jl [10] (hd :: ls.map fun x => 32 :: 32 :: x) = hd ++ (ls.map fun x => 10 :: 32 :: 32 :: x).flatten
  | [], hd => by
    show hd = hd ++ []
    rw [List.append_nil]
  | x :: ls, hd => by
    have := jl_pre ls (32 :: 32 :: x)
    show hd ++ ([10] ++ jl [10] ((32 :: 32 :: x) :: ls.map fun x => 32 :: 32 :: x)) = _
    rw [this]
    rfl
theorem taT_len {l : List Nat} {ts : List (List Nat)} (hl : l.length ≤ 21) (h : suml ts ≤ 3 * 30) (k : ts.length ≤ 3) : (taT l ts).length ≤ 150 := by
  have j1 := jl_len [44, 32] ts
  have e2 : ([44, 32] : List Nat).length = 2 := rfl
  rw [e2] at j1
  unfold taT
  rw [List.length_append, List.length_append, List.length_append, List.length_append, show (codes "table ").length = 6 by decide, show (codes " (").length = 2 by decide, show (codes ");").length = 2 by decide]
  omega
theorem stT_len {l : List Nat} {ls : List (List Nat)} (hl : l.length ≤ 21) (h : suml ls + ls.length ≤ 4990000) (k : ls.length ≤ 8) : (stT l ls).length ≤ 4990050 := by
  unfold stT
  rw [List.length_append, List.length_append, List.length_append, List.length_append, show (codes "step ").length = 5 by decide, show (codes " =").length = 2 by decide, show (codes ";").length = 1 by decide, pre_len]
  omega
theorem RIt.len {v : V} {t : List Nat} (h : RIt L K H v t) : t.length ≤ 4990050 := by
  obtain ⟨a, l, _, hl, h⟩ := h
  have hl := name_len hl
  rcases h with ⟨cs, ts, _, h3, k, rfl, _⟩ | ⟨q, ls, _, h3, _, rfl⟩
  · have := taT_len hl (h3.le (fun _ _ z => z.len) k) k
    omega
  · have := RQ.len 3 _ _ h3
    have := bl3 (Nat.le_refl 3)
    exact stT_len hl (by omega) (RQ.few h3)
end
theorem F2.mapR {β γ : Type} {R : V → β → Prop} {f : β → γ} {vs : List V} {ts : List β} (h : F2 R vs ts) : F2 (fun v u => ∃ t, R v t ∧ u = f t) vs (ts.map f) := by
  induction h with
  | nil => exact .nil
  | cons h _ ih => exact .cons ⟨_, h, rfl⟩ ih

/-! ### the law's items -/
def sp_lits (K : PySem.W.Frag) : Sp := fun vs H Q _ => ∃ (d c : Addr) (i m : Nat), vs = [.ref d, .int (i : Nat), .int (m : Nat)] ∧ i ≤ 2 ∧ m ≤ 2 ∧ Dr H d c ∧ ∀ H' p ts, Fd d H H' → Dr H' d c → Rl (fun a => H a = none) (RIt (fun a => H a = none) K H') H' p ts → ts.length ≤ 3 → ts ≠ [] → Q p H'
def sp_lpi (K : PySem.W.Frag) : Sp := fun vs H Q _ => ∃ (p : V) (L : Addr → Prop) (t : List Nat), vs = [p] ∧ RIt L K H p t ∧ ∀ H', Same H H' → Q (tx t) H'
section
variable {P : Program} {w : World} {K : PySem.W.Frag} {mg : Str → Option Value} {base : Heap}
theorem ok_lits {f : Addr} {fd : FuncData} (F : Fun K "_law_items" "_law_items" s__law_items f fd) (M : Mg mg) (c__law_next : Cl P w K mg base 1 "_law_next" sp_next) (c__law_name : Cl P w K mg base 2 "_law_name" sp_name) (c__law_query : Cl P w K mg base 16 "_law_query" (sp_lq K 3)) : FnOk P w K mg base CX0 17 f fd ["draw", "inside", "depth"] (sp_lits K) := by
  refine F.ok sc__law_items (fun vs H Q E h => ?_) (fun cdv A outer s H vs Q E hr h => ?_)
  · obtain ⟨d, c, i, m, rfl, _⟩ := h
    rfl
  · obtain ⟨d, c, ins, m, rfl, hin, hm, dr, q⟩ := h
    refine ⟨_, (pss_cons (ps_set (i := 3) sc__law_items.nd rfl (.inl rfl) (pe_lst pa_nil))
      (pss_cons (ps_for PassesOwn.never rfl (pi_range1 (by rfl) M.range (pa_cons (pe_op op_add pe_int (pe_u c__law_next hr (by first | decide | omega) (by rfl) (pa_cons (pv 0) (pa_cons pe_int pa_nil)))) pa_nil)) (pg_name (i := 4) sc__law_items.nd rfl (.inl rfl)) (pss_cons (ps_set (i := 5) sc__law_items.nd rfl (.inl rfl) (pe_u c__law_name hr (by first | decide | omega) (by rfl) (pa_cons (pv 0) pa_nil)))
      (pss_one (ps_if (pt_cmpR op_eq (pe_u c__law_next hr (by first | decide | omega) (by rfl) (pa_cons (pv 0) (pa_cons pe_int pa_nil))) pe_int (nomark _)) (pss_cons (ps_set (i := 6) sc__law_items.nd rfl (.inl rfl) (pe_lst pa_nil))
      (pss_cons (ps_for PassesOwn.never rfl (pi_range1 (by rfl) M.range (pa_cons (pe_op op_add pe_int (pe_u c__law_next hr (by first | decide | omega) (by rfl) (pa_cons (pv 0) (pa_cons pe_int pa_nil)))) pa_nil)) (pg_name (i := 7) sc__law_items.nd rfl (.inl rfl)) (pss_one (ps_expr (pe_bmK K PySem.F.plainAttrs_list PySem.F.slot_list_append PySem.F.type_list_append mt_append (pv 6) (pa_cons (pe_tup (pa_cons (pe_u c__law_name hr (by first | decide | omega) (by rfl) (pa_cons (pv 0) pa_nil)) (pa_cons (pe_ix (ix_listK K) (pe_lst (pa_cons pe_str (pa_cons pe_str (pa_cons pe_str pa_nil)))) (pe_u c__law_next hr (by first | decide | omega) (by rfl) (pa_cons (pv 0) (pa_cons pe_int pa_nil))) (fun _ _ => rfl)) pa_nil))) pa_nil)))))
      (pss_one (ps_expr (pe_bmK K PySem.F.plainAttrs_list PySem.F.slot_list_append PySem.F.type_list_append mt_append (pv 3) (pa_cons (pe_tup (pa_cons pe_str (pa_cons (pv 5) (pa_cons (pv 6) pa_nil)))) pa_nil)))))) (pss_one (ps_expr (pe_bmK K PySem.F.plainAttrs_list PySem.F.slot_list_append PySem.F.type_list_append mt_append (pv 3) (pa_cons (pe_tup (pa_cons pe_str (pa_cons (pv 5) (pa_cons (pe_u c__law_query hr (by first | decide | omega) (by rfl) (pa_cons (pv 0) (pa_cons (pv 1) (pa_cons (pv 2) pa_nil)))) pa_nil)))) pa_nil))))))))
      (pss_one (ps_ret (pv 3))))), ?_⟩
    refine ⟨Nat.zero_le _, fun U nU => ?_⟩
    have nUd := dr.nd nU
    have nUc := dr.nc nU
    have f1 : Fd d H (upd H U (.lst [])) := Fd.new nU
    have drU := dr.ext (same_upd nU (o := .lst []))
    have eU0 : (upd H U (.lst [])) U = some (.lst []) := upd_same
    generalize hHU : upd H U (.lst []) = HU at f1 drU eU0
    have LU : ¬ (HU U = none) := by rw [eU0]; exact fun z => nomatch z
    have Ld : ¬ (HU d = none) := dr_some drU
    have backU : ∀ Hx zs, Fd d H Hx → Dr Hx d c → Hx U = some (.lst zs) → ∀ a, Hx a = none → HU a = none := fun Hx zs fx dx ex a z => by
      have na : a ≠ U := fun y => by
        rw [y, ex] at z
        cases z
      rw [← hHU, upd_ne na]
      exact none_back dx fx a z
    have lt1000 : (1000 : Nat) < sizeLine := by decide
    refine ⟨_, rfl, d, c, 3, rfl, drU, by decide, by decide, fun H2 r f2 _ dr2 r0 r1 => ⟨_, _, rfl, rfl, _, rfl, by omega, by omega, ?_⟩⟩
    refine for_range (lo := 0) (n := (1 + r).toNat) (fun i σ Hi => Fd d H Hi ∧ Dr Hi d c ∧ ∃ xs ts y4 y5 y6 y7, σ = [some (.ref d), some (.int (ins : Nat)), some (.int (m : Nat)), some (.ref U), y4, y5, y6, y7] ∧ Hi U = some (.lst xs) ∧ F2 (RIt (fun a => HU a = none) K Hi) xs ts ∧ ts.length = i) ⟨f1.trans f2, dr2, [], [], _, _, _, _, rfl, f2 _ _ nUd eU0, .nil, rfl⟩ (fun i σ Hi hi hp => ?_) (fun σ Hn hp => ?_)
    · obtain ⟨fi, di, xs, ts, y4, y5, y6, y7, rfl, eU, hf, hl⟩ := hp
      have hi3 : i < 3 := by omega
      have hlen : xs.length = i := by rw [hf.len, hl]
      refine ⟨_, rfl, d, c, rfl, di, fun H3 l f3 dr3 nl => ?_⟩
      have ll := nl
      refine ⟨_, rfl, d, c, 2, rfl, dr3, by decide, by decide, fun H4 b f4 _ dr4 _ _ => ⟨rfl, _, rfl, ite2 (fun _ => ?_) (fun _ => ?_)⟩⟩
      · refine ⟨Nat.zero_le _, fun C nC => ?_⟩
        have f04 := (fi.trans f3).trans f4
        have fi4 := f3.trans f4
        have eU4 := fi4 _ _ nUd eU
        have nCd := dr4.nd nC
        have nCc := dr4.nc nC
        have nUC : U ≠ C := fun z => by
          rw [z, nC] at eU4
          cases eU4
        have hUC : HU C = none := backU H4 _ f04 dr4 eU4 C nC
        have f4C : Fd d H4 (upd H4 C (.lst [])) := Fd.new nC
        have drC := dr4.ext (same_upd nC (o := .lst []))
        have eC0 : (upd H4 C (.lst [])) C = some (.lst []) := upd_same
        generalize upd H4 C (.lst []) = HC at f4C drC eC0
        refine ⟨_, rfl, d, c, 3, rfl, drC, by decide, by decide, fun H5 r' f5 _ dr5 r0' r1' => ⟨_, _, rfl, rfl, _, rfl, by omega, by omega, ?_⟩⟩
        refine for_range (lo := 0) (n := (1 + r').toNat) (fun j σ Hj => Fd d H4 Hj ∧ Dr Hj d c ∧ ∃ cs us y7, σ = [some (.ref d), some (.int (ins : Nat)), some (.int (m : Nat)), some (.ref U), some (.int (0 + (i : Nat))), some (tx l), some (.ref C), y7] ∧ Hj C = some (.lst cs) ∧ F2 (RCol K Hj) cs us ∧ us.length = j) ⟨f4C.trans f5, dr5, [], [], _, rfl, f5 _ _ nCd eC0, .nil, rfl⟩ (fun j σ Hj hj hp => ?_) (fun σ Hn hp => ?_)
        · obtain ⟨fj, dj, cs, us, y7, rfl, eC, hc, hk⟩ := hp
          have hj3 : j < 3 := by omega
          have hclen : cs.length = j := by rw [hc.len, hk]
          refine ⟨_, rfl, .inl ⟨rfl, _, .of eC⟩, ?_⟩
          refine ⟨_, rfl, d, c, rfl, dj, fun H6 l' f6 dr6 nl' => ?_⟩
          have ll' := nl'
          refine ⟨by show 3 ≤ sizeLine; decide, fun p0 n0 => ?_⟩
          have s7 := same_upd n0 (o := .lst [.str "int", .str "text", .str "truth"])
          have dr7 := dr6.ext s7
          refine ⟨_, rfl, d, c, 3, rfl, dr7, by decide, by decide, fun H8 k f8 _ dr8 k0 k1 => ?_⟩
          have e8 := f8 _ _ (dr6.nd n0) (show (upd H6 p0 (.lst [.str "int", .str "text", .str "truth"])) p0 = some (.lst [.str "int", .str "text", .str "truth"]) from upd_same)
          obtain ⟨w', hw, atw⟩ : ∃ w' : List Nat, w' ∈ KND.map codes ∧ atI [V.str "int", V.str "text", V.str "truth"] k = some (tx w') := by
            have : k = 0 ∨ k = 1 ∨ k = 2 := by omega
            rcases this with rfl | rfl | rfl
            · exact ⟨codes "int", by decide +kernel, rfl⟩
            · exact ⟨codes "text", by decide +kernel, rfl⟩
            · exact ⟨codes "truth", by decide +kernel, rfl⟩
          refine ⟨p0, _, _, _, rfl, rfl, .of e8, atw, ?_⟩
          have f68 : Fd d Hj H8 := (f6.trans (Fd.of s7)).trans f8
          have eC8 := f68 _ _ nCd eC
          have hc8 := hc.imp fun v t (z : RCol K Hj v t) => z.ch (Ch.dr (L := fun _ => False) dj (fun z => z) f68)
          refine ⟨by show 2 ≤ sizeLine; decide, fun p np => ?_⟩
          refine ⟨C, _, _, rfl, rfl, (same_upd np) _ _ eC8, by rw [hclen]; omega, ?_⟩
          have c1 : Ch (fun _ => False) H8 (upd H8 p (.tup [tx l', tx w'])) := Ch.of (same_upd np)
          have c2 : Ch (fun _ => False) (upd H8 p (.tup [tx l', tx w'])) (upd (upd H8 p (.tup [tx l', tx w'])) C (.lst (cs ++ [.ref p]))) := Ch.at ((same_upd np) _ _ eC8) fun z => z
          exact ⟨fd_at ((fj.trans f68).trans (Fd.new np)) nC, (dr8.ext (same_upd np)).upd nCd nCc, _, _, _, rfl, upd_same, F2.snoc (hc8.imp fun v t z => (z.ch c1).ch c2) ⟨p, l', w', rfl, c2.tup (.inl (.inl upd_same)), ll', hw, rfl⟩, by rw [List.length_append, hk]; rfl⟩
        · obtain ⟨fn, drn, cs, us, y7, rfl, eC, hc, hk⟩ := hp
          have eUn := fn _ _ nUd eU4
          have eUn' : Hn U = some (.lst xs) := eUn
          refine ⟨_, rfl, .inl ⟨rfl, _, .of eUn'⟩, ?_⟩
          refine ⟨_, rfl, _, rfl, by show 3 ≤ sizeLine; decide, fun p np => ?_⟩
          have s1 := same_upd np (o := .tup [.str "table", tx l, .ref C])
          refine ⟨U, _, _, rfl, rfl, s1 _ _ eUn', by rw [hlen]; omega, ?_⟩
          have c0 : Ch (fun a => HU a = none) Hi Hn := Ch.dr di Ld (fi4.trans fn)
          have cS : Ch (fun a => HU a = none) Hn (upd Hn p (.tup [.str "table", tx l, .ref C])) := Ch.of s1
          have cU : Ch (fun a => HU a = none) (upd Hn p (.tup [.str "table", tx l, .ref C])) (upd (upd Hn p (.tup [.str "table", tx l, .ref C])) U (.lst (xs ++ [.ref p]))) := Ch.at (s1 _ _ eUn') LU
          refine ⟨fd_at ((f04.trans fn).trans (Fd.of s1)) nU, (drn.ext s1).upd nUd nUc, _, _, _, _, _, _, rfl, upd_same, F2.snoc (hf.imp fun _ _ z => ((z.ch c0).ch cS).ch cU) ⟨p, l, rfl, ll, .inl ⟨.ref C, us, cU.tup (.inl (.inl upd_same)), ⟨C, cs, rfl, hUC, cU.lst (s1 _ _ eC) hUC, hc.imp fun _ _ z => (z.ch cS).ch cU⟩, by omega, rfl, fun z => by rw [z] at hk; have : (0 : Nat) = (1 + r').toNat := hk; omega⟩⟩, by rw [List.length_append, hl]; rfl⟩
      · have f04 := (fi.trans f3).trans f4
        have fi4 := f3.trans f4
        have eU4 := fi4 _ _ nUd eU
        refine ⟨_, rfl, .inl ⟨rfl, _, .of eU4⟩, ?_⟩
        refine ⟨_, rfl, _, rfl, _, rfl, _, rfl, d, c, ins, m, rfl, by omega, hm, dr4, fun H5 qv ls f5 dr5 rq ne => ?_⟩
        have rq3 := RQ.wide (backU H4 _ f04 dr4 eU4) _ _ _ (RQ.to3 rq (by omega))
        have eU5 := f5 _ _ nUd eU4
        refine ⟨by show 3 ≤ sizeLine; decide, fun p np => ?_⟩
        have s1 := same_upd np (o := .tup [.str "step", tx l, qv])
        refine ⟨U, _, _, rfl, rfl, s1 _ _ eU5, by rw [hlen]; omega, ?_⟩
        have c0 : Ch (fun a => HU a = none) Hi H5 := Ch.dr di Ld (fi4.trans f5)
        have cS : Ch (fun a => HU a = none) H5 (upd H5 p (.tup [.str "step", tx l, qv])) := Ch.of s1
        have cU : Ch (fun a => HU a = none) (upd H5 p (.tup [.str "step", tx l, qv])) (upd (upd H5 p (.tup [.str "step", tx l, qv])) U (.lst (xs ++ [.ref p]))) := Ch.at (s1 _ _ eU5) LU
        refine ⟨fd_at ((f04.trans f5).trans (Fd.of s1)) nU, (dr5.ext s1).upd nUd nUc, _, _, _, _, _, _, rfl, upd_same, F2.snoc (hf.imp fun _ _ z => ((z.ch c0).ch cS).ch cU) ⟨p, l, rfl, ll, .inr ⟨qv, ls, cU.tup (.inl (.inl upd_same)), RQ.ch cU _ _ _ (RQ.ch cS _ _ _ rq3), ne, rfl⟩⟩, by rw [List.length_append, hl]; rfl⟩
    · obtain ⟨fi, di, xs, ts, y4, y5, y6, y7, rfl, eU, hf, hl⟩ := hp
      exact ⟨_, rfl, q Hn _ ts fi di ⟨U, xs, rfl, nU, eU, hf.imp fun _ _ z => z.wide (none_back drU f1)⟩ (by omega) fun z => by rw [z] at hl; have : (0 : Nat) = (1 + r).toNat := hl; omega⟩
theorem ok_lpi {f : Addr} {fd : FuncData} (F : Fun K "_law_print_item" "_law_print_item" s__law_print_item f fd) (M : Mg mg) (c__law_print_query : Cl P w K mg base 18 "_law_print_query" (sp_lpq K 3)) : FnOk P w K mg base CX0 19 f fd ["item"] (sp_lpi K) := by
  refine F.ok sc__law_print_item (fun vs H Q E h => ?_) (fun cdv A outer s H vs Q E hr h => ?_)
  · obtain ⟨p, L, t, rfl, _⟩ := h
    rfl
  · obtain ⟨p, L, t, rfl, ⟨a, l, rfl, hl, h⟩, q⟩ := h
    have hl := name_len hl
    refine ⟨_, (pss_cons (ps_if (pt_cmpR op_eq (pe_ix (ix_tupK K) (pv 0) pe_int (fun _ _ => rfl)) pe_str (nomark _)) (pss_cons (ps_set (i := 1) sc__law_print_item.nd rfl (.inl rfl) (pe_join pe_str (pe_lc (own := [("name", 2), ("kind", 3)]) (g := gTup K 2 (gCons (gName 2) (gCons (gName 3) (gNil)))) (tt := tYes) rfl sc__law_print_item.nd (pi_list (pe_ix (ix_tupK K) (pv 0) pe_int (fun _ _ => rfl))) (blkOk_by (N := N__law_print_item) (sc := defScope s__law_print_item) (by decide +kernel)) (fun _ _ _ _ _ => (pg_tup (by rfl) (pgs_cons (pg_name (i := 2) sc__law_print_item.nd rfl (.inl rfl)) (pgs_cons (pg_name (i := 3) sc__law_print_item.nd rfl (.inl rfl)) pgs_nil)))) (fun _ _ _ _ _ => pts_nil) (fun _ _ _ _ _ => (pe_op op_add_str (pe_op op_add_str (pv 2) pe_str) (pv 3))))))
      (pss_one (ps_ret (pe_op op_add_str (pe_op op_add_str (pe_op op_add_str (pe_op op_add_str pe_str (pe_ix (ix_tupK K) (pv 0) pe_int (fun _ _ => rfl))) pe_str) (pv 1)) pe_str)))) pss_nil)
      (pss_one (ps_ret (pe_op op_add_str (pe_op op_add_str (pe_op op_add_str (pe_op op_add_str pe_str (pe_ix (ix_tupK K) (pv 0) pe_int (fun _ _ => rfl))) pe_str) (pe_u c__law_print_query hr (by first | decide | omega) (by rfl) (pa_cons (pe_ix (ix_tupK K) (pv 0) pe_int (fun _ _ => rfl)) (pa_cons pe_str pa_nil)))) pe_str)))), ?_⟩
    rcases h with ⟨cs, ts, hs, hc, k, rfl, _⟩ | ⟨qv, ls, hs, rq, ne, rfl⟩
    · have lc := hc.le (fun _ _ z => RCol.len z) k
      have tl := taT_len hl lc k
      have j1 := jl_len [44, 32] ts
      have e2 : ([44, 32] : List Nat).length = 2 := rfl
      rw [e2] at j1
      obtain ⟨ac, xc, rfl, Lc, ec, fc⟩ := hc
      refine ⟨_, rfl, a, _, _, _, rfl, rfl, hs, atI_nat (j := 0) rfl, rfl, _, rfl, iteT ?_⟩
      refine ⟨⟨_, rfl⟩, _, rfl, a, _, _, _, rfl, rfl, hs, atI_nat (j := 2) rfl, ac, rfl, ⟨_, .of ec⟩, fun D nD => ?_⟩
      refine lc_txt (K := K) (a := ac) fc (by omega) (.of ec) nD (fun v t Hi r si Qc Nc qc => ?_) (fun Hn sn eD => ?_)
      · obtain ⟨b, l', k', rfl, hs', hl', hk', rfl⟩ := r
        have hl' := name_len hl'
        have hk' := knd_len hk'
        refine ⟨b, _, rfl, SqT.ext si hs', rfl, _, _, rfl, _, _, rfl, rfl, rfl, ?_⟩
        refine ⟨_, rfl, _, _, rfl, rfl, add_len (L := l') (l := [32]) (by show _ + 1 ≤ _; omega), ?_⟩
        rw [show (⟨l'.toArray⟩ : Str) ++ Str.ofString " " = (⟨(l' ++ [32] : List Nat).toArray⟩ : Str) from add_eq _ [32]]
        refine ⟨_, rfl, _, _, rfl, rfl, add_len (L := l' ++ [32]) (l := k') (by rw [List.length_append]; show _ + 1 + _ ≤ _; omega), ?_⟩
        rw [add_eq]
        have := qc Hi (Same.refl Hi)
        rw [show l' ++ 32 :: k' = l' ++ [32] ++ k' by simp] at this
        exact this
      · rw [tx_map] at eD
        refine ⟨_, D, _, rfl, rfl, .inl (.of eD), ?_, ?_⟩
        · rw [lens_S, List.length_map]
          show _ + ts.length * 2 ≤ 16777216
          omega
        · rw [show Txt.join (Str.ofString ", ") (ts.map fun l => (⟨l.toArray⟩ : Str)) = ⟨(jl [44, 32] ts).toArray⟩ from jl_S [44, 32] ts]
          refine ⟨_, rfl, a, _, _, _, rfl, rfl, SqT.ext sn hs, atI_nat (j := 1) rfl, _, _, rfl, rfl, add_len (L := codes "table ") (l := l) (by rw [show (codes "table ").length = 6 by decide]; omega), ?_⟩
          rw [codes_S "table ", add_eq]
          refine ⟨_, _, rfl, rfl, add_len (L := codes "table " ++ l) (l := codes " (") (by rw [List.length_append, show (codes "table ").length = 6 by decide, show (codes " (").length = 2 by decide]; omega), ?_⟩
          rw [codes_S " (", add_eq]
          refine ⟨_, rfl, _, _, rfl, rfl, add_len (L := codes "table " ++ l ++ codes " (") (l := jl [44, 32] ts) (by rw [List.length_append, List.length_append, show (codes "table ").length = 6 by decide, show (codes " (").length = 2 by decide]; omega), ?_⟩
          rw [add_eq]
          refine ⟨_, _, rfl, rfl, add_len (L := codes "table " ++ l ++ codes " (" ++ jl [44, 32] ts) (l := codes ");") (by rw [List.length_append, List.length_append, List.length_append, show (codes "table ").length = 6 by decide, show (codes " (").length = 2 by decide, show (codes ");").length = 2 by decide]; omega), ?_⟩
          rw [codes_S ");", add_eq]
          have fin := q Hn sn
          rw [show taT l ts = codes "table " ++ l ++ codes " (" ++ jl [44, 32] ts ++ codes ");" by unfold taT; simp] at fin
          exact fin
    · have ql := RQ.len 3 _ _ rq
      have qb := bl3 (Nat.le_refl 3)
      have qf := RQ.few rq
      have pj := pre_jl ls ne
      have pl := pre_len ls
      rw [pj, List.length_append] at pl
      have pl' : 3 + (jl [10, 32, 32] ls).length = suml ls + 3 * ls.length := pl
      refine ⟨_, rfl, a, _, _, _, rfl, rfl, hs, atI_nat (j := 0) rfl, rfl, _, rfl, iteF ?_⟩
      refine ⟨_, rfl, a, _, _, _, rfl, rfl, hs, atI_nat (j := 1) rfl, _, _, rfl, rfl, add_len (L := codes "step ") (l := l) (by rw [show (codes "step ").length = 5 by decide]; omega), ?_⟩
      rw [codes_S "step ", add_eq]
      refine ⟨_, _, rfl, rfl, add_len (L := codes "step " ++ l) (l := codes " =\n  ") (by rw [List.length_append, show (codes "step ").length = 5 by decide, show (codes " =\n  ").length = 5 by decide]; omega), ?_⟩
      rw [codes_S " =\n  ", add_eq]
      refine ⟨_, rfl, a, _, _, _, rfl, rfl, hs, atI_nat (j := 2) rfl, qv, L, ls, [10, 32, 32], rfl, by decide, rq, by omega, by show suml ls + ls.length * 3 ≤ _; omega, fun H1 s1 => ?_⟩
      refine ⟨_, _, rfl, rfl, add_len (L := codes "step " ++ l ++ codes " =\n  ") (l := jl [10, 32, 32] ls) (by rw [List.length_append, List.length_append, show (codes "step ").length = 5 by decide, show (codes " =\n  ").length = 5 by decide]; omega), ?_⟩
      rw [add_eq]
      refine ⟨_, _, rfl, rfl, add_len (L := codes "step " ++ l ++ codes " =\n  " ++ jl [10, 32, 32] ls) (l := codes ";") (by rw [List.length_append, List.length_append, List.length_append, show (codes "step ").length = 5 by decide, show (codes " =\n  ").length = 5 by decide, show (codes ";").length = 1 by decide]; omega), ?_⟩
      rw [codes_S ";", add_eq]
      have fin := q H1 s1
      rw [show stT l ls = codes "step " ++ l ++ codes " =\n  " ++ jl [10, 32, 32] ls ++ codes ";" by unfold stT; rw [pj, show codes " =\n  " = codes " =" ++ [10, 32, 32] by decide]; simp] at fin
      exact fin
end

/-! ### the texts of items, token by token -/
section
variable {K : PySem.W.Frag} {H : Hp} {L : Addr → Prop}
theorem knd_res (k : String) (h : k ∈ KND) : Str.ofString k ∈ RES := by
  simp only [KND, List.mem_cons, List.not_mem_nil, or_false] at h
  rcases h with rfl | rfl | rfl <;> decide +kernel
theorem RCol.g {v : V} {t : List Nat} (h : RCol K H v t) : ∃ d ks, Dp K H v d ∧ Lexs t ks ∧ GCol d ks := by
  obtain ⟨a, l, k, rfl, hs, nl, hk, rfl⟩ := h
  obtain ⟨w, hw, rfl⟩ := List.mem_map.mp hk
  refine ⟨.tuple [.str ⟨l.toArray⟩, .str (Str.ofString w)], [.word l, wK w], .tup hs (.cons (.str _) (.cons ?_ .nil)), fun tail ht => ?_, l, w, nl, hw, rfl, rfl⟩
  · show Dp K H (tx (codes w)) _
    rw [← str_tx w]
    exact .str _
  · show LexTo (l ++ ([32] ++ codes w)) ([.word l] ++ ([] ++ [wK w])) tail
    exact (LexTo.ok (tok_name nl.1) (gapT (by decide) _)).app ((LexTo.sp _).app (LexTo.ok (tok_name (res_name _ (knd_res w hw))) ht.gap))
theorem gap_step : GapOk [10, 32, 32] := ⟨fun tail => by
  show skip (10 :: 32 :: 32 :: tail) = _
  rw [bl_sk rfl, bl_sk rfl, bl_sk rfl], fun tail => OkT.c (by decide) _⟩
theorem RIt.g {v : V} {t : List Nat} (h : RIt L K H v t) : ∃ d ks, Dp K H v d ∧ (∀ tail, LexTo t ks tail) ∧ GIt 5 3 d ks ∧ ∃ c r, t = c :: r ∧ isBl c = false ∧ c ≠ 35 := by
  obtain ⟨a, l, rfl, nl, ⟨cs, ts, hs, hc, hk, rfl, ne⟩ | ⟨q, ls, hs, rq, ne, rfl⟩⟩ := h
  · obtain ⟨ds, kss, h1, h2, h3, h4⟩ := hc.a2 fun _ _ z => z.g
    refine ⟨.tuple [.str "table", .str ⟨l.toArray⟩, .list ds], _, .tup hs (.cons (.str _) (.cons (.str _) (.cons h1 .nil))), fun tail => ?_, .inl ⟨_, ⟨l, ds, kss, nl, h3, fun z => ?_, by omega, rfl, rfl⟩, rfl⟩, 116, _, rfl, by decide, by decide⟩
    · rw [show taT l ts = codes "table" ++ ([32] ++ (l ++ ([32] ++ ([40] ++ (jl [44, 32] ts ++ ([41] ++ [59])))))) by
        unfold taT
        rw [show codes "table " = codes "table" ++ [32] by decide +kernel, show codes " (" = [32, 40] by decide +kernel, show codes ");" = [41, 59] by decide +kernel]
        simp,
        show (wK "table" :: (Kv.word l :: sK "(" :: (cj kss ++ [sK ")"]) ++ [sK ";"])) = [wK "table"] ++ ([] ++ ([Kv.word l] ++ ([] ++ ([sK "("] ++ (cj kss ++ ([sK ")"] ++ [sK ";"])))))) by simp]
      exact (word_lex (by decide +kernel) (by decide) _).app ((LexTo.sp _).app ((LexTo.ok (tok_name nl.1) (gapT (by decide) _)).app ((LexTo.sp _).app ((LexTo.sg (c := 40) (by decide) _).app (((h2.cj) _ (OkT.c (by decide) _)).app ((LexTo.sg (c := 41) (by decide) _).app (LexTo.sg (c := 59) (by decide) _)))))))
    · rw [z] at h4
      exact ne (List.length_eq_zero_iff.mp h4.symm)
  · obtain ⟨d, kss, h1, h2, h3⟩ := RQ.g 3 _ _ rq
    refine ⟨.tuple [.str "step", .str ⟨l.toArray⟩, d], _, .tup hs (.cons (.str _) (.cons (.str _) (.cons h1 .nil))), fun tail => ?_, .inr ⟨_, ⟨l, d, _, nl, h3, rfl, rfl⟩, rfl⟩, 115, _, rfl, by decide, by decide⟩
    rw [show stT l ls = codes "step" ++ ([32] ++ (l ++ ([32] ++ ([61] ++ ([10, 32, 32] ++ (jl [10, 32, 32] ls ++ [59])))))) by
        unfold stT
        rw [show codes "step " = codes "step" ++ [32] by decide +kernel, show codes " =" = [32, 61] by decide +kernel, show codes ";" = [59] by decide +kernel, pre_jl ls ne]
        simp,
      show (wK "step" :: (Kv.word l :: sK "=" :: kss.flatten ++ [sK ";"])) = [wK "step"] ++ ([] ++ ([Kv.word l] ++ ([] ++ ([sK "="] ++ ([] ++ (kss.flatten ++ [sK ";"])))))) by simp]
    exact (word_lex (by decide +kernel) (by decide) _).app ((LexTo.sp _).app ((LexTo.ok (tok_name nl.1) (gapT (by decide) _)).app ((LexTo.sp _).app ((LexTo.ok (tok_sign (g := [61]) (by decide +kernel)) (gapT (by decide) _)).app ((gap_step.to _).app (((LL.gap gap_step h2) _ (OkT.c (by decide) _)).app (LexTo.sg (c := 59) (by decide) _)))))))
end
/-! ### a whole source, and where its items begin -/
def srcT (g : List Nat) (ts : List (List Nat)) : List Nat := (ts.map fun t => t ++ g).flatten
structure ItL (t : List Nat) (ks : List Kv) : Prop where
  lx : ∀ tail, LexTo t ks tail
  hd : ∃ c r, t = c :: r ∧ isBl c = false ∧ c ≠ 35
  ne : ks ≠ []
inductive AIt : List (List Nat) → List (List Kv) → Prop
  | nil : AIt [] []
  | cons {t : List Nat} {k : List Kv} {ts : List (List Nat)} {ks : List (List Kv)} (h : ItL t k) (r : AIt ts ks) : AIt (t :: ts) (k :: ks)
theorem AIt.len {ts : List (List Nat)} {ks : List (List Kv)} (h : AIt ts ks) : ts.length = ks.length := by
  induction h with
  | nil => rfl
  | cons _ _ ih => rw [List.length_cons, List.length_cons, ih]
theorem Lx.off {n : Nat} {s : List Nat} {T : List (Kv × Nat)} (h : Lx n s T) (hs : s ≠ []) : offN T 0 = n - s.length := by
  cases h with
  | nil => exact absurd rfl hs
  | cons _ _ => rfl
theorem src_all {g : List Nat} (hg : ∀ tail, skip (g ++ tail) = skip tail) (n : Nat) : ∀ {ts : List (List Nat)} {kss : List (List Kv)}, AIt ts kss → ∃ T, Lx n (skip (srcT g ts)) T ∧ T.map (·.1) = kss.flatten ∧ ∀ k, k < ts.length → offN T (kss.take k).flatten.length = n - (srcT g (ts.drop k)).length
  | _, _, .nil => ⟨[], .nil, rfl, fun k h => absurd h (Nat.not_lt_zero k)⟩
  | _, _, .cons (t := t) (k := ks) (ts := ts) (ks := kss) h r => by
    obtain ⟨T, hx, eT, ho⟩ := src_all hg n r
    obtain ⟨T0, e0, hx0⟩ := h.lx (g ++ srcT g ts) n T (by rw [hg]; exact hx)
    have es : srcT g (t :: ts) = t ++ (g ++ srcT g ts) := by
      unfold srcT
      rw [List.map_cons, List.flatten_cons, List.append_assoc]
    refine ⟨T0 ++ T, by rw [es]; exact hx0, by rw [List.map_append, e0, eT, List.flatten_cons], fun k hk => ?_⟩
    cases k with
    | zero =>
      obtain ⟨c, r', et, h1, h2⟩ := h.hd
      have sk : skip (t ++ (g ++ srcT g ts)) = t ++ (g ++ srcT g ts) := by
        rw [et, List.cons_append, skip_cons, if_neg (by rw [h1]; exact Bool.false_ne_true), if_neg h2]
      rw [sk] at hx0
      show offN (T0 ++ T) 0 = n - (srcT g (t :: ts)).length
      rw [es]
      exact hx0.off (by rw [et]; exact fun z => nomatch z)
    | succ k =>
      have hk' : k < ts.length := by
        rw [List.length_cons] at hk
        omega
      have := ho k hk'
      have l0 : T0.length = ks.length := by rw [← e0, List.length_map]
      show offN (T0 ++ T) ((ks :: kss.take k).flatten.length) = n - (srcT g (ts.drop k)).length
      rw [← this, List.flatten_cons, List.length_append]
      unfold offN
      rw [List.getElem?_append_right (by omega), show ks.length + (kss.take k).flatten.length - T0.length = (kss.take k).flatten.length by omega]
theorem GCol.sh {d : PyData} {ts : List Kv} (h : GCol d ts) : Sh 1 d := by
  obtain ⟨l, k, _, _, rfl, _⟩ := h
  exact sh_tup (by show 2 ≤ 100; decide) (sh_two (.str _) (.str _))
theorem GIt.sh {z n : Nat} {d : PyData} {ts : List Kv} (h : GIt z n d ts) : Sh (6 * n + 35) d := by
  rcases h with ⟨tt, ⟨l, cols, css, _, ha, _, hk, rfl, _⟩, _⟩ | ⟨tt, ⟨l, q, tq, _, hq, rfl, _⟩, _⟩
  · exact sh_tup (by show 3 ≤ 100; decide) (sh_three (.str _) (.str _) ((sh_many hk (sh_mem ha fun _ _ y => y.sh)).mono (by omega)))
  · exact sh_tup (by show 3 ≤ 100; decide) (sh_three (.str _) (.str _) (GQ.sh n _ _ hq))
theorem GIt.ne {z n : Nat} {d : PyData} {ts : List Kv} (h : GIt z n d ts) : ts ≠ [] := by
  rcases h with ⟨tt, _, rfl⟩ | ⟨tt, _, rfl⟩ <;> exact fun z => nomatch z

/-! ### the law -/
def GP8 : List (List Nat) := [[], [32], [10], codes "# table t;\n"]
theorem gp8_ok : ∀ g ∈ GP8, (∀ tail, skip (g ++ tail) = skip tail) ∧ g.length ≤ 20 := by
  intro g hg
  simp only [GP8, List.mem_cons, List.not_mem_nil, or_false] at hg
  rcases hg with rfl | rfl | rfl | rfl
  · exact ⟨fun tail => rfl, by decide⟩
  · exact ⟨fun tail => bl_sk rfl tail, by decide⟩
  · exact ⟨fun tail => nl_sk tail, by decide⟩
  · have e : codes "# table t;\n" = 35 :: (codes " table t;" ++ [10]) := by decide +kernel
    refine ⟨fun tail => ?_, by decide +kernel⟩
    rw [e, List.cons_append, List.append_assoc]
    exact rem_sk _ tail (by decide +kernel)
theorem add_lenW {L l : List Nat} (h : L.length + l.length ≤ 16000000) : (⟨L.toArray⟩ : Str).length + (⟨l.toArray⟩ : Str).length ≤ sizeLine := by
  rw [S_len', S_len']
  exact Nat.le_trans h (by decide)
theorem srcT_len {g : List Nat} {b : Nat} : ∀ {ts : List (List Nat)}, (∀ t ∈ ts, t.length ≤ b) → (srcT g ts).length ≤ ts.length * (b + g.length)
  | [], _ => Nat.zero_le _
  | t :: ts, h => by
    have := srcT_len (g := g) (ts := ts) fun x hx => h x (List.mem_cons_of_mem _ hx)
    have := h t (List.mem_cons_self ..)
    show ((t ++ g) ++ srcT g ts).length ≤ (ts.length + 1) * (b + g.length)
    rw [List.length_append, List.length_append, Nat.add_mul]
    omega
theorem srcT_app (g : List Nat) (a b : List (List Nat)) : srcT g (a ++ b) = srcT g a ++ srcT g b := by
  unfold srcT
  rw [List.map_append, List.flatten_append]
theorem F2.dp {K : PySem.W.Frag} {H : Hp} {β : Type} {R : V → β → Prop} {f : β → PyData} (i : ∀ v k, R v k → Dp K H v (f k)) {vs : List V} {ks : List β} (h : F2 R vs ks) : DpAll K H vs (ks.map f) := by
  induction h with
  | nil => exact .nil
  | cons h _ ih => exact .cons (i _ _ h) ih
theorem DpAll.getD {K : PySem.W.Frag} {H : Hp} {ds : List PyData} {vs : List V} {i : Nat} {v : V} (h : DpAll K H vs ds) (e : vs[i]? = some v) : Dp K H v (ds.getD i .none) := by
  have hi : i < ds.length := by
    rw [← DpAll.len h]
    exact (List.getElem?_eq_some_iff.mp e).1
  obtain ⟨u, hu, d⟩ := DpAll.get h (List.getElem?_eq_getElem hi)
  obtain rfl : u = v := Option.some.inj (hu.symm.trans e)
  rw [List.getD_eq_getElem?_getD, List.getElem?_eq_getElem hi]
  exact d
theorem F2.its {K : PySem.W.Frag} {H : Hp} {L : Addr → Prop} {xs : List V} {ts : List (List Nat)} (h : F2 (RIt L K H) xs ts) : ∃ ds kss, DpAll K H xs ds ∧ AIt ts kss ∧ A2 (GIt 5 3) ds kss := by
  induction h with
  | nil => exact ⟨[], [], .nil, .nil, .nil⟩
  | cons h _ ih =>
    obtain ⟨ds, kss, h1, h2, h3⟩ := ih
    obtain ⟨d, ks, g1, g2, g3, g4⟩ := h.g
    exact ⟨d :: ds, ks :: kss, .cons g1 h1, .cons ⟨g2, g4, g3.ne⟩ h2, .cons g3 h3⟩
/-- the length of the source ahead of an item -/
def lenS (g : List Nat) (ts : List (List Nat)) (k : Nat) : Nat := (g ++ srcT g (ts.take k)).length
def RDue (K : PySem.W.Frag) (xs : List V) (g : List Nat) (ts : List (List Nat)) (H : Hp) (v : V) (k : Nat) : Prop := ∃ b x, v = .ref b ∧ xs[k]? = some x ∧ SqT K H b [x, .int ((lenS g ts k : Nat) : Int)]
def esD (g : List Nat) (ts : List (List Nat)) (ds : List PyData) (k : Nat) : PyData := .tuple [ds.getD k .none, .int ((lenS g ts k : Nat) : Int)]
def sp_law (K : PySem.W.Frag) : Sp := fun vs H Q _ => ∃ (a : Addr) (ns : List Int), vs = [.ref a] ∧ SqL K H a (ns.map V.int) ∧ ns.length ≤ 63 ∧ ∀ H', Q (.bl true) H'
section
variable {P : Program} {w : World} {K : PySem.W.Frag} {mg : Str → Option Value} {base : Heap}
theorem ok_law {f : Addr} {fd : FuncData} {j : Nat} (hj : 70 ≤ j) (F : Fun K "law" "law" s_law f fd) (M : Mg mg) (c__law_draw : Cl P w K mg base 1 "_law_draw" (sp_draw K)) (c__law_next : Cl P w K mg base 1 "_law_next" sp_next) (c__law_items : Cl P w K mg base 17 "_law_items" (sp_lits K)) (c_parse_source : Cl P w K mg base j "parse_source" (sp_psrc K 5 3)) (c_parse_item : Cl P w K mg base j "parse_item" (sp_one K (GIt 5 3))) (c__law_print_item : Cl P w K mg base 19 "_law_print_item" (sp_lpi K)) (c__law_same : Cl P w K mg base 57 "_law_same" (sp_same K 56)) : FnOk P w K mg base CX0 (j + 1) f fd ["script"] (sp_law K) := by
  refine F.ok sc_law (fun vs H Q E h => ?_) (fun cdv A outer s H vs Q E hr h => ?_)
  · obtain ⟨a, ns, rfl, _⟩ := h
    rfl
  · obtain ⟨a, ns, rfl, hS, _, q⟩ := h
    obtain ⟨t, ht', hq⟩ : ∃ t, PSs (cxOf CX0 P w K mg base N_law "law" (defScope s_law) f cdv A outer s H E).nox ((defBody s_law).drop 3) t ∧ ∀ (H5 : Hp) (L : Addr → Prop) (d : Addr) (p : V) (ts : List (List Nat)) (g : List Nat), g ∈ GP8 → Rl L (RIt L K H5) H5 p ts → ts.length ≤ 3 → ts ≠ [] → t { nx := fun _ H' => Q .non H', rt := Q } [some (.ref a), some (.ref d), some p, some (tx g), none, none, none] H5 := by
      refine ⟨_, (pss_cons (ps_set (i := 4) sc_law.nd rfl (.inl rfl) (pv 3))
      (pss_cons (ps_set (i := 5) sc_law.nd rfl (.inl rfl) (pe_lst pa_nil))
      (pss_cons (ps_for PassesOwn.never rfl (pi_list (pv 2)) (pg_name (i := 6) sc_law.nd rfl (.inl rfl)) (pss_cons (ps_expr (pe_bmK K PySem.F.plainAttrs_list PySem.F.slot_list_append PySem.F.type_list_append mt_append (pv 5) (pa_cons (pe_tup (pa_cons (pv 6) (pa_cons (pe_callB call_len_str (by rfl) M.len PySem.boot_len (pa_cons (pv 4) pa_nil)) pa_nil))) pa_nil)))
      (pss_one (ps_set (i := 4) sc_law.nd rfl (.inl rfl) (pe_op op_add_str (pe_op op_add_str (pv 4) (pe_u c__law_print_item hr (by first | decide | omega) (by rfl) (pa_cons (pv 6) pa_nil))) (pv 3))))))
      (pss_cons (ps_if (pt_cmpR op_gt (pe_callB call_len_str (by rfl) M.len PySem.boot_len (pa_cons (pv 4) pa_nil)) pe_int (nomark _)) (pss_one (ps_ret pe_bl)) pss_nil)
      (pss_cons (ps_if (pt_not (pt_truthK K (pe_u c__law_same hr (by first | decide | omega) (by rfl) (pa_cons (pe_u c_parse_source hr (by first | decide | omega) (by rfl) (pa_cons (pv 4) pa_nil)) (pa_cons (pv 5) pa_nil))) (by intro _; rfl))) (pss_one (ps_ret pe_bl)) pss_nil)
      (pss_one (ps_ret (pe_u c__law_same hr (by first | decide | omega) (by rfl) (pa_cons (pe_u c_parse_item hr (by first | decide | omega) (by rfl) (pa_cons (pe_op op_add_str (pe_op op_add_str (pv 3) (pe_u c__law_print_item hr (by first | decide | omega) (by rfl) (pa_cons (pe_ix (ix_listK K) (pv 2) pe_int (fun _ _ => rfl)) pa_nil))) (pv 3)) pa_nil)) (pa_cons (pe_ix (ix_listK K) (pv 2) pe_int (fun _ _ => rfl)) pa_nil)))))))))), fun H5 L d p ts g hg hr3 k3 ne => ?_⟩
      obtain ⟨gok, gl⟩ := gp8_ok g hg
      obtain ⟨ai, xi, rfl, Li, ei, fi⟩ := hr3
      have hfl := fi.len
      have tle : ∀ t ∈ ts, t.length ≤ 4990050 := fi.all fun _ _ z => RIt.len z
      have stl : ∀ k, (g ++ srcT g (ts.take k)).length ≤ 14970250 := fun k => by
        have h1 := srcT_len (g := g) (ts := ts.take k) (b := 4990050) fun x hx => tle x (List.mem_of_mem_take hx)
        have h2 : (ts.take k).length ≤ 3 := by rw [List.length_take]; omega
        have h3 : (ts.take k).length * (4990050 + g.length) ≤ 3 * 4990070 := Nat.mul_le_mul h2 (by omega)
        rw [List.length_append]
        omega
      refine ⟨_, rfl, Nat.zero_le _, fun D nD => ?_⟩
      have s0 := same_upd nD (o := .lst [])
      have eD0 : (upd H5 D (.lst [])) D = some (.lst []) := upd_same
      refine ⟨_, rfl, ai, rfl, ⟨_, .of (s0 _ _ ei)⟩, ?_⟩
      refine for_list (K := K) (a := ai) (xs := xi) (fun i σ Hi => Same H5 Hi ∧ ∃ es y6, σ = [some (.ref a), some (.ref d), some (.ref ai), some (tx g), some (tx (g ++ srcT g (ts.take i))), some (.ref D), y6] ∧ Hi D = some (.lst es) ∧ F2 (RDue K xi g ts Hi) es (List.range i)) ⟨s0, [], _, by rw [show srcT g (ts.take 0) = [] from rfl, List.append_nil]; rfl, eD0, .nil⟩ (fun i σ Hi _ hp => .of (hp.1 _ _ ei)) (fun i x σ Hi hx hp => ?_) (fun σ Hn hp => ?_)
      · obtain ⟨si, es, y6, rfl, eD, hf⟩ := hp
        obtain ⟨t, ht, r⟩ := fi.get hx
        have hi : i < ts.length := (List.getElem?_eq_some_iff.mp ht).1
        have hel : es.length = i := by rw [hf.len, List.length_range]
        have tl := RIt.len r
        have sl := stl i
        have eTk : ts.take (i + 1) = ts.take i ++ [t] := by rw [List.take_add_one, ht]; rfl
        have eS : g ++ srcT g (ts.take (i + 1)) = (g ++ srcT g (ts.take i)) ++ t ++ g := by
          rw [eTk, srcT_app]
          show g ++ (srcT g (ts.take i) ++ ((t ++ g) ++ [])) = _
          simp
        have sl1 := stl (i + 1)
        rw [eS, List.length_append, List.length_append] at sl1
        refine ⟨_, rfl, .inl ⟨rfl, _, .of eD⟩, _, rfl, _, rfl, _, rfl, by rw [S_len']; exact Nat.le_trans sl (by decide), by show 2 ≤ sizeLine; decide, fun b nb => ?_⟩
        rw [S_len', show (g ++ srcT g (ts.take i)).length = lenS g ts i from rfl]
        have sb := same_upd nb (o := .tup [x, .int ((lenS g ts i : Nat) : Int)])
        have eDb := sb _ _ eD
        refine ⟨D, es, _, rfl, rfl, eDb, by rw [hel]; exact Nat.lt_of_lt_of_le (m := 10) (by omega) (by decide), ?_⟩
        have c1 : Ch (fun _ => False) Hi (upd Hi b (.tup [x, .int ((lenS g ts i : Nat) : Int)])) := Ch.of sb
        have c2 : Ch (fun _ => False) (upd Hi b (.tup [x, .int ((lenS g ts i : Nat) : Int)])) (upd (upd Hi b (.tup [x, .int ((lenS g ts i : Nat) : Int)])) D (.lst (es ++ [.ref b]))) := Ch.at eDb fun z => z
        have hf2 : F2 (RDue K xi g ts (upd (upd Hi b (.tup [x, .int ((lenS g ts i : Nat) : Int)])) D (.lst (es ++ [.ref b])))) (es ++ [.ref b]) (List.range (i + 1)) := by
          rw [List.range_succ]
          exact F2.snoc (hf.imp fun v k ⟨b', x', h1, h2, h3⟩ => ⟨b', x', h1, h2, c2.tup (c1.tup h3)⟩) ⟨b, x, rfl, hx, c2.tup (.inl (.inl upd_same))⟩
        have s2 : Same H5 (upd (upd Hi b (.tup [x, .int ((lenS g ts i : Nat) : Int)])) D (.lst (es ++ [.ref b]))) := same_at (si.trans sb) nD
        have eD2 : (upd (upd Hi b (.tup [x, .int ((lenS g ts i : Nat) : Int)])) D (.lst (es ++ [.ref b]))) D = some (.lst (es ++ [.ref b])) := upd_same
        refine ⟨_, rfl, _, rfl, x, L, t, rfl, r.ch (Ch.of s2), fun H8 s8 => ?_⟩
        refine ⟨_, _, rfl, rfl, add_lenW (L := g ++ srcT g (ts.take i)) (l := t) (by omega), ?_⟩
        rw [add_eq]
        refine ⟨_, rfl, _, _, rfl, rfl, add_lenW (L := g ++ srcT g (ts.take i) ++ t) (l := g) (by rw [List.length_append]; omega), ?_⟩
        rw [add_eq, ← eS]
        exact ⟨s2.trans s8, es ++ [.ref b], _, rfl, s8 _ _ eD2, hf2.imp fun v k ⟨b', x', h1, h2, h3⟩ => ⟨b', x', h1, h2, SqT.ext s8 h3⟩⟩
      · obtain ⟨sn, es, y6, rfl, eD, hf⟩ := hp
        rw [hfl, List.take_length]
        have hsl := stl ts.length
        rw [List.take_length] at hsl
        refine ⟨_, rfl, _, rfl, by rw [S_len']; exact Nat.le_trans hsl (by decide), _, _, rfl, rfl, _, rfl, ?_⟩
        rw [S_len']
        refine ite2 (fun _ => q _) (fun z => ?_)
        have l2 : (g ++ srcT g ts).length ≤ 2000 := by
          have : ¬ ((2000 : Int) < ((g ++ srcT g ts).length : Nat)) := fun y => z (decide_eq_true y)
          omega
        obtain ⟨ds, kss, d1, a1, g1⟩ := F2.its (fi.imp fun _ _ y => y.ch (Ch.of (L := L) sn))
        obtain ⟨T, hx, eT, ho⟩ := src_all gok (g ++ srcT g ts).length a1
        have hx' : Lx (g ++ srcT g ts).length (skip (g ++ srcT g ts)) T := by rw [gok]; exact hx
        have tl := hx'.few
        have tk := skip_le (g ++ srcT g ts)
        have dlen : ds.length = ts.length := by rw [g1.len, a1.len]
        have dE : DpAll K Hn es ((List.range ts.length).map (esD g ts ds)) := by
          have := hf.dp (f := esD g ts ds) fun v k ⟨b, x, h1, h2, h3⟩ => by
            rw [h1]
            exact .tup h3 (.cons (DpAll.getD d1 h2) (.cons (.int _) .nil))
          rw [hfl] at this
          exact this
        have shE : Sh 55 (.list ((List.range ts.length).map (esD g ts ds))) := sh_many (by rw [List.length_map, List.length_range]; omega) fun y hy => by
          obtain ⟨k, hk, rfl⟩ := List.mem_map.mp hy
          have hk' : k < ds.length := by rw [dlen]; exact List.mem_range.mp hk
          refine sh_tup (by show 2 ≤ 100; decide) (sh_two ?_ (.int _))
          rw [List.getD_eq_getElem?_getD, List.getElem?_eq_getElem hk']
          exact sh_mem g1 (fun _ _ y => GIt.sh y) _ (List.getElem_mem hk')
        refine ⟨_, rfl, g ++ srcT g ts, T, ds, kss, (List.range ts.length).map (esD g ts ds), rfl, by omega, by omega, hx', g1, eT, by omega, by rw [List.length_map, List.length_range, dlen], fun k h1 h2 => ?_, fun H6 x s6 dx => ?_⟩
        · have hk : k < ts.length := by omega
          rw [List.getElem_map, List.getElem_range, ho k hk]
          unfold esD lenS
          rw [List.getD_eq_getElem?_getD, List.getElem?_eq_getElem h2]
          have : (g ++ srcT g ts).length - (srcT g (ts.drop k)).length = (g ++ srcT g (ts.take k)).length := by
            have e : srcT g ts = srcT g (ts.take k) ++ srcT g (ts.drop k) := by rw [← srcT_app, List.take_append_drop]
            rw [e, List.length_append, List.length_append, List.length_append]
            omega
          rw [this]
          rfl
        · refine ⟨_, rfl, x, .ref D, _, 55, rfl, rfl, shE, DpL.dp _ _ dx, Dp.ext s6 _ _ (.lst (.of eD) dE), fun H7 s7 => ⟨_, rfl, ?_⟩⟩
          refine iteF ?_
          have s57 := (sn.trans s6).trans s7
          have t1 : 0 < ts.length := List.length_pos_iff.mpr ne
          obtain ⟨x0, hx0⟩ : ∃ x, xi[0]? = some x := ⟨xi[0], List.getElem?_eq_getElem (by omega)⟩
          obtain ⟨t0, ht0, r0⟩ := fi.get hx0
          have r7 := r0.ch (Ch.of (L := L) s57)
          have tk1 : ts.take 1 = [t0] := by
            rw [List.take_add_one, ht0]
            rfl
          have e1 : g ++ t0 ++ g = g ++ srcT g [t0] := by
            show g ++ t0 ++ g = g ++ ((t0 ++ g) ++ [])
            simp
          have le1 : (g ++ srcT g [t0]).length ≤ 2000 := by
            have e : srcT g ts = srcT g (ts.take 1) ++ srcT g (ts.drop 1) := by rw [← srcT_app, List.take_append_drop]
            rw [e, tk1, List.length_append, List.length_append] at l2
            rw [List.length_append]
            omega
          have le2 : (g ++ t0 ++ g).length ≤ 2000 := by rw [e1]; exact le1
          rw [List.length_append, List.length_append] at le2
          refine ⟨_, rfl, _, rfl, ai, _, _, _, rfl, rfl, .of (s57 _ _ ei), atI_nat (j := 0) hx0, x0, L, t0, rfl, r7, fun H8 s8 => ?_⟩
          refine ⟨_, _, rfl, rfl, add_lenW (L := g) (l := t0) (by omega), ?_⟩
          rw [add_eq]
          refine ⟨_, rfl, _, _, rfl, rfl, add_lenW (L := g ++ t0) (l := g) (by rw [List.length_append]; omega), ?_⟩
          rw [add_eq, e1]
          obtain ⟨dd, ks, dp, hlx, hG, hhd⟩ := (r7.ch (Ch.of (L := L) s8)).g
          obtain ⟨T1, hx1, eT1, _⟩ := src_all gok (g ++ srcT g [t0]).length (AIt.cons ⟨hlx, hhd, hG.ne⟩ .nil)
          have hx1' : Lx (g ++ srcT g [t0]).length (skip (g ++ srcT g [t0])) T1 := by rw [gok]; exact hx1
          have tl1 := hx1'.few
          have tk1' := skip_le (g ++ srcT g [t0])
          refine ⟨g ++ srcT g [t0], T1, dd, ks, rfl, by omega, by omega, hx1', hG, by rw [eT1]; simp, fun H9 y s9 dy => ?_⟩
          have s59 := (s57.trans s8).trans s9
          exact ⟨_, rfl, ai, _, _, _, rfl, rfl, .of (s59 _ _ ei), atI_nat (j := 0) hx0, y, x0, dd, 55, rfl, rfl, (GIt.sh hG).mono (by omega), DpL.dp _ _ dy, Dp.ext s9 _ _ dp, fun H' _ => q _⟩
    refine ⟨_, (pss_cons (ps_set (i := 1) sc_law.nd rfl (.inl rfl) (pe_u c__law_draw hr (by first | decide | omega) (by rfl) (pa_cons (pv 0) pa_nil)))
      (pss_cons (ps_set (i := 2) sc_law.nd rfl (.inl rfl) (pe_u c__law_items hr (by first | decide | omega) (by rfl) (pa_cons (pv 1) (pa_cons (pe_u c__law_next hr (by first | decide | omega) (by rfl) (pa_cons (pv 1) (pa_cons pe_int pa_nil))) (pa_cons pe_int pa_nil)))))
      (pss_cons (ps_set (i := 3) sc_law.nd rfl (.inl rfl) (pe_ix (ix_listK K) (pe_lst (pa_cons pe_str (pa_cons pe_str (pa_cons pe_str (pa_cons pe_str pa_nil))))) (pe_u c__law_next hr (by first | decide | omega) (by rfl) (pa_cons (pv 1) (pa_cons pe_int pa_nil))) (fun _ _ => rfl)))
      ht'))), ?_⟩
    refine ⟨_, rfl, a, ns, rfl, hS, fun H1 d c s1 nd dr => ?_⟩
    refine ⟨_, rfl, _, rfl, d, c, 2, rfl, dr, by decide, by decide, fun H2 r f2 _ dr2 r0 r1 => ?_⟩
    obtain ⟨i, rfl⟩ := Int.eq_ofNat_of_zero_le r0
    refine ⟨d, c, i, 1, rfl, by omega, by omega, dr2, fun H4 p ts f4 dr4 hr4 k4 ne4 => ?_⟩
    refine ⟨by show 4 ≤ sizeLine; decide, fun wp nwp => ?_⟩
    have s5 := same_upd nwp (o := .lst [.str "", .str " ", .str "\n", .str "# table t;\n"])
    have dr5 := dr4.ext s5
    refine ⟨_, rfl, d, c, 4, rfl, dr5, by decide, by decide, fun H6 b f6 _ dr6 b0 b1 => ?_⟩
    have ew := f6 _ _ (dr4.nd nwp) (show (upd H4 wp (.lst [.str "", .str " ", .str "\n", .str "# table t;\n"])) wp = _ from upd_same)
    have c5 : Ch (fun a => H2 a = none) H4 (upd H4 wp (.lst [.str "", .str " ", .str "\n", .str "# table t;\n"])) := Ch.of s5
    have c6 : Ch (fun a => H2 a = none) (upd H4 wp (.lst [.str "", .str " ", .str "\n", .str "# table t;\n"])) H6 := Ch.dr dr5 (dr_some dr2) f6
    have hr6 := (hr4.ch c5 fun _ _ z => z.ch c5).ch c6 fun _ _ z => z.ch c6
    have four : b = 0 ∨ b = 1 ∨ b = 2 ∨ b = 3 := by omega
    clear b0 b1
    rcases four with rfl | rfl | rfl | rfl
    · exact ⟨wp, _, _, _, rfl, rfl, .of ew, atI_nat (j := 0) rfl, hq H6 _ d p ts [] (by decide +kernel) hr6 k4 ne4⟩
    · exact ⟨wp, _, _, _, rfl, rfl, .of ew, atI_nat (j := 1) rfl, hq H6 _ d p ts [32] (by decide +kernel) hr6 k4 ne4⟩
    · exact ⟨wp, _, _, _, rfl, rfl, .of ew, atI_nat (j := 2) rfl, hq H6 _ d p ts [10] (by decide +kernel) hr6 k4 ne4⟩
    · exact ⟨wp, _, _, _, rfl, rfl, .of ew, atI_nat (j := 3) rfl, hq H6 _ d p ts (codes "# table t;\n") (by decide +kernel) hr6 k4 ne4⟩
end

set_option maxHeartbeats 0 in
theorem all_mk {l : PySem.W.OpenLaw} {w : World} {K : PySem.W.Frag} {h : Heap} {mg : Str → Option Value} {fa : Addr} (X : K.In h) (G : h.Ns mainGlobals mg) (hfa : mg "law" = some (.ref fa))
    {od0 an0 : Option Addr} {sl0 : Array (Option Value)} {oc0 kV0 dc0 pm0 cd0 ct0 : Value} {f0 : Addr}
    {od1 an1 : Option Addr} {sl1 : Array (Option Value)} {oc1 kV1 dc1 pm1 cd1 ct1 : Value} {f1 : Addr}
    {od2 an2 : Option Addr} {sl2 : Array (Option Value)} {oc2 kV2 dc2 pm2 cd2 ct2 : Value} {f2 : Addr}
    {od3 an3 : Option Addr} {sl3 : Array (Option Value)} {oc3 kV3 dc3 pm3 cd3 ct3 : Value} {f3 : Addr}
    {od4 an4 : Option Addr} {sl4 : Array (Option Value)} {oc4 kV4 dc4 pm4 cd4 ct4 : Value} {f4 : Addr}
    {od5 an5 : Option Addr} {sl5 : Array (Option Value)} {oc5 kV5 dc5 pm5 cd5 ct5 : Value} {f5 : Addr}
    {od6 an6 : Option Addr} {sl6 : Array (Option Value)} {oc6 kV6 dc6 pm6 cd6 ct6 : Value} {f6 : Addr}
    {od7 an7 : Option Addr} {sl7 : Array (Option Value)} {oc7 kV7 dc7 pm7 cd7 ct7 : Value} {f7 : Addr}
    {od8 an8 : Option Addr} {sl8 : Array (Option Value)} {oc8 kV8 dc8 pm8 cd8 ct8 : Value} {f8 : Addr}
    {od9 an9 : Option Addr} {sl9 : Array (Option Value)} {oc9 kV9 dc9 pm9 cd9 ct9 : Value} {f9 : Addr}
    {od10 an10 : Option Addr} {sl10 : Array (Option Value)} {oc10 kV10 dc10 pm10 cd10 ct10 : Value} {f10 : Addr}
    {od11 an11 : Option Addr} {sl11 : Array (Option Value)} {oc11 kV11 dc11 pm11 cd11 ct11 : Value} {f11 : Addr}
    {od12 an12 : Option Addr} {sl12 : Array (Option Value)} {oc12 kV12 dc12 pm12 cd12 ct12 : Value} {f12 : Addr}
    {od13 an13 : Option Addr} {sl13 : Array (Option Value)} {oc13 kV13 dc13 pm13 cd13 ct13 : Value} {f13 : Addr}
    {od14 an14 : Option Addr} {sl14 : Array (Option Value)} {oc14 kV14 dc14 pm14 cd14 ct14 : Value} {f14 : Addr}
    {od15 an15 : Option Addr} {sl15 : Array (Option Value)} {oc15 kV15 dc15 pm15 cd15 ct15 : Value} {f15 : Addr}
    {od16 an16 : Option Addr} {sl16 : Array (Option Value)} {oc16 kV16 dc16 pm16 cd16 ct16 : Value} {f16 : Addr}
    {od17 an17 : Option Addr} {sl17 : Array (Option Value)} {oc17 kV17 dc17 pm17 cd17 ct17 : Value} {f17 : Addr}
    {od18 an18 : Option Addr} {sl18 : Array (Option Value)} {oc18 kV18 dc18 pm18 cd18 ct18 : Value} {f18 : Addr}
    {od19 an19 : Option Addr} {sl19 : Array (Option Value)} {oc19 kV19 dc19 pm19 cd19 ct19 : Value} {f19 : Addr}
    {od20 an20 : Option Addr} {sl20 : Array (Option Value)} {oc20 kV20 dc20 pm20 cd20 ct20 : Value} {f20 : Addr}
    {od21 an21 : Option Addr} {sl21 : Array (Option Value)} {oc21 kV21 dc21 pm21 cd21 ct21 : Value} {f21 : Addr}
    {od22 an22 : Option Addr} {sl22 : Array (Option Value)} {oc22 kV22 dc22 pm22 cd22 ct22 : Value} {f22 : Addr}
    {od23 an23 : Option Addr} {sl23 : Array (Option Value)} {oc23 kV23 dc23 pm23 cd23 ct23 : Value} {f23 : Addr}
    {od24 an24 : Option Addr} {sl24 : Array (Option Value)} {oc24 kV24 dc24 pm24 cd24 ct24 : Value} {f24 : Addr}
    {od25 an25 : Option Addr} {sl25 : Array (Option Value)} {oc25 kV25 dc25 pm25 cd25 ct25 : Value} {f25 : Addr}
    {od26 an26 : Option Addr} {sl26 : Array (Option Value)} {oc26 kV26 dc26 pm26 cd26 ct26 : Value} {f26 : Addr}
    {od27 an27 : Option Addr} {sl27 : Array (Option Value)} {oc27 kV27 dc27 pm27 cd27 ct27 : Value} {f27 : Addr}
    {od28 an28 : Option Addr} {sl28 : Array (Option Value)} {oc28 kV28 dc28 pm28 cd28 ct28 : Value} {f28 : Addr}
    {od29 an29 : Option Addr} {sl29 : Array (Option Value)} {oc29 kV29 dc29 pm29 cd29 ct29 : Value} {f29 : Addr}
    {od30 an30 : Option Addr} {sl30 : Array (Option Value)} {oc30 kV30 dc30 pm30 cd30 ct30 : Value} {f30 : Addr}
    {od31 an31 : Option Addr} {sl31 : Array (Option Value)} {oc31 kV31 dc31 pm31 cd31 ct31 : Value} {f31 : Addr}
    {od32 an32 : Option Addr} {sl32 : Array (Option Value)} {oc32 kV32 dc32 pm32 cd32 ct32 : Value} {f32 : Addr}
    {od33 an33 : Option Addr} {sl33 : Array (Option Value)} {oc33 kV33 dc33 pm33 cd33 ct33 : Value} {f33 : Addr}
    {od34 an34 : Option Addr} {sl34 : Array (Option Value)} {oc34 kV34 dc34 pm34 cd34 ct34 : Value} {f34 : Addr}
    {od35 an35 : Option Addr} {sl35 : Array (Option Value)} {oc35 kV35 dc35 pm35 cd35 ct35 : Value} {f35 : Addr}
    {od36 an36 : Option Addr} {sl36 : Array (Option Value)} {oc36 kV36 dc36 pm36 cd36 ct36 : Value} {f36 : Addr}
    {od37 an37 : Option Addr} {sl37 : Array (Option Value)} {oc37 kV37 dc37 pm37 cd37 ct37 : Value} {f37 : Addr}
    {od38 an38 : Option Addr} {sl38 : Array (Option Value)} {oc38 kV38 dc38 pm38 cd38 ct38 : Value} {f38 : Addr}
    {od39 an39 : Option Addr} {sl39 : Array (Option Value)} {oc39 kV39 dc39 pm39 cd39 ct39 : Value} {f39 : Addr}
    {od40 an40 : Option Addr} {sl40 : Array (Option Value)} {oc40 kV40 dc40 pm40 cd40 ct40 : Value} {f40 : Addr}
    {od41 an41 : Option Addr} {sl41 : Array (Option Value)} {oc41 kV41 dc41 pm41 cd41 ct41 : Value} {f41 : Addr}
    {od42 an42 : Option Addr} {sl42 : Array (Option Value)} {oc42 kV42 dc42 pm42 cd42 ct42 : Value} {f42 : Addr}
    {od43 an43 : Option Addr} {sl43 : Array (Option Value)} {oc43 kV43 dc43 pm43 cd43 ct43 : Value} {f43 : Addr}
    {od44 an44 : Option Addr} {sl44 : Array (Option Value)} {oc44 kV44 dc44 pm44 cd44 ct44 : Value} {f44 : Addr}
    {od45 an45 : Option Addr} {sl45 : Array (Option Value)} {oc45 kV45 dc45 pm45 cd45 ct45 : Value} {f45 : Addr}
    {od46 an46 : Option Addr} {sl46 : Array (Option Value)} {oc46 kV46 dc46 pm46 cd46 ct46 : Value} {f46 : Addr}
    {od47 an47 : Option Addr} {sl47 : Array (Option Value)} {oc47 kV47 dc47 pm47 cd47 ct47 : Value} {f47 : Addr}
    {od48 an48 : Option Addr} {sl48 : Array (Option Value)} {oc48 kV48 dc48 pm48 cd48 ct48 : Value} {f48 : Addr}
    {od49 an49 : Option Addr} {sl49 : Array (Option Value)} {oc49 kV49 dc49 pm49 cd49 ct49 : Value} {f49 : Addr}
    {od50 an50 : Option Addr} {sl50 : Array (Option Value)} {oc50 kV50 dc50 pm50 cd50 ct50 : Value} {f50 : Addr}
    {od51 an51 : Option Addr} {sl51 : Array (Option Value)} {oc51 kV51 dc51 pm51 cd51 ct51 : Value} {f51 : Addr}
    {od52 an52 : Option Addr} {sl52 : Array (Option Value)} {oc52 kV52 dc52 pm52 cd52 ct52 : Value} {f52 : Addr}
    {od53 an53 : Option Addr} {sl53 : Array (Option Value)} {oc53 kV53 dc53 pm53 cd53 ct53 : Value} {f53 : Addr}
    {od54 an54 : Option Addr} {sl54 : Array (Option Value)} {oc54 kV54 dc54 pm54 cd54 ct54 : Value} {f54 : Addr}
    {od55 an55 : Option Addr} {sl55 : Array (Option Value)} {oc55 kV55 dc55 pm55 cd55 ct55 : Value} {f55 : Addr}
    {od56 an56 : Option Addr} {sl56 : Array (Option Value)} {oc56 kV56 dc56 pm56 cd56 ct56 : Value} {f56 : Addr}
    {od57 an57 : Option Addr} {sl57 : Array (Option Value)} {oc57 kV57 dc57 pm57 cd57 ct57 : Value} {f57 : Addr}
    {od58 an58 : Option Addr} {sl58 : Array (Option Value)} {oc58 kV58 dc58 pm58 cd58 ct58 : Value} {f58 : Addr}
    {od59 an59 : Option Addr} {sl59 : Array (Option Value)} {oc59 kV59 dc59 pm59 cd59 ct59 : Value} {f59 : Addr}
    {od60 an60 : Option Addr} {sl60 : Array (Option Value)} {oc60 kV60 dc60 pm60 cd60 ct60 : Value} {f60 : Addr}
    {od61 an61 : Option Addr} {sl61 : Array (Option Value)} {oc61 kV61 dc61 pm61 cd61 ct61 : Value} {f61 : Addr}
    {od62 an62 : Option Addr} {sl62 : Array (Option Value)} {oc62 kV62 dc62 pm62 cd62 ct62 : Value} {f62 : Addr}
    {od63 an63 : Option Addr} {sl63 : Array (Option Value)} {oc63 kV63 dc63 pm63 cd63 ct63 : Value} {f63 : Addr}
    {od64 an64 : Option Addr} {sl64 : Array (Option Value)} {oc64 kV64 dc64 pm64 cd64 ct64 : Value} {f64 : Addr}
    {od65 an65 : Option Addr} {sl65 : Array (Option Value)} {oc65 kV65 dc65 pm65 cd65 ct65 : Value} {f65 : Addr}
    {od66 an66 : Option Addr} {sl66 : Array (Option Value)} {oc66 kV66 dc66 pm66 cd66 ct66 : Value} {f66 : Addr}
    {od67 an67 : Option Addr} {sl67 : Array (Option Value)} {oc67 kV67 dc67 pm67 cd67 ct67 : Value} {f67 : Addr}
    {od68 an68 : Option Addr} {sl68 : Array (Option Value)} {oc68 kV68 dc68 pm68 cd68 ct68 : Value} {f68 : Addr}
    {od69 an69 : Option Addr} {sl69 : Array (Option Value)} {oc69 kV69 dc69 pm69 cd69 ct69 : Value} {f69 : Addr}
    {od70 an70 : Option Addr} {sl70 : Array (Option Value)} {oc70 kV70 dc70 pm70 cd70 ct70 : Value} {f70 : Addr}
    {od71 an71 : Option Addr} {sl71 : Array (Option Value)} {oc71 kV71 dc71 pm71 cd71 ct71 : Value} {f71 : Addr}
    {od72 an72 : Option Addr} {sl72 : Array (Option Value)} {oc72 kV72 dc72 pm72 cd72 ct72 : Value} {f72 : Addr}
    {od73 an73 : Option Addr} {sl73 : Array (Option Value)} {oc73 kV73 dc73 pm73 cd73 ct73 : Value} {f73 : Addr}
    {od74 an74 : Option Addr} {sl74 : Array (Option Value)} {oc74 kV74 dc74 pm74 cd74 ct74 : Value} {f74 : Addr}
    {od75 an75 : Option Addr} {sl75 : Array (Option Value)} {oc75 kV75 dc75 pm75 cd75 ct75 : Value} {f75 : Addr}
    {od76 an76 : Option Addr} {sl76 : Array (Option Value)} {oc76 kV76 dc76 pm76 cd76 ct76 : Value} {f76 : Addr}
    {C_Reader : Addr}
    (a0 : PySem.W.nsIn K mainGlobals "read_expression" = some (some (.ref f0))) (l0 : K.lookup f0 = some ⟨oc0, od0, .func (PySem.W.fnOf "read_expression" "read_expression" (defArgs s_read_expression) (defBody s_read_expression) (defScope s_read_expression) .none kV0 dc0 pm0 an0 cd0 ct0), sl0⟩) (c0 : PySem.W.codeIn K cd0 "read_expression" = true) (k0 : PySem.W.keepIn K (.ref f0) = true)
    (a1 : PySem.W.nsIn K mainGlobals "read_or" = some (some (.ref f1))) (l1 : K.lookup f1 = some ⟨oc1, od1, .func (PySem.W.fnOf "read_or" "read_or" (defArgs s_read_or) (defBody s_read_or) (defScope s_read_or) .none kV1 dc1 pm1 an1 cd1 ct1), sl1⟩) (c1 : PySem.W.codeIn K cd1 "read_or" = true) (k1 : PySem.W.keepIn K (.ref f1) = true)
    (a2 : PySem.W.nsIn K mainGlobals "read_and" = some (some (.ref f2))) (l2 : K.lookup f2 = some ⟨oc2, od2, .func (PySem.W.fnOf "read_and" "read_and" (defArgs s_read_and) (defBody s_read_and) (defScope s_read_and) .none kV2 dc2 pm2 an2 cd2 ct2), sl2⟩) (c2 : PySem.W.codeIn K cd2 "read_and" = true) (k2 : PySem.W.keepIn K (.ref f2) = true)
    (a3 : PySem.W.nsIn K mainGlobals "read_not" = some (some (.ref f3))) (l3 : K.lookup f3 = some ⟨oc3, od3, .func (PySem.W.fnOf "read_not" "read_not" (defArgs s_read_not) (defBody s_read_not) (defScope s_read_not) .none kV3 dc3 pm3 an3 cd3 ct3), sl3⟩) (c3 : PySem.W.codeIn K cd3 "read_not" = true) (k3 : PySem.W.keepIn K (.ref f3) = true)
    (a4 : PySem.W.nsIn K mainGlobals "read_comparison" = some (some (.ref f4))) (l4 : K.lookup f4 = some ⟨oc4, od4, .func (PySem.W.fnOf "read_comparison" "read_comparison" (defArgs s_read_comparison) (defBody s_read_comparison) (defScope s_read_comparison) .none kV4 dc4 pm4 an4 cd4 ct4), sl4⟩) (c4 : PySem.W.codeIn K cd4 "read_comparison" = true) (k4 : PySem.W.keepIn K (.ref f4) = true)
    (a5 : PySem.W.nsIn K mainGlobals "read_sum" = some (some (.ref f5))) (l5 : K.lookup f5 = some ⟨oc5, od5, .func (PySem.W.fnOf "read_sum" "read_sum" (defArgs s_read_sum) (defBody s_read_sum) (defScope s_read_sum) .none kV5 dc5 pm5 an5 cd5 ct5), sl5⟩) (c5 : PySem.W.codeIn K cd5 "read_sum" = true) (k5 : PySem.W.keepIn K (.ref f5) = true)
    (a6 : PySem.W.nsIn K mainGlobals "read_product" = some (some (.ref f6))) (l6 : K.lookup f6 = some ⟨oc6, od6, .func (PySem.W.fnOf "read_product" "read_product" (defArgs s_read_product) (defBody s_read_product) (defScope s_read_product) .none kV6 dc6 pm6 an6 cd6 ct6), sl6⟩) (c6 : PySem.W.codeIn K cd6 "read_product" = true) (k6 : PySem.W.keepIn K (.ref f6) = true)
    (a7 : PySem.W.nsIn K mainGlobals "read_negation" = some (some (.ref f7))) (l7 : K.lookup f7 = some ⟨oc7, od7, .func (PySem.W.fnOf "read_negation" "read_negation" (defArgs s_read_negation) (defBody s_read_negation) (defScope s_read_negation) .none kV7 dc7 pm7 an7 cd7 ct7), sl7⟩) (c7 : PySem.W.codeIn K cd7 "read_negation" = true) (k7 : PySem.W.keepIn K (.ref f7) = true)
    (a8 : PySem.W.nsIn K mainGlobals "read_left_to_right" = some (some (.ref f8))) (l8 : K.lookup f8 = some ⟨oc8, od8, .func (PySem.W.fnOf "read_left_to_right" "read_left_to_right" (defArgs s_read_left_to_right) (defBody s_read_left_to_right) (defScope s_read_left_to_right) .none kV8 dc8 pm8 an8 cd8 ct8), sl8⟩) (c8 : PySem.W.codeIn K cd8 "read_left_to_right" = true) (k8 : PySem.W.keepIn K (.ref f8) = true)
    (a9 : PySem.W.nsIn K mainGlobals "read_atom" = some (some (.ref f9))) (l9 : K.lookup f9 = some ⟨oc9, od9, .func (PySem.W.fnOf "read_atom" "read_atom" (defArgs s_read_atom) (defBody s_read_atom) (defScope s_read_atom) .none kV9 dc9 pm9 an9 cd9 ct9), sl9⟩) (c9 : PySem.W.codeIn K cd9 "read_atom" = true) (k9 : PySem.W.keepIn K (.ref f9) = true)
    (a10 : PySem.W.nsIn K mainGlobals "read_parenthesis" = some (some (.ref f10))) (l10 : K.lookup f10 = some ⟨oc10, od10, .func (PySem.W.fnOf "read_parenthesis" "read_parenthesis" (defArgs s_read_parenthesis) (defBody s_read_parenthesis) (defScope s_read_parenthesis) .none kV10 dc10 pm10 an10 cd10 ct10), sl10⟩) (c10 : PySem.W.codeIn K cd10 "read_parenthesis" = true) (k10 : PySem.W.keepIn K (.ref f10) = true)
    (a11 : PySem.W.nsIn K mainGlobals "read_call" = some (some (.ref f11))) (l11 : K.lookup f11 = some ⟨oc11, od11, .func (PySem.W.fnOf "read_call" "read_call" (defArgs s_read_call) (defBody s_read_call) (defScope s_read_call) .none kV11 dc11 pm11 an11 cd11 ct11), sl11⟩) (c11 : PySem.W.codeIn K cd11 "read_call" = true) (k11 : PySem.W.keepIn K (.ref f11) = true)
    (a12 : PySem.W.nsIn K mainGlobals "read_leaf" = some (some (.ref f12))) (l12 : K.lookup f12 = some ⟨oc12, od12, .func (PySem.W.fnOf "read_leaf" "read_leaf" (defArgs s_read_leaf) (defBody s_read_leaf) (defScope s_read_leaf) .none kV12 dc12 pm12 an12 cd12 ct12), sl12⟩) (c12 : PySem.W.codeIn K cd12 "read_leaf" = true) (k12 : PySem.W.keepIn K (.ref f12) = true)
    (a13 : PySem.W.nsIn K mainGlobals "read_named" = some (some (.ref f13))) (l13 : K.lookup f13 = some ⟨oc13, od13, .func (PySem.W.fnOf "read_named" "read_named" (defArgs s_read_named) (defBody s_read_named) (defScope s_read_named) .none kV13 dc13 pm13 an13 cd13 ct13), sl13⟩) (c13 : PySem.W.codeIn K cd13 "read_named" = true) (k13 : PySem.W.keepIn K (.ref f13) = true)
    (a14 : PySem.W.nsIn K mainGlobals "deeper" = some (some (.ref f14))) (l14 : K.lookup f14 = some ⟨oc14, od14, .func (PySem.W.fnOf "deeper" "deeper" (defArgs s_deeper) (defBody s_deeper) (defScope s_deeper) .none kV14 dc14 pm14 an14 cd14 ct14), sl14⟩) (c14 : PySem.W.codeIn K cd14 "deeper" = true) (k14 : PySem.W.keepIn K (.ref f14) = true)
    (a15 : PySem.W.nsIn K mainGlobals "tokens" = some (some (.ref f15))) (l15 : K.lookup f15 = some ⟨oc15, od15, .func (PySem.W.fnOf "tokens" "tokens" (defArgs s_tokens) (defBody s_tokens) (defScope s_tokens) .none kV15 dc15 pm15 an15 cd15 ct15), sl15⟩) (c15 : PySem.W.codeIn K cd15 "tokens" = true) (k15 : PySem.W.keepIn K (.ref f15) = true)
    (a16 : PySem.W.nsIn K mainGlobals "behind_gap" = some (some (.ref f16))) (l16 : K.lookup f16 = some ⟨oc16, od16, .func (PySem.W.fnOf "behind_gap" "behind_gap" (defArgs s_behind_gap) (defBody s_behind_gap) (defScope s_behind_gap) .none kV16 dc16 pm16 an16 cd16 ct16), sl16⟩) (c16 : PySem.W.codeIn K cd16 "behind_gap" = true) (k16 : PySem.W.keepIn K (.ref f16) = true)
    (a17 : PySem.W.nsIn K mainGlobals "behind_comment" = some (some (.ref f17))) (l17 : K.lookup f17 = some ⟨oc17, od17, .func (PySem.W.fnOf "behind_comment" "behind_comment" (defArgs s_behind_comment) (defBody s_behind_comment) (defScope s_behind_comment) .none kV17 dc17 pm17 an17 cd17 ct17), sl17⟩) (c17 : PySem.W.codeIn K cd17 "behind_comment" = true) (k17 : PySem.W.keepIn K (.ref f17) = true)
    (a18 : PySem.W.nsIn K mainGlobals "read_token" = some (some (.ref f18))) (l18 : K.lookup f18 = some ⟨oc18, od18, .func (PySem.W.fnOf "read_token" "read_token" (defArgs s_read_token) (defBody s_read_token) (defScope s_read_token) .none kV18 dc18 pm18 an18 cd18 ct18), sl18⟩) (c18 : PySem.W.codeIn K cd18 "read_token" = true) (k18 : PySem.W.keepIn K (.ref f18) = true)
    (a19 : PySem.W.nsIn K mainGlobals "read_word" = some (some (.ref f19))) (l19 : K.lookup f19 = some ⟨oc19, od19, .func (PySem.W.fnOf "read_word" "read_word" (defArgs s_read_word) (defBody s_read_word) (defScope s_read_word) .none kV19 dc19 pm19 an19 cd19 ct19), sl19⟩) (c19 : PySem.W.codeIn K cd19 "read_word" = true) (k19 : PySem.W.keepIn K (.ref f19) = true)
    (a20 : PySem.W.nsIn K mainGlobals "read_number" = some (some (.ref f20))) (l20 : K.lookup f20 = some ⟨oc20, od20, .func (PySem.W.fnOf "read_number" "read_number" (defArgs s_read_number) (defBody s_read_number) (defScope s_read_number) .none kV20 dc20 pm20 an20 cd20 ct20), sl20⟩) (c20 : PySem.W.codeIn K cd20 "read_number" = true) (k20 : PySem.W.keepIn K (.ref f20) = true)
    (a21 : PySem.W.nsIn K mainGlobals "read_text" = some (some (.ref f21))) (l21 : K.lookup f21 = some ⟨oc21, od21, .func (PySem.W.fnOf "read_text" "read_text" (defArgs s_read_text) (defBody s_read_text) (defScope s_read_text) .none kV21 dc21 pm21 an21 cd21 ct21), sl21⟩) (c21 : PySem.W.codeIn K cd21 "read_text" = true) (k21 : PySem.W.keepIn K (.ref f21) = true)
    (a22 : PySem.W.nsIn K mainGlobals "read_sign" = some (some (.ref f22))) (l22 : K.lookup f22 = some ⟨oc22, od22, .func (PySem.W.fnOf "read_sign" "read_sign" (defArgs s_read_sign) (defBody s_read_sign) (defScope s_read_sign) .none kV22 dc22 pm22 an22 cd22 ct22), sl22⟩) (c22 : PySem.W.codeIn K cd22 "read_sign" = true) (k22 : PySem.W.keepIn K (.ref f22) = true)
    (a23 : PySem.W.nsIn K mainGlobals "behind_run" = some (some (.ref f23))) (l23 : K.lookup f23 = some ⟨oc23, od23, .func (PySem.W.fnOf "behind_run" "behind_run" (defArgs s_behind_run) (defBody s_behind_run) (defScope s_behind_run) .none kV23 dc23 pm23 an23 cd23 ct23), sl23⟩) (c23 : PySem.W.codeIn K cd23 "behind_run" = true) (k23 : PySem.W.keepIn K (.ref f23) = true)
    (a24 : PySem.W.nsIn K mainGlobals "behind_text" = some (some (.ref f24))) (l24 : K.lookup f24 = some ⟨oc24, od24, .func (PySem.W.fnOf "behind_text" "behind_text" (defArgs s_behind_text) (defBody s_behind_text) (defScope s_behind_text) .none kV24 dc24 pm24 an24 cd24 ct24), sl24⟩) (c24 : PySem.W.codeIn K cd24 "behind_text" = true) (k24 : PySem.W.keepIn K (.ref f24) = true)
    (a25 : PySem.W.findIn K (.ref C_Reader) "__init__" = some (some (.ref f25))) (i25 : PySem.W.isFn K (.ref f25) = true) (l25 : K.lookup f25 = some ⟨oc25, od25, .func (PySem.W.fnOf "__init__" "Reader.__init__" (defArgs s_Reader___init__) (defBody s_Reader___init__) (defScope s_Reader___init__) .none kV25 dc25 pm25 an25 cd25 ct25), sl25⟩) (c25 : PySem.W.codeIn K cd25 "Reader.__init__" = true) (k25 : PySem.W.keepIn K (.ref f25) = true)
    (a26 : PySem.W.findIn K (.ref C_Reader) "kind" = some (some (.ref f26))) (i26 : PySem.W.isFn K (.ref f26) = true) (l26 : K.lookup f26 = some ⟨oc26, od26, .func (PySem.W.fnOf "kind" "Reader.kind" (defArgs s_Reader_kind) (defBody s_Reader_kind) (defScope s_Reader_kind) .none kV26 dc26 pm26 an26 cd26 ct26), sl26⟩) (c26 : PySem.W.codeIn K cd26 "Reader.kind" = true) (k26 : PySem.W.keepIn K (.ref f26) = true)
    (a27 : PySem.W.findIn K (.ref C_Reader) "ahead" = some (some (.ref f27))) (i27 : PySem.W.isFn K (.ref f27) = true) (l27 : K.lookup f27 = some ⟨oc27, od27, .func (PySem.W.fnOf "ahead" "Reader.ahead" (defArgs s_Reader_ahead) (defBody s_Reader_ahead) (defScope s_Reader_ahead) .none kV27 dc27 pm27 an27 cd27 ct27), sl27⟩) (c27 : PySem.W.codeIn K cd27 "Reader.ahead" = true) (k27 : PySem.W.keepIn K (.ref f27) = true)
    (a28 : PySem.W.findIn K (.ref C_Reader) "offset" = some (some (.ref f28))) (i28 : PySem.W.isFn K (.ref f28) = true) (l28 : K.lookup f28 = some ⟨oc28, od28, .func (PySem.W.fnOf "offset" "Reader.offset" (defArgs s_Reader_offset) (defBody s_Reader_offset) (defScope s_Reader_offset) .none kV28 dc28 pm28 an28 cd28 ct28), sl28⟩) (c28 : PySem.W.codeIn K cd28 "Reader.offset" = true) (k28 : PySem.W.keepIn K (.ref f28) = true)
    (a29 : PySem.W.findIn K (.ref C_Reader) "take" = some (some (.ref f29))) (i29 : PySem.W.isFn K (.ref f29) = true) (l29 : K.lookup f29 = some ⟨oc29, od29, .func (PySem.W.fnOf "take" "Reader.take" (defArgs s_Reader_take) (defBody s_Reader_take) (defScope s_Reader_take) .none kV29 dc29 pm29 an29 cd29 ct29), sl29⟩) (c29 : PySem.W.codeIn K cd29 "Reader.take" = true) (k29 : PySem.W.keepIn K (.ref f29) = true)
    (a30 : PySem.W.findIn K (.ref C_Reader) "expect" = some (some (.ref f30))) (i30 : PySem.W.isFn K (.ref f30) = true) (l30 : K.lookup f30 = some ⟨oc30, od30, .func (PySem.W.fnOf "expect" "Reader.expect" (defArgs s_Reader_expect) (defBody s_Reader_expect) (defScope s_Reader_expect) .none kV30 dc30 pm30 an30 cd30 ct30), sl30⟩) (c30 : PySem.W.codeIn K cd30 "Reader.expect" = true) (k30 : PySem.W.keepIn K (.ref f30) = true)
    (a31 : PySem.W.findIn K (.ref C_Reader) "take_name" = some (some (.ref f31))) (i31 : PySem.W.isFn K (.ref f31) = true) (l31 : K.lookup f31 = some ⟨oc31, od31, .func (PySem.W.fnOf "take_name" "Reader.take_name" (defArgs s_Reader_take_name) (defBody s_Reader_take_name) (defScope s_Reader_take_name) .none kV31 dc31 pm31 an31 cd31 ct31), sl31⟩) (c31 : PySem.W.codeIn K cd31 "Reader.take_name" = true) (k31 : PySem.W.keepIn K (.ref f31) = true)
    (a32 : PySem.W.findIn K (.ref C_Reader) "expect_end" = some (some (.ref f32))) (i32 : PySem.W.isFn K (.ref f32) = true) (l32 : K.lookup f32 = some ⟨oc32, od32, .func (PySem.W.fnOf "expect_end" "Reader.expect_end" (defArgs s_Reader_expect_end) (defBody s_Reader_expect_end) (defScope s_Reader_expect_end) .none kV32 dc32 pm32 an32 cd32 ct32), sl32⟩) (c32 : PySem.W.codeIn K cd32 "Reader.expect_end" = true) (k32 : PySem.W.keepIn K (.ref f32) = true)
    (a33 : PySem.W.nsIn K mainGlobals "parse_source" = some (some (.ref f33))) (l33 : K.lookup f33 = some ⟨oc33, od33, .func (PySem.W.fnOf "parse_source" "parse_source" (defArgs s_parse_source) (defBody s_parse_source) (defScope s_parse_source) .none kV33 dc33 pm33 an33 cd33 ct33), sl33⟩) (c33 : PySem.W.codeIn K cd33 "parse_source" = true) (k33 : PySem.W.keepIn K (.ref f33) = true)
    (a34 : PySem.W.nsIn K mainGlobals "parse_item" = some (some (.ref f34))) (l34 : K.lookup f34 = some ⟨oc34, od34, .func (PySem.W.fnOf "parse_item" "parse_item" (defArgs s_parse_item) (defBody s_parse_item) (defScope s_parse_item) .none kV34 dc34 pm34 an34 cd34 ct34), sl34⟩) (c34 : PySem.W.codeIn K cd34 "parse_item" = true) (k34 : PySem.W.keepIn K (.ref f34) = true)
    (a35 : PySem.W.nsIn K mainGlobals "read_item" = some (some (.ref f35))) (l35 : K.lookup f35 = some ⟨oc35, od35, .func (PySem.W.fnOf "read_item" "read_item" (defArgs s_read_item) (defBody s_read_item) (defScope s_read_item) .none kV35 dc35 pm35 an35 cd35 ct35), sl35⟩) (c35 : PySem.W.codeIn K cd35 "read_item" = true) (k35 : PySem.W.keepIn K (.ref f35) = true)
    (a36 : PySem.W.nsIn K mainGlobals "read_table" = some (some (.ref f36))) (l36 : K.lookup f36 = some ⟨oc36, od36, .func (PySem.W.fnOf "read_table" "read_table" (defArgs s_read_table) (defBody s_read_table) (defScope s_read_table) .none kV36 dc36 pm36 an36 cd36 ct36), sl36⟩) (c36 : PySem.W.codeIn K cd36 "read_table" = true) (k36 : PySem.W.keepIn K (.ref f36) = true)
    (a37 : PySem.W.nsIn K mainGlobals "read_list" = some (some (.ref f37))) (l37 : K.lookup f37 = some ⟨oc37, od37, .func (PySem.W.fnOf "read_list" "read_list" (defArgs s_read_list) (defBody s_read_list) (defScope s_read_list) .none kV37 dc37 pm37 an37 cd37 ct37), sl37⟩) (c37 : PySem.W.codeIn K cd37 "read_list" = true) (k37 : PySem.W.keepIn K (.ref f37) = true)
    (a38 : PySem.W.nsIn K mainGlobals "read_column" = some (some (.ref f38))) (l38 : K.lookup f38 = some ⟨oc38, od38, .func (PySem.W.fnOf "read_column" "read_column" (defArgs s_read_column) (defBody s_read_column) (defScope s_read_column) .none kV38 dc38 pm38 an38 cd38 ct38), sl38⟩) (c38 : PySem.W.codeIn K cd38 "read_column" = true) (k38 : PySem.W.keepIn K (.ref f38) = true)
    (a39 : PySem.W.nsIn K mainGlobals "read_step" = some (some (.ref f39))) (l39 : K.lookup f39 = some ⟨oc39, od39, .func (PySem.W.fnOf "read_step" "read_step" (defArgs s_read_step) (defBody s_read_step) (defScope s_read_step) .none kV39 dc39 pm39 an39 cd39 ct39), sl39⟩) (c39 : PySem.W.codeIn K cd39 "read_step" = true) (k39 : PySem.W.keepIn K (.ref f39) = true)
    (a40 : PySem.W.nsIn K mainGlobals "read_query" = some (some (.ref f40))) (l40 : K.lookup f40 = some ⟨oc40, od40, .func (PySem.W.fnOf "read_query" "read_query" (defArgs s_read_query) (defBody s_read_query) (defScope s_read_query) .none kV40 dc40 pm40 an40 cd40 ct40), sl40⟩) (c40 : PySem.W.codeIn K cd40 "read_query" = true) (k40 : PySem.W.keepIn K (.ref f40) = true)
    (a41 : PySem.W.nsIn K mainGlobals "read_chain" = some (some (.ref f41))) (l41 : K.lookup f41 = some ⟨oc41, od41, .func (PySem.W.fnOf "read_chain" "read_chain" (defArgs s_read_chain) (defBody s_read_chain) (defScope s_read_chain) .none kV41 dc41 pm41 an41 cd41 ct41), sl41⟩) (c41 : PySem.W.codeIn K cd41 "read_chain" = true) (k41 : PySem.W.keepIn K (.ref f41) = true)
    (a42 : PySem.W.nsIn K mainGlobals "read_operand" = some (some (.ref f42))) (l42 : K.lookup f42 = some ⟨oc42, od42, .func (PySem.W.fnOf "read_operand" "read_operand" (defArgs s_read_operand) (defBody s_read_operand) (defScope s_read_operand) .none kV42 dc42 pm42 an42 cd42 ct42), sl42⟩) (c42 : PySem.W.codeIn K cd42 "read_operand" = true) (k42 : PySem.W.keepIn K (.ref f42) = true)
    (a43 : PySem.W.nsIn K mainGlobals "read_inside" = some (some (.ref f43))) (l43 : K.lookup f43 = some ⟨oc43, od43, .func (PySem.W.fnOf "read_inside" "read_inside" (defArgs s_read_inside) (defBody s_read_inside) (defScope s_read_inside) .none kV43 dc43 pm43 an43 cd43 ct43), sl43⟩) (c43 : PySem.W.codeIn K cd43 "read_inside" = true) (k43 : PySem.W.keepIn K (.ref f43) = true)
    (a44 : PySem.W.nsIn K mainGlobals "read_stage" = some (some (.ref f44))) (l44 : K.lookup f44 = some ⟨oc44, od44, .func (PySem.W.fnOf "read_stage" "read_stage" (defArgs s_read_stage) (defBody s_read_stage) (defScope s_read_stage) .none kV44 dc44 pm44 an44 cd44 ct44), sl44⟩) (c44 : PySem.W.codeIn K cd44 "read_stage" = true) (k44 : PySem.W.keepIn K (.ref f44) = true)
    (a45 : PySem.W.nsIn K mainGlobals "read_join" = some (some (.ref f45))) (l45 : K.lookup f45 = some ⟨oc45, od45, .func (PySem.W.fnOf "read_join" "read_join" (defArgs s_read_join) (defBody s_read_join) (defScope s_read_join) .none kV45 dc45 pm45 an45 cd45 ct45), sl45⟩) (c45 : PySem.W.codeIn K cd45 "read_join" = true) (k45 : PySem.W.keepIn K (.ref f45) = true)
    (a46 : PySem.W.nsIn K mainGlobals "read_group" = some (some (.ref f46))) (l46 : K.lookup f46 = some ⟨oc46, od46, .func (PySem.W.fnOf "read_group" "read_group" (defArgs s_read_group) (defBody s_read_group) (defScope s_read_group) .none kV46 dc46 pm46 an46 cd46 ct46), sl46⟩) (c46 : PySem.W.codeIn K cd46 "read_group" = true) (k46 : PySem.W.keepIn K (.ref f46) = true)
    (a47 : PySem.W.nsIn K mainGlobals "read_output" = some (some (.ref f47))) (l47 : K.lookup f47 = some ⟨oc47, od47, .func (PySem.W.fnOf "read_output" "read_output" (defArgs s_read_output) (defBody s_read_output) (defScope s_read_output) .none kV47 dc47 pm47 an47 cd47 ct47), sl47⟩) (c47 : PySem.W.codeIn K cd47 "read_output" = true) (k47 : PySem.W.keepIn K (.ref f47) = true)
    (a48 : PySem.W.nsIn K mainGlobals "read_total" = some (some (.ref f48))) (l48 : K.lookup f48 = some ⟨oc48, od48, .func (PySem.W.fnOf "read_total" "read_total" (defArgs s_read_total) (defBody s_read_total) (defScope s_read_total) .none kV48 dc48 pm48 an48 cd48 ct48), sl48⟩) (c48 : PySem.W.codeIn K cd48 "read_total" = true) (k48 : PySem.W.keepIn K (.ref f48) = true)
    (a49 : PySem.W.nsIn K mainGlobals "read_form" = some (some (.ref f49))) (l49 : K.lookup f49 = some ⟨oc49, od49, .func (PySem.W.fnOf "read_form" "read_form" (defArgs s_read_form) (defBody s_read_form) (defScope s_read_form) .none kV49 dc49 pm49 an49 cd49 ct49), sl49⟩) (c49 : PySem.W.codeIn K cd49 "read_form" = true) (k49 : PySem.W.keepIn K (.ref f49) = true)
    (a50 : PySem.W.nsIn K mainGlobals "_law_draw" = some (some (.ref f50))) (l50 : K.lookup f50 = some ⟨oc50, od50, .func (PySem.W.fnOf "_law_draw" "_law_draw" (defArgs s__law_draw) (defBody s__law_draw) (defScope s__law_draw) .none kV50 dc50 pm50 an50 cd50 ct50), sl50⟩) (c50 : PySem.W.codeIn K cd50 "_law_draw" = true) (k50 : PySem.W.keepIn K (.ref f50) = true)
    (a51 : PySem.W.nsIn K mainGlobals "_law_next" = some (some (.ref f51))) (l51 : K.lookup f51 = some ⟨oc51, od51, .func (PySem.W.fnOf "_law_next" "_law_next" (defArgs s__law_next) (defBody s__law_next) (defScope s__law_next) .none kV51 dc51 pm51 an51 cd51 ct51), sl51⟩) (c51 : PySem.W.codeIn K cd51 "_law_next" = true) (k51 : PySem.W.keepIn K (.ref f51) = true)
    (a52 : PySem.W.nsIn K mainGlobals "_law_reserved" = some (some (.ref f52))) (l52 : K.lookup f52 = some ⟨oc52, od52, .func (PySem.W.fnOf "_law_reserved" "_law_reserved" (defArgs s__law_reserved) (defBody s__law_reserved) (defScope s__law_reserved) .none kV52 dc52 pm52 an52 cd52 ct52), sl52⟩) (c52 : PySem.W.codeIn K cd52 "_law_reserved" = true) (k52 : PySem.W.keepIn K (.ref f52) = true)
    (a53 : PySem.W.nsIn K mainGlobals "_law_name" = some (some (.ref f53))) (l53 : K.lookup f53 = some ⟨oc53, od53, .func (PySem.W.fnOf "_law_name" "_law_name" (defArgs s__law_name) (defBody s__law_name) (defScope s__law_name) .none kV53 dc53 pm53 an53 cd53 ct53), sl53⟩) (c53 : PySem.W.codeIn K cd53 "_law_name" = true) (k53 : PySem.W.keepIn K (.ref f53) = true)
    (a54 : PySem.W.nsIn K mainGlobals "_law_string" = some (some (.ref f54))) (l54 : K.lookup f54 = some ⟨oc54, od54, .func (PySem.W.fnOf "_law_string" "_law_string" (defArgs s__law_string) (defBody s__law_string) (defScope s__law_string) .none kV54 dc54 pm54 an54 cd54 ct54), sl54⟩) (c54 : PySem.W.codeIn K cd54 "_law_string" = true) (k54 : PySem.W.keepIn K (.ref f54) = true)
    (a55 : PySem.W.nsIn K mainGlobals "_law_quoted" = some (some (.ref f55))) (l55 : K.lookup f55 = some ⟨oc55, od55, .func (PySem.W.fnOf "_law_quoted" "_law_quoted" (defArgs s__law_quoted) (defBody s__law_quoted) (defScope s__law_quoted) .none kV55 dc55 pm55 an55 cd55 ct55), sl55⟩) (c55 : PySem.W.codeIn K cd55 "_law_quoted" = true) (k55 : PySem.W.keepIn K (.ref f55) = true)
    (a56 : PySem.W.nsIn K mainGlobals "_law_number" = some (some (.ref f56))) (l56 : K.lookup f56 = some ⟨oc56, od56, .func (PySem.W.fnOf "_law_number" "_law_number" (defArgs s__law_number) (defBody s__law_number) (defScope s__law_number) .none kV56 dc56 pm56 an56 cd56 ct56), sl56⟩) (c56 : PySem.W.codeIn K cd56 "_law_number" = true) (k56 : PySem.W.keepIn K (.ref f56) = true)
    (a57 : PySem.W.nsIn K mainGlobals "_law_signs" = some (some (.ref f57))) (l57 : K.lookup f57 = some ⟨oc57, od57, .func (PySem.W.fnOf "_law_signs" "_law_signs" (defArgs s__law_signs) (defBody s__law_signs) (defScope s__law_signs) .none kV57 dc57 pm57 an57 cd57 ct57), sl57⟩) (c57 : PySem.W.codeIn K cd57 "_law_signs" = true) (k57 : PySem.W.keepIn K (.ref f57) = true)
    (a58 : PySem.W.nsIn K mainGlobals "_law_leaf" = some (some (.ref f58))) (l58 : K.lookup f58 = some ⟨oc58, od58, .func (PySem.W.fnOf "_law_leaf" "_law_leaf" (defArgs s__law_leaf) (defBody s__law_leaf) (defScope s__law_leaf) .none kV58 dc58 pm58 an58 cd58 ct58), sl58⟩) (c58 : PySem.W.codeIn K cd58 "_law_leaf" = true) (k58 : PySem.W.keepIn K (.ref f58) = true)
    (a59 : PySem.W.nsIn K mainGlobals "_law_expression" = some (some (.ref f59))) (l59 : K.lookup f59 = some ⟨oc59, od59, .func (PySem.W.fnOf "_law_expression" "_law_expression" (defArgs s__law_expression) (defBody s__law_expression) (defScope s__law_expression) .none kV59 dc59 pm59 an59 cd59 ct59), sl59⟩) (c59 : PySem.W.codeIn K cd59 "_law_expression" = true) (k59 : PySem.W.keepIn K (.ref f59) = true)
    (a60 : PySem.W.nsIn K mainGlobals "_law_level" = some (some (.ref f60))) (l60 : K.lookup f60 = some ⟨oc60, od60, .func (PySem.W.fnOf "_law_level" "_law_level" (defArgs s__law_level) (defBody s__law_level) (defScope s__law_level) .none kV60 dc60 pm60 an60 cd60 ct60), sl60⟩) (c60 : PySem.W.codeIn K cd60 "_law_level" = true) (k60 : PySem.W.keepIn K (.ref f60) = true)
    (a61 : PySem.W.nsIn K mainGlobals "_law_print_atom" = some (some (.ref f61))) (l61 : K.lookup f61 = some ⟨oc61, od61, .func (PySem.W.fnOf "_law_print_atom" "_law_print_atom" (defArgs s__law_print_atom) (defBody s__law_print_atom) (defScope s__law_print_atom) .none kV61 dc61 pm61 an61 cd61 ct61), sl61⟩) (c61 : PySem.W.codeIn K cd61 "_law_print_atom" = true) (k61 : PySem.W.keepIn K (.ref f61) = true)
    (a62 : PySem.W.nsIn K mainGlobals "_law_print" = some (some (.ref f62))) (l62 : K.lookup f62 = some ⟨oc62, od62, .func (PySem.W.fnOf "_law_print" "_law_print" (defArgs s__law_print) (defBody s__law_print) (defScope s__law_print) .none kV62 dc62 pm62 an62 cd62 ct62), sl62⟩) (c62 : PySem.W.codeIn K cd62 "_law_print" = true) (k62 : PySem.W.keepIn K (.ref f62) = true)
    (a63 : PySem.W.nsIn K mainGlobals "_law_outputs" = some (some (.ref f63))) (l63 : K.lookup f63 = some ⟨oc63, od63, .func (PySem.W.fnOf "_law_outputs" "_law_outputs" (defArgs s__law_outputs) (defBody s__law_outputs) (defScope s__law_outputs) .none kV63 dc63 pm63 an63 cd63 ct63), sl63⟩) (c63 : PySem.W.codeIn K cd63 "_law_outputs" = true) (k63 : PySem.W.keepIn K (.ref f63) = true)
    (a64 : PySem.W.nsIn K mainGlobals "_law_totals" = some (some (.ref f64))) (l64 : K.lookup f64 = some ⟨oc64, od64, .func (PySem.W.fnOf "_law_totals" "_law_totals" (defArgs s__law_totals) (defBody s__law_totals) (defScope s__law_totals) .none kV64 dc64 pm64 an64 cd64 ct64), sl64⟩) (c64 : PySem.W.codeIn K cd64 "_law_totals" = true) (k64 : PySem.W.keepIn K (.ref f64) = true)
    (a65 : PySem.W.nsIn K mainGlobals "_law_operand" = some (some (.ref f65))) (l65 : K.lookup f65 = some ⟨oc65, od65, .func (PySem.W.fnOf "_law_operand" "_law_operand" (defArgs s__law_operand) (defBody s__law_operand) (defScope s__law_operand) .none kV65 dc65 pm65 an65 cd65 ct65), sl65⟩) (c65 : PySem.W.codeIn K cd65 "_law_operand" = true) (k65 : PySem.W.keepIn K (.ref f65) = true)
    (a66 : PySem.W.nsIn K mainGlobals "_law_stage" = some (some (.ref f66))) (l66 : K.lookup f66 = some ⟨oc66, od66, .func (PySem.W.fnOf "_law_stage" "_law_stage" (defArgs s__law_stage) (defBody s__law_stage) (defScope s__law_stage) .none kV66 dc66 pm66 an66 cd66 ct66), sl66⟩) (c66 : PySem.W.codeIn K cd66 "_law_stage" = true) (k66 : PySem.W.keepIn K (.ref f66) = true)
    (a67 : PySem.W.nsIn K mainGlobals "_law_query" = some (some (.ref f67))) (l67 : K.lookup f67 = some ⟨oc67, od67, .func (PySem.W.fnOf "_law_query" "_law_query" (defArgs s__law_query) (defBody s__law_query) (defScope s__law_query) .none kV67 dc67 pm67 an67 cd67 ct67), sl67⟩) (c67 : PySem.W.codeIn K cd67 "_law_query" = true) (k67 : PySem.W.keepIn K (.ref f67) = true)
    (a68 : PySem.W.nsIn K mainGlobals "_law_print_output" = some (some (.ref f68))) (l68 : K.lookup f68 = some ⟨oc68, od68, .func (PySem.W.fnOf "_law_print_output" "_law_print_output" (defArgs s__law_print_output) (defBody s__law_print_output) (defScope s__law_print_output) .none kV68 dc68 pm68 an68 cd68 ct68), sl68⟩) (c68 : PySem.W.codeIn K cd68 "_law_print_output" = true) (k68 : PySem.W.keepIn K (.ref f68) = true)
    (a69 : PySem.W.nsIn K mainGlobals "_law_print_total" = some (some (.ref f69))) (l69 : K.lookup f69 = some ⟨oc69, od69, .func (PySem.W.fnOf "_law_print_total" "_law_print_total" (defArgs s__law_print_total) (defBody s__law_print_total) (defScope s__law_print_total) .none kV69 dc69 pm69 an69 cd69 ct69), sl69⟩) (c69 : PySem.W.codeIn K cd69 "_law_print_total" = true) (k69 : PySem.W.keepIn K (.ref f69) = true)
    (a70 : PySem.W.nsIn K mainGlobals "_law_print_operand" = some (some (.ref f70))) (l70 : K.lookup f70 = some ⟨oc70, od70, .func (PySem.W.fnOf "_law_print_operand" "_law_print_operand" (defArgs s__law_print_operand) (defBody s__law_print_operand) (defScope s__law_print_operand) .none kV70 dc70 pm70 an70 cd70 ct70), sl70⟩) (c70 : PySem.W.codeIn K cd70 "_law_print_operand" = true) (k70 : PySem.W.keepIn K (.ref f70) = true)
    (a71 : PySem.W.nsIn K mainGlobals "_law_print_stage" = some (some (.ref f71))) (l71 : K.lookup f71 = some ⟨oc71, od71, .func (PySem.W.fnOf "_law_print_stage" "_law_print_stage" (defArgs s__law_print_stage) (defBody s__law_print_stage) (defScope s__law_print_stage) .none kV71 dc71 pm71 an71 cd71 ct71), sl71⟩) (c71 : PySem.W.codeIn K cd71 "_law_print_stage" = true) (k71 : PySem.W.keepIn K (.ref f71) = true)
    (a72 : PySem.W.nsIn K mainGlobals "_law_print_query" = some (some (.ref f72))) (l72 : K.lookup f72 = some ⟨oc72, od72, .func (PySem.W.fnOf "_law_print_query" "_law_print_query" (defArgs s__law_print_query) (defBody s__law_print_query) (defScope s__law_print_query) .none kV72 dc72 pm72 an72 cd72 ct72), sl72⟩) (c72 : PySem.W.codeIn K cd72 "_law_print_query" = true) (k72 : PySem.W.keepIn K (.ref f72) = true)
    (a73 : PySem.W.nsIn K mainGlobals "_law_items" = some (some (.ref f73))) (l73 : K.lookup f73 = some ⟨oc73, od73, .func (PySem.W.fnOf "_law_items" "_law_items" (defArgs s__law_items) (defBody s__law_items) (defScope s__law_items) .none kV73 dc73 pm73 an73 cd73 ct73), sl73⟩) (c73 : PySem.W.codeIn K cd73 "_law_items" = true) (k73 : PySem.W.keepIn K (.ref f73) = true)
    (a74 : PySem.W.nsIn K mainGlobals "_law_print_item" = some (some (.ref f74))) (l74 : K.lookup f74 = some ⟨oc74, od74, .func (PySem.W.fnOf "_law_print_item" "_law_print_item" (defArgs s__law_print_item) (defBody s__law_print_item) (defScope s__law_print_item) .none kV74 dc74 pm74 an74 cd74 ct74), sl74⟩) (c74 : PySem.W.codeIn K cd74 "_law_print_item" = true) (k74 : PySem.W.keepIn K (.ref f74) = true)
    (a75 : PySem.W.nsIn K mainGlobals "_law_same" = some (some (.ref f75))) (l75 : K.lookup f75 = some ⟨oc75, od75, .func (PySem.W.fnOf "_law_same" "_law_same" (defArgs s__law_same) (defBody s__law_same) (defScope s__law_same) .none kV75 dc75 pm75 an75 cd75 ct75), sl75⟩) (c75 : PySem.W.codeIn K cd75 "_law_same" = true) (k75 : PySem.W.keepIn K (.ref f75) = true)
    (a76 : PySem.W.nsIn K mainGlobals "law" = some (some (.ref f76))) (l76 : K.lookup f76 = some ⟨oc76, od76, .func (PySem.W.fnOf "law" "law" (defArgs s_law) (defBody s_law) (defScope s_law) .none kV76 dc76 pm76 an76 cd76 ct76), sl76⟩) (c76 : PySem.W.codeIn K cd76 "law" = true) (k76 : PySem.W.keepIn K (.ref f76) = true)
    {a_BLANKS : Addr} {dd_BLANKS : Option Addr} {n_BLANKS : Nat} {sl_BLANKS : Array (Option Value)} {tk_BLANKS_0 tk_BLANKS_1 tk_BLANKS_2 : Tok} (w_BLANKS : PySem.W.nsIn K mainGlobals "BLANKS" = some (some (.ref a_BLANKS))) (v_BLANKS : K.lookup a_BLANKS = some ⟨.type "tuple", dd_BLANKS, .seq #[.str (PySem.Str.ofString " ") tk_BLANKS_0, .str (PySem.Str.ofString "\t") tk_BLANKS_1, .str (PySem.Str.ofString "\n") tk_BLANKS_2] n_BLANKS, sl_BLANKS⟩) {a_SIGNS : Addr} {dd_SIGNS : Option Addr} {n_SIGNS : Nat} {sl_SIGNS : Array (Option Value)} {tk_SIGNS_0 tk_SIGNS_1 tk_SIGNS_2 tk_SIGNS_3 tk_SIGNS_4 tk_SIGNS_5 tk_SIGNS_6 tk_SIGNS_7 tk_SIGNS_8 tk_SIGNS_9 tk_SIGNS_10 tk_SIGNS_11 tk_SIGNS_12 tk_SIGNS_13 : Tok} (w_SIGNS : PySem.W.nsIn K mainGlobals "SIGNS" = some (some (.ref a_SIGNS))) (v_SIGNS : K.lookup a_SIGNS = some ⟨.type "tuple", dd_SIGNS, .seq #[.str (PySem.Str.ofString "<=") tk_SIGNS_0, .str (PySem.Str.ofString ">=") tk_SIGNS_1, .str (PySem.Str.ofString "!=") tk_SIGNS_2, .str (PySem.Str.ofString "(") tk_SIGNS_3, .str (PySem.Str.ofString ")") tk_SIGNS_4, .str (PySem.Str.ofString ";") tk_SIGNS_5, .str (PySem.Str.ofString ",") tk_SIGNS_6, .str (PySem.Str.ofString ".") tk_SIGNS_7, .str (PySem.Str.ofString "<") tk_SIGNS_8, .str (PySem.Str.ofString ">") tk_SIGNS_9, .str (PySem.Str.ofString "=") tk_SIGNS_10, .str (PySem.Str.ofString "+") tk_SIGNS_11, .str (PySem.Str.ofString "-") tk_SIGNS_12, .str (PySem.Str.ofString "*") tk_SIGNS_13] n_SIGNS, sl_SIGNS⟩) {tk_DIGITS : Tok} (w_DIGITS : PySem.W.nsIn K mainGlobals "DIGITS" = some (some (.str (PySem.Str.ofString "0123456789") tk_DIGITS))) {tk_LETTERS : Tok} (w_LETTERS : PySem.W.nsIn K mainGlobals "LETTERS" = some (some (.str (PySem.Str.ofString "abcdefghijklmnopqrstuvwxyz_ABCDEFGHIJKLMNOPQRSTUVWXYZ") tk_LETTERS))) {tk_MOST_WORD : Tok} (w_MOST_WORD : PySem.W.nsIn K mainGlobals "MOST_WORD" = some (some (.int 20 tk_MOST_WORD))) {tk_MOST_NUMBER : Tok} (w_MOST_NUMBER : PySem.W.nsIn K mainGlobals "MOST_NUMBER" = some (some (.int 15 tk_MOST_NUMBER))) {tk_MOST_TEXT : Tok} (w_MOST_TEXT : PySem.W.nsIn K mainGlobals "MOST_TEXT" = some (some (.int 100 tk_MOST_TEXT))) {a_KINDS : Addr} {dd_KINDS : Option Addr} {n_KINDS : Nat} {sl_KINDS : Array (Option Value)} {tk_KINDS_0 tk_KINDS_1 tk_KINDS_2 : Tok} (w_KINDS : PySem.W.nsIn K mainGlobals "KINDS" = some (some (.ref a_KINDS))) (v_KINDS : K.lookup a_KINDS = some ⟨.type "tuple", dd_KINDS, .seq #[.str (PySem.Str.ofString "int") tk_KINDS_0, .str (PySem.Str.ofString "text") tk_KINDS_1, .str (PySem.Str.ofString "truth") tk_KINDS_2] n_KINDS, sl_KINDS⟩) {a_ARGUMENT_TOTALS : Addr} {dd_ARGUMENT_TOTALS : Option Addr} {n_ARGUMENT_TOTALS : Nat} {sl_ARGUMENT_TOTALS : Array (Option Value)} {tk_ARGUMENT_TOTALS_0 tk_ARGUMENT_TOTALS_1 tk_ARGUMENT_TOTALS_2 tk_ARGUMENT_TOTALS_3 : Tok} (w_ARGUMENT_TOTALS : PySem.W.nsIn K mainGlobals "ARGUMENT_TOTALS" = some (some (.ref a_ARGUMENT_TOTALS))) (v_ARGUMENT_TOTALS : K.lookup a_ARGUMENT_TOTALS = some ⟨.type "tuple", dd_ARGUMENT_TOTALS, .seq #[.str (PySem.Str.ofString "distinct") tk_ARGUMENT_TOTALS_0, .str (PySem.Str.ofString "sum") tk_ARGUMENT_TOTALS_1, .str (PySem.Str.ofString "min") tk_ARGUMENT_TOTALS_2, .str (PySem.Str.ofString "max") tk_ARGUMENT_TOTALS_3] n_ARGUMENT_TOTALS, sl_ARGUMENT_TOTALS⟩) {a_RESERVED : Addr} {dd_RESERVED : Option Addr} {n_RESERVED : Nat} {sl_RESERVED : Array (Option Value)} {tk_RESERVED_0 tk_RESERVED_1 tk_RESERVED_2 tk_RESERVED_3 tk_RESERVED_4 tk_RESERVED_5 tk_RESERVED_6 tk_RESERVED_7 tk_RESERVED_8 tk_RESERVED_9 tk_RESERVED_10 tk_RESERVED_11 tk_RESERVED_12 tk_RESERVED_13 tk_RESERVED_14 tk_RESERVED_15 tk_RESERVED_16 tk_RESERVED_17 tk_RESERVED_18 tk_RESERVED_19 tk_RESERVED_20 tk_RESERVED_21 tk_RESERVED_22 tk_RESERVED_23 tk_RESERVED_24 tk_RESERVED_25 tk_RESERVED_26 tk_RESERVED_27 tk_RESERVED_28 tk_RESERVED_29 tk_RESERVED_30 tk_RESERVED_31 tk_RESERVED_32 tk_RESERVED_33 tk_RESERVED_34 tk_RESERVED_35 tk_RESERVED_36 : Tok} (w_RESERVED : PySem.W.nsIn K mainGlobals "RESERVED" = some (some (.ref a_RESERVED))) (v_RESERVED : K.lookup a_RESERVED = some ⟨.type "tuple", dd_RESERVED, .seq #[.str (PySem.Str.ofString "table") tk_RESERVED_0, .str (PySem.Str.ofString "step") tk_RESERVED_1, .str (PySem.Str.ofString "int") tk_RESERVED_2, .str (PySem.Str.ofString "text") tk_RESERVED_3, .str (PySem.Str.ofString "truth") tk_RESERVED_4, .str (PySem.Str.ofString "from") tk_RESERVED_5, .str (PySem.Str.ofString "as") tk_RESERVED_6, .str (PySem.Str.ofString "left") tk_RESERVED_7, .str (PySem.Str.ofString "semi") tk_RESERVED_8, .str (PySem.Str.ofString "anti") tk_RESERVED_9, .str (PySem.Str.ofString "join") tk_RESERVED_10, .str (PySem.Str.ofString "on") tk_RESERVED_11, .str (PySem.Str.ofString "where") tk_RESERVED_12, .str (PySem.Str.ofString "group") tk_RESERVED_13, .str (PySem.Str.ofString "with") tk_RESERVED_14, .str (PySem.Str.ofString "select") tk_RESERVED_15, .str (PySem.Str.ofString "union") tk_RESERVED_16, .str (PySem.Str.ofString "except") tk_RESERVED_17, .str (PySem.Str.ofString "intersect") tk_RESERVED_18, .str (PySem.Str.ofString "count") tk_RESERVED_19, .str (PySem.Str.ofString "distinct") tk_RESERVED_20, .str (PySem.Str.ofString "sum") tk_RESERVED_21, .str (PySem.Str.ofString "min") tk_RESERVED_22, .str (PySem.Str.ofString "max") tk_RESERVED_23, .str (PySem.Str.ofString "or") tk_RESERVED_24, .str (PySem.Str.ofString "and") tk_RESERVED_25, .str (PySem.Str.ofString "not") tk_RESERVED_26, .str (PySem.Str.ofString "div") tk_RESERVED_27, .str (PySem.Str.ofString "mod") tk_RESERVED_28, .str (PySem.Str.ofString "null") tk_RESERVED_29, .str (PySem.Str.ofString "true") tk_RESERVED_30, .str (PySem.Str.ofString "false") tk_RESERVED_31, .str (PySem.Str.ofString "length") tk_RESERVED_32, .str (PySem.Str.ofString "missing") tk_RESERVED_33, .str (PySem.Str.ofString "starts") tk_RESERVED_34, .str (PySem.Str.ofString "coalesce") tk_RESERVED_35, .str (PySem.Str.ofString "if") tk_RESERVED_36] n_RESERVED, sl_RESERVED⟩) {a_COMPARISONS : Addr} {dd_COMPARISONS : Option Addr} {n_COMPARISONS : Nat} {sl_COMPARISONS : Array (Option Value)} {tk_COMPARISONS_0 tk_COMPARISONS_1 tk_COMPARISONS_2 tk_COMPARISONS_3 tk_COMPARISONS_4 tk_COMPARISONS_5 : Tok} (w_COMPARISONS : PySem.W.nsIn K mainGlobals "COMPARISONS" = some (some (.ref a_COMPARISONS))) (v_COMPARISONS : K.lookup a_COMPARISONS = some ⟨.type "tuple", dd_COMPARISONS, .seq #[.str (PySem.Str.ofString "<") tk_COMPARISONS_0, .str (PySem.Str.ofString "<=") tk_COMPARISONS_1, .str (PySem.Str.ofString "=") tk_COMPARISONS_2, .str (PySem.Str.ofString "!=") tk_COMPARISONS_3, .str (PySem.Str.ofString ">=") tk_COMPARISONS_4, .str (PySem.Str.ofString ">") tk_COMPARISONS_5] n_COMPARISONS, sl_COMPARISONS⟩) {a_CONSTANTS : Addr} {es_CONSTANTS : Array DictEntry} {n_CONSTANTS : Nat} (w_CONSTANTS : PySem.W.nsIn K mainGlobals "CONSTANTS" = some (some (.ref a_CONSTANTS))) (v_CONSTANTS : K.lookup a_CONSTANTS = some ⟨.type "dict", none, .dict es_CONSTANTS n_CONSTANTS, #[]⟩) (k_CONSTANTS : PySem.W.KeysLit w.params es_CONSTANTS.toList) (lo_CONSTANTS : (a_CONSTANTS == sysModules) = false) {a_CONSTANTS_0 : Addr} {dd_CONSTANTS_0 : Option Addr} {n_CONSTANTS_0 : Nat} {sl_CONSTANTS_0 : Array (Option Value)} {tk_CONSTANTS_0_0 tk_CONSTANTS_0_1 : Tok} (w_CONSTANTS_0 : PySem.W.nsIn K a_CONSTANTS (PySem.Str.ofString "true") = some (some (.ref a_CONSTANTS_0))) (v_CONSTANTS_0 : K.lookup a_CONSTANTS_0 = some ⟨.type "tuple", dd_CONSTANTS_0, .seq #[.str (PySem.Str.ofString "truth") tk_CONSTANTS_0_0, .int 1 tk_CONSTANTS_0_1] n_CONSTANTS_0, sl_CONSTANTS_0⟩) {a_CONSTANTS_1 : Addr} {dd_CONSTANTS_1 : Option Addr} {n_CONSTANTS_1 : Nat} {sl_CONSTANTS_1 : Array (Option Value)} {tk_CONSTANTS_1_0 tk_CONSTANTS_1_1 : Tok} (w_CONSTANTS_1 : PySem.W.nsIn K a_CONSTANTS (PySem.Str.ofString "false") = some (some (.ref a_CONSTANTS_1))) (v_CONSTANTS_1 : K.lookup a_CONSTANTS_1 = some ⟨.type "tuple", dd_CONSTANTS_1, .seq #[.str (PySem.Str.ofString "truth") tk_CONSTANTS_1_0, .int 0 tk_CONSTANTS_1_1] n_CONSTANTS_1, sl_CONSTANTS_1⟩) {a_CONSTANTS_2 : Addr} {dd_CONSTANTS_2 : Option Addr} {n_CONSTANTS_2 : Nat} {sl_CONSTANTS_2 : Array (Option Value)} {tk_CONSTANTS_2_0 : Tok} (w_CONSTANTS_2 : PySem.W.nsIn K a_CONSTANTS (PySem.Str.ofString "null") = some (some (.ref a_CONSTANTS_2))) (v_CONSTANTS_2 : K.lookup a_CONSTANTS_2 = some ⟨.type "tuple", dd_CONSTANTS_2, .seq #[.str (PySem.Str.ofString "null") tk_CONSTANTS_2_0] n_CONSTANTS_2, sl_CONSTANTS_2⟩) {a_FUNCTIONS : Addr} {es_FUNCTIONS : Array DictEntry} {n_FUNCTIONS : Nat} (w_FUNCTIONS : PySem.W.nsIn K mainGlobals "FUNCTIONS" = some (some (.ref a_FUNCTIONS))) (v_FUNCTIONS : K.lookup a_FUNCTIONS = some ⟨.type "dict", none, .dict es_FUNCTIONS n_FUNCTIONS, #[]⟩) (k_FUNCTIONS : PySem.W.KeysLit w.params es_FUNCTIONS.toList) (lo_FUNCTIONS : (a_FUNCTIONS == sysModules) = false) {tk_FUNCTIONS_0 : Tok} (w_FUNCTIONS_0 : PySem.W.nsIn K a_FUNCTIONS (PySem.Str.ofString "missing") = some (some (.int 1 tk_FUNCTIONS_0))) {tk_FUNCTIONS_1 : Tok} (w_FUNCTIONS_1 : PySem.W.nsIn K a_FUNCTIONS (PySem.Str.ofString "length") = some (some (.int 1 tk_FUNCTIONS_1))) {tk_FUNCTIONS_2 : Tok} (w_FUNCTIONS_2 : PySem.W.nsIn K a_FUNCTIONS (PySem.Str.ofString "starts") = some (some (.int 2 tk_FUNCTIONS_2))) {tk_FUNCTIONS_3 : Tok} (w_FUNCTIONS_3 : PySem.W.nsIn K a_FUNCTIONS (PySem.Str.ofString "coalesce") = some (some (.int 2 tk_FUNCTIONS_3))) {tk_FUNCTIONS_4 : Tok} (w_FUNCTIONS_4 : PySem.W.nsIn K a_FUNCTIONS (PySem.Str.ofString "if") = some (some (.int 3 tk_FUNCTIONS_4))) (m_FUNCTIONS_0 : PySem.W.nsIn K a_FUNCTIONS (PySem.Str.ofString "") = some none) (m_FUNCTIONS_1 : PySem.W.nsIn K a_FUNCTIONS (PySem.Str.ofString "true") = some none) (m_FUNCTIONS_2 : PySem.W.nsIn K a_FUNCTIONS (PySem.Str.ofString "false") = some none) (m_FUNCTIONS_3 : PySem.W.nsIn K a_FUNCTIONS (PySem.Str.ofString "null") = some none) {tk_MOST_HEIGHT : Tok} (w_MOST_HEIGHT : PySem.W.nsIn K mainGlobals "MOST_HEIGHT" = some (some (.int 30 tk_MOST_HEIGHT))) {tk_MOST_LEVEL_expressions : Tok} (w_MOST_LEVEL_expressions : PySem.W.nsIn K mainGlobals "MOST_LEVEL_expressions" = some (some (.int 12 tk_MOST_LEVEL_expressions))) {tk_MOST_LEVEL_parsing : Tok} (w_MOST_LEVEL_parsing : PySem.W.nsIn K mainGlobals "MOST_LEVEL_parsing" = some (some (.int 6 tk_MOST_LEVEL_parsing))) {a_STAGE_WORDS : Addr} {dd_STAGE_WORDS : Option Addr} {n_STAGE_WORDS : Nat} {sl_STAGE_WORDS : Array (Option Value)} {tk_STAGE_WORDS_0 tk_STAGE_WORDS_1 tk_STAGE_WORDS_2 tk_STAGE_WORDS_3 tk_STAGE_WORDS_4 tk_STAGE_WORDS_5 tk_STAGE_WORDS_6 : Tok} (w_STAGE_WORDS : PySem.W.nsIn K mainGlobals "STAGE_WORDS" = some (some (.ref a_STAGE_WORDS))) (v_STAGE_WORDS : K.lookup a_STAGE_WORDS = some ⟨.type "tuple", dd_STAGE_WORDS, .seq #[.str (PySem.Str.ofString "left") tk_STAGE_WORDS_0, .str (PySem.Str.ofString "semi") tk_STAGE_WORDS_1, .str (PySem.Str.ofString "anti") tk_STAGE_WORDS_2, .str (PySem.Str.ofString "join") tk_STAGE_WORDS_3, .str (PySem.Str.ofString "where") tk_STAGE_WORDS_4, .str (PySem.Str.ofString "group") tk_STAGE_WORDS_5, .str (PySem.Str.ofString "select") tk_STAGE_WORDS_6] n_STAGE_WORDS, sl_STAGE_WORDS⟩) {a_UNION_WORDS : Addr} {dd_UNION_WORDS : Option Addr} {n_UNION_WORDS : Nat} {sl_UNION_WORDS : Array (Option Value)} {tk_UNION_WORDS_0 tk_UNION_WORDS_1 tk_UNION_WORDS_2 : Tok} (w_UNION_WORDS : PySem.W.nsIn K mainGlobals "UNION_WORDS" = some (some (.ref a_UNION_WORDS))) (v_UNION_WORDS : K.lookup a_UNION_WORDS = some ⟨.type "tuple", dd_UNION_WORDS, .seq #[.str (PySem.Str.ofString "union") tk_UNION_WORDS_0, .str (PySem.Str.ofString "except") tk_UNION_WORDS_1, .str (PySem.Str.ofString "intersect") tk_UNION_WORDS_2] n_UNION_WORDS, sl_UNION_WORDS⟩) {a_JOIN_WORDS : Addr} {dd_JOIN_WORDS : Option Addr} {n_JOIN_WORDS : Nat} {sl_JOIN_WORDS : Array (Option Value)} {tk_JOIN_WORDS_0 tk_JOIN_WORDS_1 tk_JOIN_WORDS_2 : Tok} (w_JOIN_WORDS : PySem.W.nsIn K mainGlobals "JOIN_WORDS" = some (some (.ref a_JOIN_WORDS))) (v_JOIN_WORDS : K.lookup a_JOIN_WORDS = some ⟨.type "tuple", dd_JOIN_WORDS, .seq #[.str (PySem.Str.ofString "left") tk_JOIN_WORDS_0, .str (PySem.Str.ofString "semi") tk_JOIN_WORDS_1, .str (PySem.Str.ofString "anti") tk_JOIN_WORDS_2] n_JOIN_WORDS, sl_JOIN_WORDS⟩) (aC_Reader : PySem.W.nsIn K mainGlobals "Reader" = some (some (.ref C_Reader))) (pg_Reader : PySem.W.plainGet K C_Reader Str.empty = true) (hd_Reader : PySem.W.hasDictIn K C_Reader = true) (po_Reader : PySem.W.plainOver K C_Reader = true) (sa_Reader : PySem.W.findIn K (.ref C_Reader) "__setattr__" = some (some (.builtin "object.__setattr__"))) (mk_Reader : PySem.W.makesIn K C_Reader = true) (kc_Reader : PySem.W.keepIn K (.ref C_Reader) = true) (nf_Reader_at : PySem.W.findIn K (.ref C_Reader) "at" = some none) (nf_Reader_found : PySem.W.findIn K (.ref C_Reader) "found" = some none) (nf_Reader_source : PySem.W.findIn K (.ref C_Reader) "source" = some none) (z_abs : PySem.W.nsIn K mainGlobals "abs" = some none) (z_all : PySem.W.nsIn K mainGlobals "all" = some none) (z_bool : PySem.W.nsIn K mainGlobals "bool" = some none) (z_int : PySem.W.nsIn K mainGlobals "int" = some none) (z_isinstance : PySem.W.nsIn K mainGlobals "isinstance" = some none) (z_len : PySem.W.nsIn K mainGlobals "len" = some none) (z_list : PySem.W.nsIn K mainGlobals "list" = some none) (z_max : PySem.W.nsIn K mainGlobals "max" = some none) (z_range : PySem.W.nsIn K mainGlobals "range" = some none) (z_str : PySem.W.nsIn K mainGlobals "str" = some none) (z_tuple : PySem.W.nsIn K mainGlobals "tuple" = some none) :
    ∃ fd : FuncData, (∀ (s : Shared) (v : Value), BindsTo s fd ⟨[v], []⟩ [("script", v)]) ∧ ∀ base : Heap, K.In base → base.Ns mainGlobals mg → FnOk l.prog w K mg base CX0 121 fa fd ["script"] (sp_law K) := by
  have e := hfa.symm.trans (PySem.W.mg_of X G a76)
  cases e
  have F_read_expression := fun_mk (st := s_read_expression) l0 c0 k0
  have b_read_expression := F_read_expression.binds (ps := ["reader"]) fun _ _ _ _ _ _ us hl => match us, hl with | [_], _ => rfl
  have g_read_expression := PySem.W.mg_of X G a0
  have F_read_or := fun_mk (st := s_read_or) l1 c1 k1
  have b_read_or := F_read_or.binds (ps := ["reader", "level"]) fun _ _ _ _ _ _ us hl => match us, hl with | [_, _], _ => rfl
  have g_read_or := PySem.W.mg_of X G a1
  have F_read_and := fun_mk (st := s_read_and) l2 c2 k2
  have b_read_and := F_read_and.binds (ps := ["reader", "level"]) fun _ _ _ _ _ _ us hl => match us, hl with | [_, _], _ => rfl
  have g_read_and := PySem.W.mg_of X G a2
  have F_read_not := fun_mk (st := s_read_not) l3 c3 k3
  have b_read_not := F_read_not.binds (ps := ["reader", "level"]) fun _ _ _ _ _ _ us hl => match us, hl with | [_, _], _ => rfl
  have g_read_not := PySem.W.mg_of X G a3
  have F_read_comparison := fun_mk (st := s_read_comparison) l4 c4 k4
  have b_read_comparison := F_read_comparison.binds (ps := ["reader", "level"]) fun _ _ _ _ _ _ us hl => match us, hl with | [_, _], _ => rfl
  have g_read_comparison := PySem.W.mg_of X G a4
  have F_read_sum := fun_mk (st := s_read_sum) l5 c5 k5
  have b_read_sum := F_read_sum.binds (ps := ["reader", "level"]) fun _ _ _ _ _ _ us hl => match us, hl with | [_, _], _ => rfl
  have g_read_sum := PySem.W.mg_of X G a5
  have F_read_product := fun_mk (st := s_read_product) l6 c6 k6
  have b_read_product := F_read_product.binds (ps := ["reader", "level"]) fun _ _ _ _ _ _ us hl => match us, hl with | [_, _], _ => rfl
  have g_read_product := PySem.W.mg_of X G a6
  have F_read_negation := fun_mk (st := s_read_negation) l7 c7 k7
  have b_read_negation := F_read_negation.binds (ps := ["reader", "level"]) fun _ _ _ _ _ _ us hl => match us, hl with | [_, _], _ => rfl
  have g_read_negation := PySem.W.mg_of X G a7
  have F_read_left_to_right := fun_mk (st := s_read_left_to_right) l8 c8 k8
  have b_read_left_to_right := F_read_left_to_right.binds (ps := ["reader", "level", "words", "read_operand"]) fun _ _ _ _ _ _ us hl => match us, hl with | [_, _, _, _], _ => rfl
  have g_read_left_to_right := PySem.W.mg_of X G a8
  have F_read_atom := fun_mk (st := s_read_atom) l9 c9 k9
  have b_read_atom := F_read_atom.binds (ps := ["reader", "level"]) fun _ _ _ _ _ _ us hl => match us, hl with | [_, _], _ => rfl
  have g_read_atom := PySem.W.mg_of X G a9
  have F_read_parenthesis := fun_mk (st := s_read_parenthesis) l10 c10 k10
  have b_read_parenthesis := F_read_parenthesis.binds (ps := ["reader", "level"]) fun _ _ _ _ _ _ us hl => match us, hl with | [_, _], _ => rfl
  have g_read_parenthesis := PySem.W.mg_of X G a10
  have F_read_call := fun_mk (st := s_read_call) l11 c11 k11
  have b_read_call := F_read_call.binds (ps := ["reader", "level"]) fun _ _ _ _ _ _ us hl => match us, hl with | [_, _], _ => rfl
  have g_read_call := PySem.W.mg_of X G a11
  have F_read_leaf := fun_mk (st := s_read_leaf) l12 c12 k12
  have b_read_leaf := F_read_leaf.binds (ps := ["reader"]) fun _ _ _ _ _ _ us hl => match us, hl with | [_], _ => rfl
  have g_read_leaf := PySem.W.mg_of X G a12
  have F_read_named := fun_mk (st := s_read_named) l13 c13 k13
  have b_read_named := F_read_named.binds (ps := ["reader"]) fun _ _ _ _ _ _ us hl => match us, hl with | [_], _ => rfl
  have g_read_named := PySem.W.mg_of X G a13
  have F_deeper := fun_mk (st := s_deeper) l14 c14 k14
  have b_deeper := F_deeper.binds (ps := ["reader", "level"]) fun _ _ _ _ _ _ us hl => match us, hl with | [_, _], _ => rfl
  have g_deeper := PySem.W.mg_of X G a14
  have F_tokens := fun_mk (st := s_tokens) l15 c15 k15
  have b_tokens := F_tokens.binds (ps := ["source"]) fun _ _ _ _ _ _ us hl => match us, hl with | [_], _ => rfl
  have g_tokens := PySem.W.mg_of X G a15
  have F_behind_gap := fun_mk (st := s_behind_gap) l16 c16 k16
  have b_behind_gap := F_behind_gap.binds (ps := ["source", "start"]) fun _ _ _ _ _ _ us hl => match us, hl with | [_, _], _ => rfl
  have g_behind_gap := PySem.W.mg_of X G a16
  have F_behind_comment := fun_mk (st := s_behind_comment) l17 c17 k17
  have b_behind_comment := F_behind_comment.binds (ps := ["source", "start"]) fun _ _ _ _ _ _ us hl => match us, hl with | [_, _], _ => rfl
  have g_behind_comment := PySem.W.mg_of X G a17
  have F_read_token := fun_mk (st := s_read_token) l18 c18 k18
  have b_read_token := F_read_token.binds (ps := ["source", "start"]) fun _ _ _ _ _ _ us hl => match us, hl with | [_, _], _ => rfl
  have g_read_token := PySem.W.mg_of X G a18
  have F_read_word := fun_mk (st := s_read_word) l19 c19 k19
  have b_read_word := F_read_word.binds (ps := ["source", "start"]) fun _ _ _ _ _ _ us hl => match us, hl with | [_, _], _ => rfl
  have g_read_word := PySem.W.mg_of X G a19
  have F_read_number := fun_mk (st := s_read_number) l20 c20 k20
  have b_read_number := F_read_number.binds (ps := ["source", "start"]) fun _ _ _ _ _ _ us hl => match us, hl with | [_, _], _ => rfl
  have g_read_number := PySem.W.mg_of X G a20
  have F_read_text := fun_mk (st := s_read_text) l21 c21 k21
  have b_read_text := F_read_text.binds (ps := ["source", "start"]) fun _ _ _ _ _ _ us hl => match us, hl with | [_, _], _ => rfl
  have g_read_text := PySem.W.mg_of X G a21
  have F_read_sign := fun_mk (st := s_read_sign) l22 c22 k22
  have b_read_sign := F_read_sign.binds (ps := ["source", "start"]) fun _ _ _ _ _ _ us hl => match us, hl with | [_, _], _ => rfl
  have g_read_sign := PySem.W.mg_of X G a22
  have F_behind_run := fun_mk (st := s_behind_run) l23 c23 k23
  have b_behind_run := F_behind_run.binds (ps := ["source", "start", "members"]) fun _ _ _ _ _ _ us hl => match us, hl with | [_, _, _], _ => rfl
  have g_behind_run := PySem.W.mg_of X G a23
  have F_behind_text := fun_mk (st := s_behind_text) l24 c24 k24
  have b_behind_text := F_behind_text.binds (ps := ["source", "start"]) fun _ _ _ _ _ _ us hl => match us, hl with | [_, _], _ => rfl
  have g_behind_text := PySem.W.mg_of X G a24
  have F_Reader___init__ := fun_mk (st := s_Reader___init__) l25 c25 k25
  have b_Reader___init__ := F_Reader___init__.binds (ps := ["self", "source"]) fun _ _ _ _ _ _ us hl => match us, hl with | [_, _], _ => rfl
  have mk0_Reader : Mk K C_Reader f25 := ⟨mk_Reader, a25, i25, kc_Reader⟩
  have F_Reader_kind := fun_mk (st := s_Reader_kind) l26 c26 k26
  have b_Reader_kind := F_Reader_kind.binds (ps := ["self"]) fun _ _ _ _ _ _ us hl => match us, hl with | [_], _ => rfl
  have m_Reader_kind : Meth K C_Reader "kind" f26 := ⟨a26, i26, k26⟩
  have F_Reader_ahead := fun_mk (st := s_Reader_ahead) l27 c27 k27
  have b_Reader_ahead := F_Reader_ahead.binds (ps := ["self"]) fun _ _ _ _ _ _ us hl => match us, hl with | [_], _ => rfl
  have m_Reader_ahead : Meth K C_Reader "ahead" f27 := ⟨a27, i27, k27⟩
  have F_Reader_offset := fun_mk (st := s_Reader_offset) l28 c28 k28
  have b_Reader_offset := F_Reader_offset.binds (ps := ["self"]) fun _ _ _ _ _ _ us hl => match us, hl with | [_], _ => rfl
  have m_Reader_offset : Meth K C_Reader "offset" f28 := ⟨a28, i28, k28⟩
  have F_Reader_take := fun_mk (st := s_Reader_take) l29 c29 k29
  have b_Reader_take := F_Reader_take.binds (ps := ["self"]) fun _ _ _ _ _ _ us hl => match us, hl with | [_], _ => rfl
  have m_Reader_take : Meth K C_Reader "take" f29 := ⟨a29, i29, k29⟩
  have F_Reader_expect := fun_mk (st := s_Reader_expect) l30 c30 k30
  have b_Reader_expect := F_Reader_expect.binds (ps := ["self", "word"]) fun _ _ _ _ _ _ us hl => match us, hl with | [_, _], _ => rfl
  have m_Reader_expect : Meth K C_Reader "expect" f30 := ⟨a30, i30, k30⟩
  have F_Reader_take_name := fun_mk (st := s_Reader_take_name) l31 c31 k31
  have b_Reader_take_name := F_Reader_take_name.binds (ps := ["self"]) fun _ _ _ _ _ _ us hl => match us, hl with | [_], _ => rfl
  have m_Reader_take_name : Meth K C_Reader "take_name" f31 := ⟨a31, i31, k31⟩
  have F_Reader_expect_end := fun_mk (st := s_Reader_expect_end) l32 c32 k32
  have b_Reader_expect_end := F_Reader_expect_end.binds (ps := ["self"]) fun _ _ _ _ _ _ us hl => match us, hl with | [_], _ => rfl
  have m_Reader_expect_end : Meth K C_Reader "expect_end" f32 := ⟨a32, i32, k32⟩
  have F_parse_source := fun_mk (st := s_parse_source) l33 c33 k33
  have b_parse_source := F_parse_source.binds (ps := ["source"]) fun _ _ _ _ _ _ us hl => match us, hl with | [_], _ => rfl
  have g_parse_source := PySem.W.mg_of X G a33
  have F_parse_item := fun_mk (st := s_parse_item) l34 c34 k34
  have b_parse_item := F_parse_item.binds (ps := ["source"]) fun _ _ _ _ _ _ us hl => match us, hl with | [_], _ => rfl
  have g_parse_item := PySem.W.mg_of X G a34
  have F_read_item := fun_mk (st := s_read_item) l35 c35 k35
  have b_read_item := F_read_item.binds (ps := ["reader"]) fun _ _ _ _ _ _ us hl => match us, hl with | [_], _ => rfl
  have g_read_item := PySem.W.mg_of X G a35
  have F_read_table := fun_mk (st := s_read_table) l36 c36 k36
  have b_read_table := F_read_table.binds (ps := ["reader"]) fun _ _ _ _ _ _ us hl => match us, hl with | [_], _ => rfl
  have g_read_table := PySem.W.mg_of X G a36
  have F_read_list := fun_mk (st := s_read_list) l37 c37 k37
  have b_read_list := F_read_list.binds (ps := ["reader", "read_part"]) fun _ _ _ _ _ _ us hl => match us, hl with | [_, _], _ => rfl
  have g_read_list := PySem.W.mg_of X G a37
  have F_read_column := fun_mk (st := s_read_column) l38 c38 k38
  have b_read_column := F_read_column.binds (ps := ["reader"]) fun _ _ _ _ _ _ us hl => match us, hl with | [_], _ => rfl
  have g_read_column := PySem.W.mg_of X G a38
  have F_read_step := fun_mk (st := s_read_step) l39 c39 k39
  have b_read_step := F_read_step.binds (ps := ["reader"]) fun _ _ _ _ _ _ us hl => match us, hl with | [_], _ => rfl
  have g_read_step := PySem.W.mg_of X G a39
  have F_read_query := fun_mk (st := s_read_query) l40 c40 k40
  have b_read_query := F_read_query.binds (ps := ["reader", "level"]) fun _ _ _ _ _ _ us hl => match us, hl with | [_, _], _ => rfl
  have g_read_query := PySem.W.mg_of X G a40
  have F_read_chain := fun_mk (st := s_read_chain) l41 c41 k41
  have b_read_chain := F_read_chain.binds (ps := ["reader", "level"]) fun _ _ _ _ _ _ us hl => match us, hl with | [_, _], _ => rfl
  have g_read_chain := PySem.W.mg_of X G a41
  have F_read_operand := fun_mk (st := s_read_operand) l42 c42 k42
  have b_read_operand := F_read_operand.binds (ps := ["reader", "level"]) fun _ _ _ _ _ _ us hl => match us, hl with | [_, _], _ => rfl
  have g_read_operand := PySem.W.mg_of X G a42
  have F_read_inside := fun_mk (st := s_read_inside) l43 c43 k43
  have b_read_inside := F_read_inside.binds (ps := ["reader", "level"]) fun _ _ _ _ _ _ us hl => match us, hl with | [_, _], _ => rfl
  have g_read_inside := PySem.W.mg_of X G a43
  have F_read_stage := fun_mk (st := s_read_stage) l44 c44 k44
  have b_read_stage := F_read_stage.binds (ps := ["reader", "level"]) fun _ _ _ _ _ _ us hl => match us, hl with | [_, _], _ => rfl
  have g_read_stage := PySem.W.mg_of X G a44
  have F_read_join := fun_mk (st := s_read_join) l45 c45 k45
  have b_read_join := F_read_join.binds (ps := ["reader", "level", "how"]) fun _ _ _ _ _ _ us hl => match us, hl with | [_, _, _], _ => rfl
  have g_read_join := PySem.W.mg_of X G a45
  have F_read_group := fun_mk (st := s_read_group) l46 c46 k46
  have b_read_group := F_read_group.binds (ps := ["reader"]) fun _ _ _ _ _ _ us hl => match us, hl with | [_], _ => rfl
  have g_read_group := PySem.W.mg_of X G a46
  have F_read_output := fun_mk (st := s_read_output) l47 c47 k47
  have b_read_output := F_read_output.binds (ps := ["reader"]) fun _ _ _ _ _ _ us hl => match us, hl with | [_], _ => rfl
  have g_read_output := PySem.W.mg_of X G a47
  have F_read_total := fun_mk (st := s_read_total) l48 c48 k48
  have b_read_total := F_read_total.binds (ps := ["reader"]) fun _ _ _ _ _ _ us hl => match us, hl with | [_], _ => rfl
  have g_read_total := PySem.W.mg_of X G a48
  have F_read_form := fun_mk (st := s_read_form) l49 c49 k49
  have b_read_form := F_read_form.binds (ps := ["reader"]) fun _ _ _ _ _ _ us hl => match us, hl with | [_], _ => rfl
  have g_read_form := PySem.W.mg_of X G a49
  have F__law_draw := fun_mk (st := s__law_draw) l50 c50 k50
  have b__law_draw := F__law_draw.binds (ps := ["script"]) fun _ _ _ _ _ _ us hl => match us, hl with | [_], _ => rfl
  have g__law_draw := PySem.W.mg_of X G a50
  have F__law_next := fun_mk (st := s__law_next) l51 c51 k51
  have b__law_next := F__law_next.binds (ps := ["draw", "many"]) fun _ _ _ _ _ _ us hl => match us, hl with | [_, _], _ => rfl
  have g__law_next := PySem.W.mg_of X G a51
  have F__law_reserved := fun_mk (st := s__law_reserved) l52 c52 k52
  have b__law_reserved := F__law_reserved.binds (ps := []) fun _ _ _ _ _ _ us hl => match us, hl with | [], _ => rfl
  have g__law_reserved := PySem.W.mg_of X G a52
  have F__law_name := fun_mk (st := s__law_name) l53 c53 k53
  have b__law_name := F__law_name.binds (ps := ["draw"]) fun _ _ _ _ _ _ us hl => match us, hl with | [_], _ => rfl
  have g__law_name := PySem.W.mg_of X G a53
  have F__law_string := fun_mk (st := s__law_string) l54 c54 k54
  have b__law_string := F__law_string.binds (ps := ["draw"]) fun _ _ _ _ _ _ us hl => match us, hl with | [_], _ => rfl
  have g__law_string := PySem.W.mg_of X G a54
  have F__law_quoted := fun_mk (st := s__law_quoted) l55 c55 k55
  have b__law_quoted := F__law_quoted.binds (ps := ["value"]) fun _ _ _ _ _ _ us hl => match us, hl with | [_], _ => rfl
  have g__law_quoted := PySem.W.mg_of X G a55
  have F__law_number := fun_mk (st := s__law_number) l56 c56 k56
  have b__law_number := F__law_number.binds (ps := ["draw"]) fun _ _ _ _ _ _ us hl => match us, hl with | [_], _ => rfl
  have g__law_number := PySem.W.mg_of X G a56
  have F__law_signs := fun_mk (st := s__law_signs) l57 c57 k57
  have b__law_signs := F__law_signs.binds (ps := []) fun _ _ _ _ _ _ us hl => match us, hl with | [], _ => rfl
  have g__law_signs := PySem.W.mg_of X G a57
  have F__law_leaf := fun_mk (st := s__law_leaf) l58 c58 k58
  have b__law_leaf := F__law_leaf.binds (ps := ["draw"]) fun _ _ _ _ _ _ us hl => match us, hl with | [_], _ => rfl
  have g__law_leaf := PySem.W.mg_of X G a58
  have F__law_expression := fun_mk (st := s__law_expression) l59 c59 k59
  have b__law_expression := F__law_expression.binds (ps := ["draw", "depth"]) fun _ _ _ _ _ _ us hl => match us, hl with | [_, _], _ => rfl
  have g__law_expression := PySem.W.mg_of X G a59
  have F__law_level := fun_mk (st := s__law_level) l60 c60 k60
  have b__law_level := F__law_level.binds (ps := ["expression"]) fun _ _ _ _ _ _ us hl => match us, hl with | [_], _ => rfl
  have g__law_level := PySem.W.mg_of X G a60
  have F__law_print_atom := fun_mk (st := s__law_print_atom) l61 c61 k61
  have b__law_print_atom := F__law_print_atom.binds (ps := ["expression"]) fun _ _ _ _ _ _ us hl => match us, hl with | [_], _ => rfl
  have g__law_print_atom := PySem.W.mg_of X G a61
  have F__law_print := fun_mk (st := s__law_print) l62 c62 k62
  have b__law_print := F__law_print.binds (ps := ["expression", "wanted"]) fun _ _ _ _ _ _ us hl => match us, hl with | [_, _], _ => rfl
  have g__law_print := PySem.W.mg_of X G a62
  have F__law_outputs := fun_mk (st := s__law_outputs) l63 c63 k63
  have b__law_outputs := F__law_outputs.binds (ps := ["draw", "depth"]) fun _ _ _ _ _ _ us hl => match us, hl with | [_, _], _ => rfl
  have g__law_outputs := PySem.W.mg_of X G a63
  have F__law_totals := fun_mk (st := s__law_totals) l64 c64 k64
  have b__law_totals := F__law_totals.binds (ps := ["draw", "depth"]) fun _ _ _ _ _ _ us hl => match us, hl with | [_, _], _ => rfl
  have g__law_totals := PySem.W.mg_of X G a64
  have F__law_operand := fun_mk (st := s__law_operand) l65 c65 k65
  have b__law_operand := F__law_operand.binds (ps := ["draw", "inside", "depth"]) fun _ _ _ _ _ _ us hl => match us, hl with | [_, _, _], _ => rfl
  have g__law_operand := PySem.W.mg_of X G a65
  have F__law_stage := fun_mk (st := s__law_stage) l66 c66 k66
  have b__law_stage := F__law_stage.binds (ps := ["draw", "inside", "depth"]) fun _ _ _ _ _ _ us hl => match us, hl with | [_, _, _], _ => rfl
  have g__law_stage := PySem.W.mg_of X G a66
  have F__law_query := fun_mk (st := s__law_query) l67 c67 k67
  have b__law_query := F__law_query.binds (ps := ["draw", "inside", "depth"]) fun _ _ _ _ _ _ us hl => match us, hl with | [_, _, _], _ => rfl
  have g__law_query := PySem.W.mg_of X G a67
  have F__law_print_output := fun_mk (st := s__law_print_output) l68 c68 k68
  have b__law_print_output := F__law_print_output.binds (ps := ["output"]) fun _ _ _ _ _ _ us hl => match us, hl with | [_], _ => rfl
  have g__law_print_output := PySem.W.mg_of X G a68
  have F__law_print_total := fun_mk (st := s__law_print_total) l69 c69 k69
  have b__law_print_total := F__law_print_total.binds (ps := ["total"]) fun _ _ _ _ _ _ us hl => match us, hl with | [_], _ => rfl
  have g__law_print_total := PySem.W.mg_of X G a69
  have F__law_print_operand := fun_mk (st := s__law_print_operand) l70 c70 k70
  have b__law_print_operand := F__law_print_operand.binds (ps := ["operand"]) fun _ _ _ _ _ _ us hl => match us, hl with | [_], _ => rfl
  have g__law_print_operand := PySem.W.mg_of X G a70
  have F__law_print_stage := fun_mk (st := s__law_print_stage) l71 c71 k71
  have b__law_print_stage := F__law_print_stage.binds (ps := ["stage"]) fun _ _ _ _ _ _ us hl => match us, hl with | [_], _ => rfl
  have g__law_print_stage := PySem.W.mg_of X G a71
  have F__law_print_query := fun_mk (st := s__law_print_query) l72 c72 k72
  have b__law_print_query := F__law_print_query.binds (ps := ["query", "gap"]) fun _ _ _ _ _ _ us hl => match us, hl with | [_, _], _ => rfl
  have g__law_print_query := PySem.W.mg_of X G a72
  have F__law_items := fun_mk (st := s__law_items) l73 c73 k73
  have b__law_items := F__law_items.binds (ps := ["draw", "inside", "depth"]) fun _ _ _ _ _ _ us hl => match us, hl with | [_, _, _], _ => rfl
  have g__law_items := PySem.W.mg_of X G a73
  have F__law_print_item := fun_mk (st := s__law_print_item) l74 c74 k74
  have b__law_print_item := F__law_print_item.binds (ps := ["item"]) fun _ _ _ _ _ _ us hl => match us, hl with | [_], _ => rfl
  have g__law_print_item := PySem.W.mg_of X G a74
  have F__law_same := fun_mk (st := s__law_same) l75 c75 k75
  have b__law_same := F__law_same.binds (ps := ["actual", "due"]) fun _ _ _ _ _ _ us hl => match us, hl with | [_, _], _ => rfl
  have g__law_same := PySem.W.mg_of X G a75
  have F_law := fun_mk (st := s_law) l76 c76 k76
  have cl_Reader : Cls K C_Reader := ⟨pg_Reader, hd_Reader, po_Reader, sa_Reader⟩
  have g_Reader := PySem.W.mg_of X G aC_Reader
  have M : Mg mg := ⟨PySem.W.mg_none_of X G z_abs, PySem.W.mg_none_of X G z_all, PySem.W.mg_none_of X G z_bool, PySem.W.mg_none_of X G z_int, PySem.W.mg_none_of X G z_isinstance, PySem.W.mg_none_of X G z_len, PySem.W.mg_none_of X G z_list, PySem.W.mg_none_of X G z_max, PySem.W.mg_none_of X G z_range, PySem.W.mg_none_of X G z_str, PySem.W.mg_none_of X G z_tuple⟩
  exact ⟨PySem.W.fnOf "law" "law" (defArgs s_law) (defBody s_law) (defScope s_law) .none kV76 dc76 pm76 an76 cd76 ct76, fun s v => .of_eq rfl, fun base _ _ => by
  have GG : Gl K mg a_BLANKS a_SIGNS := ⟨⟨_, PySem.W.mg_of X G w_BLANKS, rfl⟩, ⟨_, PySem.W.mg_of X G w_SIGNS, rfl⟩, ⟨_, PySem.W.mg_of X G w_DIGITS, _, rfl⟩, ⟨_, PySem.W.mg_of X G w_LETTERS, _, rfl⟩, ⟨_, PySem.W.mg_of X G w_MOST_WORD, _, rfl⟩, ⟨_, PySem.W.mg_of X G w_MOST_NUMBER, _, rfl⟩, ⟨_, PySem.W.mg_of X G w_MOST_TEXT, _, rfl⟩,
    fun H => .inr ⟨_, _, _, v_BLANKS, rfl, rfl, by show 3 ≤ sizeLine; decide, .cons ⟨_, rfl⟩ (.cons ⟨_, rfl⟩ (.cons ⟨_, rfl⟩ .nil))⟩,
    fun H => .inr ⟨_, _, _, v_SIGNS, rfl, rfl, by show 14 ≤ sizeLine; decide, .cons ⟨_, rfl⟩ (.cons ⟨_, rfl⟩ (.cons ⟨_, rfl⟩ (.cons ⟨_, rfl⟩ (.cons ⟨_, rfl⟩ (.cons ⟨_, rfl⟩ (.cons ⟨_, rfl⟩ (.cons ⟨_, rfl⟩ (.cons ⟨_, rfl⟩ (.cons ⟨_, rfl⟩ (.cons ⟨_, rfl⟩ (.cons ⟨_, rfl⟩ (.cons ⟨_, rfl⟩ (.cons ⟨_, rfl⟩ .nil)))))))))))))⟩⟩
  have RU := FnOk.cl (P := l.prog) (w := w) (base := base) (ok_run F_behind_run M) F_behind_run g_behind_run b_behind_run
  have CM := FnOk.cl (P := l.prog) (w := w) (base := base) (ok_cmt F_behind_comment M) F_behind_comment g_behind_comment b_behind_comment
  have GA := FnOk.cl (ok_gap F_behind_gap M GG CM) F_behind_gap g_behind_gap b_behind_gap
  have BT := FnOk.cl (P := l.prog) (w := w) (base := base) (ok_btx F_behind_text M) F_behind_text g_behind_text b_behind_text
  have RW := FnOk.cl (ok_rw F_read_word M GG RU) F_read_word g_read_word b_read_word
  have RN := FnOk.cl (ok_rn F_read_number M GG RU) F_read_number g_read_number b_read_number
  have RT := FnOk.cl (ok_rt F_read_text M GG BT) F_read_text g_read_text b_read_text
  have RS := FnOk.cl (P := l.prog) (w := w) (base := base) (ok_rs F_read_sign M GG) F_read_sign g_read_sign b_read_sign
  have RK := FnOk.cl (ok_rtok F_read_token M GG RW RN RT RS) F_read_token g_read_token b_read_token
  have TK := FnOk.cl (ok_tok F_tokens M GA RK) F_tokens g_tokens b_tokens

  have R : RdC K C_Reader := ⟨cl_Reader, nf_Reader_source, nf_Reader_found, nf_Reader_at⟩
  have GR : Pr K mg a_RESERVED := ⟨⟨_, PySem.W.mg_of X G w_RESERVED, rfl⟩, fun H => .inr ⟨_, _, _, v_RESERVED, rfl, rfl, by show 37 ≤ sizeLine; decide, .cons ⟨_, rfl⟩ (.cons ⟨_, rfl⟩ (.cons ⟨_, rfl⟩ (.cons ⟨_, rfl⟩ (.cons ⟨_, rfl⟩ (.cons ⟨_, rfl⟩ (.cons ⟨_, rfl⟩ (.cons ⟨_, rfl⟩ (.cons ⟨_, rfl⟩ (.cons ⟨_, rfl⟩ (.cons ⟨_, rfl⟩ (.cons ⟨_, rfl⟩ (.cons ⟨_, rfl⟩ (.cons ⟨_, rfl⟩ (.cons ⟨_, rfl⟩ (.cons ⟨_, rfl⟩ (.cons ⟨_, rfl⟩ (.cons ⟨_, rfl⟩ (.cons ⟨_, rfl⟩ (.cons ⟨_, rfl⟩ (.cons ⟨_, rfl⟩ (.cons ⟨_, rfl⟩ (.cons ⟨_, rfl⟩ (.cons ⟨_, rfl⟩ (.cons ⟨_, rfl⟩ (.cons ⟨_, rfl⟩ (.cons ⟨_, rfl⟩ (.cons ⟨_, rfl⟩ (.cons ⟨_, rfl⟩ (.cons ⟨_, rfl⟩ (.cons ⟨_, rfl⟩ (.cons ⟨_, rfl⟩ (.cons ⟨_, rfl⟩ (.cons ⟨_, rfl⟩ (.cons ⟨_, rfl⟩ (.cons ⟨_, rfl⟩ (.cons ⟨_, rfl⟩ .nil))))))))))))))))))))))))))))))))))))⟩⟩
  have KI := FnOk.clm (P := l.prog) (w := w) (base := base) (ok_kind F_Reader_kind M R GR) m_Reader_kind cl_Reader b_Reader_kind
  have OF := FnOk.clm (P := l.prog) (w := w) (base := base) (mg := mg) (ok_offset F_Reader_offset M R) m_Reader_offset cl_Reader b_Reader_offset
  have AH := FnOk.clm (ok_ahead F_Reader_ahead M R KI) m_Reader_ahead cl_Reader b_Reader_ahead
  have TA := FnOk.clm (P := l.prog) (w := w) (base := base) (mg := mg) (ok_take F_Reader_take M R) m_Reader_take cl_Reader b_Reader_take
  have EX := FnOk.clm (ok_expect F_Reader_expect M R AH) m_Reader_expect cl_Reader b_Reader_expect
  have TN := FnOk.clm (ok_tname F_Reader_take_name M R KI TA) m_Reader_take_name cl_Reader b_Reader_take_name
  have INI : ClC l.prog w K mg base 5 "Reader" C_Reader (sp_init C_Reader K) := ⟨_, _, _, ok_init F_Reader___init__ M R TK, mk0_Reader, g_Reader, b_Reader___init__⟩
  have GE : Pe K w mg a_COMPARISONS a_CONSTANTS a_FUNCTIONS es_CONSTANTS n_CONSTANTS es_FUNCTIONS n_FUNCTIONS := by
    refine ⟨⟨_, PySem.W.mg_of X G w_COMPARISONS, rfl⟩, ⟨_, PySem.W.mg_of X G w_CONSTANTS, rfl⟩, ⟨_, PySem.W.mg_of X G w_FUNCTIONS, rfl⟩, ⟨_, PySem.W.mg_of X G w_MOST_HEIGHT, _, rfl⟩, ⟨_, PySem.W.mg_of X G w_MOST_LEVEL_expressions, _, rfl⟩, fun H => .inr ⟨_, _, _, v_COMPARISONS, rfl, rfl, by show 6 ≤ sizeLine; decide, .cons ⟨_, rfl⟩ (.cons ⟨_, rfl⟩ (.cons ⟨_, rfl⟩ (.cons ⟨_, rfl⟩ (.cons ⟨_, rfl⟩ (.cons ⟨_, rfl⟩ .nil)))))⟩, ⟨v_CONSTANTS, k_CONSTANTS, lo_CONSTANTS⟩, ⟨v_FUNCTIONS, k_FUNCTIONS, lo_FUNCTIONS⟩,
      ⟨_, w_CONSTANTS_0, fun H => .inr ⟨_, _, _, v_CONSTANTS_0, rfl, rfl, by show 2 ≤ sizeLine; decide, .cons ⟨_, rfl⟩ (.cons ⟨_, rfl⟩ .nil)⟩⟩, ⟨_, w_CONSTANTS_1, fun H => .inr ⟨_, _, _, v_CONSTANTS_1, rfl, rfl, by show 2 ≤ sizeLine; decide, .cons ⟨_, rfl⟩ (.cons ⟨_, rfl⟩ .nil)⟩⟩, ⟨_, w_CONSTANTS_2, fun H => .inr ⟨_, _, _, v_CONSTANTS_2, rfl, rfl, by show 1 ≤ sizeLine; decide, .cons ⟨_, rfl⟩ .nil⟩⟩, fun e he => ?_, fun x hx => ?_⟩
    · cases e with
      | f1 m a =>
        cases m with
        | true => exact ⟨_, w_FUNCTIONS_0⟩
        | false => exact ⟨_, w_FUNCTIONS_1⟩
      | f2 m a b =>
        cases m with
        | true => exact ⟨_, w_FUNCTIONS_2⟩
        | false => exact ⟨_, w_FUNCTIONS_3⟩
      | f3 a b c => exact ⟨_, w_FUNCTIONS_4⟩
      | _ => cases he
    · simp only [List.mem_cons, List.not_mem_nil, or_false] at hx
      rcases hx with rfl | rfl | rfl | rfl
      · exact m_FUNCTIONS_0
      · exact m_FUNCTIONS_1
      · exact m_FUNCTIONS_2
      · exact m_FUNCTIONS_3
  have DE := FnOk.cl (P := l.prog) (w := w) (base := base) (ok_deeper F_deeper M GE) F_deeper g_deeper b_deeper
  have NMD := FnOk.cl (ok_named F_read_named M AH TA TN) F_read_named g_read_named b_read_named
  have LFR := FnOk.cl (ok_rleaf F_read_leaf M GE KI AH TA NMD) F_read_leaf g_read_leaf b_read_leaf
  have EXF : ExF K mg := ⟨⟨_, _, F_read_or, g_read_or, b_read_or⟩, ⟨_, _, F_read_and, g_read_and, b_read_and⟩, ⟨_, _, F_read_not, g_read_not, b_read_not⟩, ⟨_, _, F_read_comparison, g_read_comparison, b_read_comparison⟩, ⟨_, _, F_read_sum, g_read_sum, b_read_sum⟩, ⟨_, _, F_read_product, g_read_product, b_read_product⟩, ⟨_, _, F_read_negation, g_read_negation, b_read_negation⟩, ⟨_, _, F_read_left_to_right, g_read_left_to_right, b_read_left_to_right⟩, ⟨_, _, F_read_atom, g_read_atom, b_read_atom⟩, ⟨_, _, F_read_parenthesis, g_read_parenthesis, b_read_parenthesis⟩, ⟨_, _, F_read_call, g_read_call, b_read_call⟩⟩
  have QFH : QF K mg := ⟨⟨_, _, F_read_inside, g_read_inside, b_read_inside⟩, ⟨_, _, F_read_operand, g_read_operand, b_read_operand⟩, ⟨_, _, F_read_join, g_read_join, b_read_join⟩, ⟨_, _, F_read_stage, g_read_stage, b_read_stage⟩, ⟨_, _, F_read_chain, g_read_chain, b_read_chain⟩, ⟨_, _, F_read_query, g_read_query, b_read_query⟩, ⟨_, _, F_read_group, g_read_group, b_read_group⟩, ⟨_, _, F_read_list, g_read_list, b_read_list⟩, ⟨_, _, F_read_output, g_read_output, b_read_output⟩, ⟨_, _, F_read_total, g_read_total, b_read_total⟩, ⟨_, _, F_read_form, g_read_form, b_read_form⟩, ⟨_, _, F_read_expression, g_read_expression, b_read_expression⟩⟩
  have GQQ : Pq K mg a_ARGUMENT_TOTALS a_JOIN_WORDS a_STAGE_WORDS a_UNION_WORDS := ⟨⟨_, PySem.W.mg_of X G w_ARGUMENT_TOTALS, rfl⟩, ⟨_, PySem.W.mg_of X G w_JOIN_WORDS, rfl⟩, ⟨_, PySem.W.mg_of X G w_STAGE_WORDS, rfl⟩, ⟨_, PySem.W.mg_of X G w_UNION_WORDS, rfl⟩, ⟨_, PySem.W.mg_of X G w_MOST_LEVEL_parsing, _, rfl⟩, fun H => .inr ⟨_, _, _, v_ARGUMENT_TOTALS, rfl, rfl, by show 4 ≤ sizeLine; decide, .cons ⟨_, rfl⟩ (.cons ⟨_, rfl⟩ (.cons ⟨_, rfl⟩ (.cons ⟨_, rfl⟩ .nil)))⟩, fun H => .inr ⟨_, _, _, v_JOIN_WORDS, rfl, rfl, by show 3 ≤ sizeLine; decide, .cons ⟨_, rfl⟩ (.cons ⟨_, rfl⟩ (.cons ⟨_, rfl⟩ .nil))⟩, fun H => .inr ⟨_, _, _, v_STAGE_WORDS, rfl, rfl, by show 7 ≤ sizeLine; decide, .cons ⟨_, rfl⟩ (.cons ⟨_, rfl⟩ (.cons ⟨_, rfl⟩ (.cons ⟨_, rfl⟩ (.cons ⟨_, rfl⟩ (.cons ⟨_, rfl⟩ (.cons ⟨_, rfl⟩ .nil))))))⟩, fun H => .inr ⟨_, _, _, v_UNION_WORDS, rfl, rfl, by show 3 ≤ sizeLine; decide, .cons ⟨_, rfl⟩ (.cons ⟨_, rfl⟩ (.cons ⟨_, rfl⟩ .nil))⟩⟩

  have N := FnOk.cl (P := l.prog) (w := w) (base := base) (ok_next F__law_next M) F__law_next g__law_next b__law_next
  have LRE := FnOk.cl (P := l.prog) (w := w) (base := base) (mg := mg) (ok_res F__law_reserved) F__law_reserved g__law_reserved b__law_reserved
  have NA := FnOk.cl (ok_name F__law_name M N LRE) F__law_name g__law_name b__law_name
  have NU := FnOk.cl (ok_number F__law_number M N) F__law_number g__law_number b__law_number
  have ST := FnOk.cl (ok_string F__law_string M N) F__law_string g__law_string b__law_string
  have QU := FnOk.cl (P := l.prog) (w := w) (base := base) (mg := mg) (ok_quoted F__law_quoted) F__law_quoted g__law_quoted b__law_quoted
  have SG := FnOk.cl (P := l.prog) (w := w) (base := base) (mg := mg) (ok_signs F__law_signs) F__law_signs g__law_signs b__law_signs
  have LF := FnOk.cl (ok_lleaf F__law_leaf M N NA NU ST) F__law_leaf g__law_leaf b__law_leaf
  have LV := FnOk.cl (P := l.prog) (w := w) (base := base) (ok_level F__law_level M) F__law_level g__law_level b__law_level
  have LX := cl_lex F__law_expression M g__law_expression b__law_expression N SG LF
  have LP := cl_lpr F__law_print F__law_print_atom M g__law_print b__law_print g__law_print_atom b__law_print_atom LV QU
  have SM := cl_same (P := l.prog) (w := w) (base := base) F__law_same M g__law_same b__law_same
  have DR := FnOk.cl (P := l.prog) (w := w) (base := base) (ok_draw F__law_draw M) F__law_draw g__law_draw b__law_draw

  have EE := FnOk.clm (ok_eend F_Reader_expect_end M R KI) m_Reader_expect_end cl_Reader b_Reader_expect_end
  have E3 := cl_exp EXF M GE AH TA EX DE LFR 5
  have RE := FnOk.cl (ok_rexp F_read_expression M GE E3.or) F_read_expression g_read_expression b_read_expression
  have RQY := cl_query (X := 13 * 5 + 5) (z := 5) (by decide) QFH M GQQ AH TA EX TN RE 3
  have GK : Pk K mg a_KINDS := ⟨⟨_, PySem.W.mg_of X G w_KINDS, rfl⟩, fun H => .inr ⟨_, _, _, v_KINDS, rfl, rfl, by show 3 ≤ sizeLine; decide, .cons ⟨_, rfl⟩ (.cons ⟨_, rfl⟩ (.cons ⟨_, rfl⟩ .nil))⟩⟩
  have COL := FnOk.cl (ok_rcol (j := 103) (by decide) F_read_column M GK AH TA TN) F_read_column g_read_column b_read_column
  have TAB := FnOk.cl (ok_rtable (j := 104) (by decide) F_read_table M EX TN (FnOk.cl (ok_list (by decide) (by decide +kernel) F_read_list M AH TA) F_read_list g_read_list b_read_list) COL) F_read_table g_read_table b_read_table
  have STP := FnOk.cl (ok_rstep (j := 106) (by decide) (by decide) F_read_step M EX TN (RQY.mono (by decide))) F_read_step g_read_step b_read_step
  have ITM := FnOk.cl (ok_ritem (j := 107) (by decide) F_read_item M AH TA EX (TAB.mono (by decide)) STP) F_read_item g_read_item b_read_item
  have PS := FnOk.cl (ok_psrc (j := 108) (by decide) F_parse_source M KI OF INI ITM) F_parse_source g_parse_source b_parse_source
  have PI := FnOk.cl (ok_pitem (j := 108) (by decide) F_parse_item M EE INI ITM) F_parse_item g_parse_item b_parse_item
  have LO := FnOk.cl (ok_louts F__law_outputs M N NA (LX 3)) F__law_outputs g__law_outputs b__law_outputs
  have LT := FnOk.cl (ok_ltots F__law_totals M N NA (LX 3)) F__law_totals g__law_totals b__law_totals
  have LQ := cl_lq F__law_query F__law_operand F__law_stage M g__law_query b__law_query g__law_operand b__law_operand g__law_stage b__law_stage N NA (LX 3) LO LT 3
  have LPO := FnOk.cl (ok_lpo F__law_print_output M (LP 3)) F__law_print_output g__law_print_output b__law_print_output
  have LPT := FnOk.cl (ok_lpt F__law_print_total M (LP 3)) F__law_print_total g__law_print_total b__law_print_total
  have LPQ := cl_lpq F__law_print_query F__law_print_operand F__law_print_stage M g__law_print_query b__law_print_query g__law_print_operand b__law_print_operand g__law_print_stage b__law_print_stage LPO LPT (LP 3) 3
  have LI := FnOk.cl (ok_lits F__law_items M N NA LQ) F__law_items g__law_items b__law_items
  have LPI := FnOk.cl (ok_lpi F__law_print_item M LPQ) F__law_print_item g__law_print_item b__law_print_item
  exact ok_law (j := 120) (by decide) F_law M DR N LI (PS.mono (by decide)) (PI.mono (by decide)) LPI (SM 56)⟩
end Lw
open PySem PySem.W PyProof.Rows
set_option maxHeartbeats 0 in
theorem PySem.Challenge.cw_lineworks_k08_sources_are_read_back_holds : PySem.Challenge.rw_lineworks_k08_sources_are_read_back.Holds := by
  w_on; o_law; k_head; (case hw => w_witness2)
  k_fill
  refine L2.walk_of (l := PySem.Challenge.rw_lineworks_k08_sources_are_read_back) (n := 63) (k := 121) (x := "script") (CX := fun _ => L2.CX0) (sp := fun w => Lw.sp_law _) rfl (by decide) rfl ⟨rfl, by decide, by decide⟩ (fun w h Y => PySem.W.kIn_of Y) ?F (fun _ _ a ns hl _ hS => ⟨a, ns, rfl, hS, hl, fun _ => rfl⟩) (fun _ _ _ _ _ h => h)
  case F =>
    intro w mg fa h KX G hmg
    refine' Lw.all_mk KX G hmg ?a0 ?l0 ?c0 ?k0 ?a1 ?l1 ?c1 ?k1 ?a2 ?l2 ?c2 ?k2 ?a3 ?l3 ?c3 ?k3 ?a4 ?l4 ?c4 ?k4 ?a5 ?l5 ?c5 ?k5 ?a6 ?l6 ?c6 ?k6 ?a7 ?l7 ?c7 ?k7 ?a8 ?l8 ?c8 ?k8 ?a9 ?l9 ?c9 ?k9 ?a10 ?l10 ?c10 ?k10 ?a11 ?l11 ?c11 ?k11 ?a12 ?l12 ?c12 ?k12 ?a13 ?l13 ?c13 ?k13 ?a14 ?l14 ?c14 ?k14 ?a15 ?l15 ?c15 ?k15 ?a16 ?l16 ?c16 ?k16 ?a17 ?l17 ?c17 ?k17 ?a18 ?l18 ?c18 ?k18 ?a19 ?l19 ?c19 ?k19 ?a20 ?l20 ?c20 ?k20 ?a21 ?l21 ?c21 ?k21 ?a22 ?l22 ?c22 ?k22 ?a23 ?l23 ?c23 ?k23 ?a24 ?l24 ?c24 ?k24 ?a25 ?i25 ?l25 ?c25 ?k25 ?a26 ?i26 ?l26 ?c26 ?k26 ?a27 ?i27 ?l27 ?c27 ?k27 ?a28 ?i28 ?l28 ?c28 ?k28 ?a29 ?i29 ?l29 ?c29 ?k29 ?a30 ?i30 ?l30 ?c30 ?k30 ?a31 ?i31 ?l31 ?c31 ?k31 ?a32 ?i32 ?l32 ?c32 ?k32 ?a33 ?l33 ?c33 ?k33 ?a34 ?l34 ?c34 ?k34 ?a35 ?l35 ?c35 ?k35 ?a36 ?l36 ?c36 ?k36 ?a37 ?l37 ?c37 ?k37 ?a38 ?l38 ?c38 ?k38 ?a39 ?l39 ?c39 ?k39 ?a40 ?l40 ?c40 ?k40 ?a41 ?l41 ?c41 ?k41 ?a42 ?l42 ?c42 ?k42 ?a43 ?l43 ?c43 ?k43 ?a44 ?l44 ?c44 ?k44 ?a45 ?l45 ?c45 ?k45 ?a46 ?l46 ?c46 ?k46 ?a47 ?l47 ?c47 ?k47 ?a48 ?l48 ?c48 ?k48 ?a49 ?l49 ?c49 ?k49 ?a50 ?l50 ?c50 ?k50 ?a51 ?l51 ?c51 ?k51 ?a52 ?l52 ?c52 ?k52 ?a53 ?l53 ?c53 ?k53 ?a54 ?l54 ?c54 ?k54 ?a55 ?l55 ?c55 ?k55 ?a56 ?l56 ?c56 ?k56 ?a57 ?l57 ?c57 ?k57 ?a58 ?l58 ?c58 ?k58 ?a59 ?l59 ?c59 ?k59 ?a60 ?l60 ?c60 ?k60 ?a61 ?l61 ?c61 ?k61 ?a62 ?l62 ?c62 ?k62 ?a63 ?l63 ?c63 ?k63 ?a64 ?l64 ?c64 ?k64 ?a65 ?l65 ?c65 ?k65 ?a66 ?l66 ?c66 ?k66 ?a67 ?l67 ?c67 ?k67 ?a68 ?l68 ?c68 ?k68 ?a69 ?l69 ?c69 ?k69 ?a70 ?l70 ?c70 ?k70 ?a71 ?l71 ?c71 ?k71 ?a72 ?l72 ?c72 ?k72 ?a73 ?l73 ?c73 ?k73 ?a74 ?l74 ?c74 ?k74 ?a75 ?l75 ?c75 ?k75 ?a76 ?l76 ?c76 ?k76 ?w_BLANKS ?v_BLANKS ?w_SIGNS ?v_SIGNS ?w_DIGITS ?w_LETTERS ?w_MOST_WORD ?w_MOST_NUMBER ?w_MOST_TEXT ?w_KINDS ?v_KINDS ?w_ARGUMENT_TOTALS ?v_ARGUMENT_TOTALS ?w_RESERVED ?v_RESERVED ?w_COMPARISONS ?v_COMPARISONS ?w_CONSTANTS ?v_CONSTANTS ?k_CONSTANTS ?lo_CONSTANTS ?w_CONSTANTS_0 ?v_CONSTANTS_0 ?w_CONSTANTS_1 ?v_CONSTANTS_1 ?w_CONSTANTS_2 ?v_CONSTANTS_2 ?w_FUNCTIONS ?v_FUNCTIONS ?k_FUNCTIONS ?lo_FUNCTIONS ?w_FUNCTIONS_0 ?w_FUNCTIONS_1 ?w_FUNCTIONS_2 ?w_FUNCTIONS_3 ?w_FUNCTIONS_4 ?m_FUNCTIONS_0 ?m_FUNCTIONS_1 ?m_FUNCTIONS_2 ?m_FUNCTIONS_3 ?w_MOST_HEIGHT ?w_MOST_LEVEL_expressions ?w_MOST_LEVEL_parsing ?w_STAGE_WORDS ?v_STAGE_WORDS ?w_UNION_WORDS ?v_UNION_WORDS ?w_JOIN_WORDS ?v_JOIN_WORDS ?aC_Reader ?pg_Reader ?hd_Reader ?po_Reader ?sa_Reader ?mk_Reader ?kc_Reader ?nf_Reader_at ?nf_Reader_found ?nf_Reader_source ?z_abs ?z_all ?z_bool ?z_int ?z_isinstance ?z_len ?z_list ?z_max ?z_range ?z_str ?z_tuple
    (case aC_Reader => k_is)
    (case pg_Reader => k_is)
    (case hd_Reader => k_is)
    (case po_Reader => k_is)
    (case sa_Reader => k_is)
    (case mk_Reader => k_is)
    (case kc_Reader => k_is)
    (case nf_Reader_at => k_is)
    (case nf_Reader_found => k_is)
    (case nf_Reader_source => k_is)
    (case a0 => k_is); (case l0 => k_is); (case c0 => k_is); (case k0 => k_is)
    (case a1 => k_is); (case l1 => k_is); (case c1 => k_is); (case k1 => k_is)
    (case a2 => k_is); (case l2 => k_is); (case c2 => k_is); (case k2 => k_is)
    (case a3 => k_is); (case l3 => k_is); (case c3 => k_is); (case k3 => k_is)
    (case a4 => k_is); (case l4 => k_is); (case c4 => k_is); (case k4 => k_is)
    (case a5 => k_is); (case l5 => k_is); (case c5 => k_is); (case k5 => k_is)
    (case a6 => k_is); (case l6 => k_is); (case c6 => k_is); (case k6 => k_is)
    (case a7 => k_is); (case l7 => k_is); (case c7 => k_is); (case k7 => k_is)
    (case a8 => k_is); (case l8 => k_is); (case c8 => k_is); (case k8 => k_is)
    (case a9 => k_is); (case l9 => k_is); (case c9 => k_is); (case k9 => k_is)
    (case a10 => k_is); (case l10 => k_is); (case c10 => k_is); (case k10 => k_is)
    (case a11 => k_is); (case l11 => k_is); (case c11 => k_is); (case k11 => k_is)
    (case a12 => k_is); (case l12 => k_is); (case c12 => k_is); (case k12 => k_is)
    (case a13 => k_is); (case l13 => k_is); (case c13 => k_is); (case k13 => k_is)
    (case a14 => k_is); (case l14 => k_is); (case c14 => k_is); (case k14 => k_is)
    (case a15 => k_is); (case l15 => k_is); (case c15 => k_is); (case k15 => k_is)
    (case a16 => k_is); (case l16 => k_is); (case c16 => k_is); (case k16 => k_is)
    (case a17 => k_is); (case l17 => k_is); (case c17 => k_is); (case k17 => k_is)
    (case a18 => k_is); (case l18 => k_is); (case c18 => k_is); (case k18 => k_is)
    (case a19 => k_is); (case l19 => k_is); (case c19 => k_is); (case k19 => k_is)
    (case a20 => k_is); (case l20 => k_is); (case c20 => k_is); (case k20 => k_is)
    (case a21 => k_is); (case l21 => k_is); (case c21 => k_is); (case k21 => k_is)
    (case a22 => k_is); (case l22 => k_is); (case c22 => k_is); (case k22 => k_is)
    (case a23 => k_is); (case l23 => k_is); (case c23 => k_is); (case k23 => k_is)
    (case a24 => k_is); (case l24 => k_is); (case c24 => k_is); (case k24 => k_is)
    (case a25 => k_is); (case i25 => k_is); (case l25 => k_is); (case c25 => k_is); (case k25 => k_is)
    (case a26 => k_is); (case i26 => k_is); (case l26 => k_is); (case c26 => k_is); (case k26 => k_is)
    (case a27 => k_is); (case i27 => k_is); (case l27 => k_is); (case c27 => k_is); (case k27 => k_is)
    (case a28 => k_is); (case i28 => k_is); (case l28 => k_is); (case c28 => k_is); (case k28 => k_is)
    (case a29 => k_is); (case i29 => k_is); (case l29 => k_is); (case c29 => k_is); (case k29 => k_is)
    (case a30 => k_is); (case i30 => k_is); (case l30 => k_is); (case c30 => k_is); (case k30 => k_is)
    (case a31 => k_is); (case i31 => k_is); (case l31 => k_is); (case c31 => k_is); (case k31 => k_is)
    (case a32 => k_is); (case i32 => k_is); (case l32 => k_is); (case c32 => k_is); (case k32 => k_is)
    (case a33 => k_is); (case l33 => k_is); (case c33 => k_is); (case k33 => k_is)
    (case a34 => k_is); (case l34 => k_is); (case c34 => k_is); (case k34 => k_is)
    (case a35 => k_is); (case l35 => k_is); (case c35 => k_is); (case k35 => k_is)
    (case a36 => k_is); (case l36 => k_is); (case c36 => k_is); (case k36 => k_is)
    (case a37 => k_is); (case l37 => k_is); (case c37 => k_is); (case k37 => k_is)
    (case a38 => k_is); (case l38 => k_is); (case c38 => k_is); (case k38 => k_is)
    (case a39 => k_is); (case l39 => k_is); (case c39 => k_is); (case k39 => k_is)
    (case a40 => k_is); (case l40 => k_is); (case c40 => k_is); (case k40 => k_is)
    (case a41 => k_is); (case l41 => k_is); (case c41 => k_is); (case k41 => k_is)
    (case a42 => k_is); (case l42 => k_is); (case c42 => k_is); (case k42 => k_is)
    (case a43 => k_is); (case l43 => k_is); (case c43 => k_is); (case k43 => k_is)
    (case a44 => k_is); (case l44 => k_is); (case c44 => k_is); (case k44 => k_is)
    (case a45 => k_is); (case l45 => k_is); (case c45 => k_is); (case k45 => k_is)
    (case a46 => k_is); (case l46 => k_is); (case c46 => k_is); (case k46 => k_is)
    (case a47 => k_is); (case l47 => k_is); (case c47 => k_is); (case k47 => k_is)
    (case a48 => k_is); (case l48 => k_is); (case c48 => k_is); (case k48 => k_is)
    (case a49 => k_is); (case l49 => k_is); (case c49 => k_is); (case k49 => k_is)
    (case a50 => k_is); (case l50 => k_is); (case c50 => k_is); (case k50 => k_is)
    (case a51 => k_is); (case l51 => k_is); (case c51 => k_is); (case k51 => k_is)
    (case a52 => k_is); (case l52 => k_is); (case c52 => k_is); (case k52 => k_is)
    (case a53 => k_is); (case l53 => k_is); (case c53 => k_is); (case k53 => k_is)
    (case a54 => k_is); (case l54 => k_is); (case c54 => k_is); (case k54 => k_is)
    (case a55 => k_is); (case l55 => k_is); (case c55 => k_is); (case k55 => k_is)
    (case a56 => k_is); (case l56 => k_is); (case c56 => k_is); (case k56 => k_is)
    (case a57 => k_is); (case l57 => k_is); (case c57 => k_is); (case k57 => k_is)
    (case a58 => k_is); (case l58 => k_is); (case c58 => k_is); (case k58 => k_is)
    (case a59 => k_is); (case l59 => k_is); (case c59 => k_is); (case k59 => k_is)
    (case a60 => k_is); (case l60 => k_is); (case c60 => k_is); (case k60 => k_is)
    (case a61 => k_is); (case l61 => k_is); (case c61 => k_is); (case k61 => k_is)
    (case a62 => k_is); (case l62 => k_is); (case c62 => k_is); (case k62 => k_is)
    (case a63 => k_is); (case l63 => k_is); (case c63 => k_is); (case k63 => k_is)
    (case a64 => k_is); (case l64 => k_is); (case c64 => k_is); (case k64 => k_is)
    (case a65 => k_is); (case l65 => k_is); (case c65 => k_is); (case k65 => k_is)
    (case a66 => k_is); (case l66 => k_is); (case c66 => k_is); (case k66 => k_is)
    (case a67 => k_is); (case l67 => k_is); (case c67 => k_is); (case k67 => k_is)
    (case a68 => k_is); (case l68 => k_is); (case c68 => k_is); (case k68 => k_is)
    (case a69 => k_is); (case l69 => k_is); (case c69 => k_is); (case k69 => k_is)
    (case a70 => k_is); (case l70 => k_is); (case c70 => k_is); (case k70 => k_is)
    (case a71 => k_is); (case l71 => k_is); (case c71 => k_is); (case k71 => k_is)
    (case a72 => k_is); (case l72 => k_is); (case c72 => k_is); (case k72 => k_is)
    (case a73 => k_is); (case l73 => k_is); (case c73 => k_is); (case k73 => k_is)
    (case a74 => k_is); (case l74 => k_is); (case c74 => k_is); (case k74 => k_is)
    (case a75 => k_is); (case l75 => k_is); (case c75 => k_is); (case k75 => k_is)
    (case a76 => k_is); (case l76 => k_is); (case c76 => k_is); (case k76 => k_is)
    (case w_BLANKS => k_is)
    (case v_BLANKS => k_is)
    (case w_SIGNS => k_is)
    (case v_SIGNS => k_is)
    (case w_DIGITS => k_is)
    (case w_LETTERS => k_is)
    (case w_MOST_WORD => k_is)
    (case w_MOST_NUMBER => k_is)
    (case w_MOST_TEXT => k_is)
    (case w_KINDS => k_is)
    (case v_KINDS => k_is)
    (case w_ARGUMENT_TOTALS => k_is)
    (case v_ARGUMENT_TOTALS => k_is)
    (case w_RESERVED => k_is)
    (case v_RESERVED => k_is)
    (case w_COMPARISONS => k_is)
    (case v_COMPARISONS => k_is)
    (case w_CONSTANTS => k_is)
    (case v_CONSTANTS => k_is)
    (case k_CONSTANTS => k_keys)
    (case lo_CONSTANTS => first | rfl | decide | decide +kernel)
    (case w_CONSTANTS_0 => k_is)
    (case v_CONSTANTS_0 => k_is)
    (case w_CONSTANTS_1 => k_is)
    (case v_CONSTANTS_1 => k_is)
    (case w_CONSTANTS_2 => k_is)
    (case v_CONSTANTS_2 => k_is)
    (case w_FUNCTIONS => k_is)
    (case v_FUNCTIONS => k_is)
    (case k_FUNCTIONS => k_keys)
    (case lo_FUNCTIONS => first | rfl | decide | decide +kernel)
    (case w_FUNCTIONS_0 => k_is)
    (case w_FUNCTIONS_1 => k_is)
    (case w_FUNCTIONS_2 => k_is)
    (case w_FUNCTIONS_3 => k_is)
    (case w_FUNCTIONS_4 => k_is)
    (case m_FUNCTIONS_0 => k_is)
    (case m_FUNCTIONS_1 => k_is)
    (case m_FUNCTIONS_2 => k_is)
    (case m_FUNCTIONS_3 => k_is)
    (case w_MOST_HEIGHT => k_is)
    (case w_MOST_LEVEL_expressions => k_is)
    (case w_MOST_LEVEL_parsing => k_is)
    (case w_STAGE_WORDS => k_is)
    (case v_STAGE_WORDS => k_is)
    (case w_UNION_WORDS => k_is)
    (case v_UNION_WORDS => k_is)
    (case w_JOIN_WORDS => k_is)
    (case v_JOIN_WORDS => k_is)
    (case z_abs => k_is); (case z_all => k_is); (case z_bool => k_is); (case z_int => k_is); (case z_isinstance => k_is); (case z_len => k_is); (case z_list => k_is); (case z_max => k_is); (case z_range => k_is); (case z_str => k_is); (case z_tuple => k_is)

