import PyProof.Rows.All
import Wide.All
import OpenK.AllK
import Wide.FinOn
import HandS.ForMost
import HandS.Wide
import HandS.IsInst
import HandS.Codes
import HandS.More
import HandS.DictComp
import HandS.Star
import HandS.CallLocal
import HandS.SortKw
import HandS.Set
import HandS.SetBool
import HandS.SetKeys
import HandS.Deep
import HandS.Iter
import HandS.SortInts
import HandS.Zip
import HandS.Rev
import HandS.RevRange
import HandS.Strs
import HandS.SetFor
import HandS.WideBits
import HandS.Exc
import HandS.ExcOwn
import HandS.ExcIs
import HandS.WordsExc
import HandS.Defaults
import HandS.MakeKwOnly
import HandS.Evl
import HandS.Gcd
import KE.KMathGC
import KE.LtSeq
import KE.LtData
import KE.KSortTup
import KE.DataCmp
import KE.KMinKey
import KE.DataMinKey
import KE.DataMinMax
import HandS.Sort
import HandS.TupAny
import HandS.Hot
import HandS.HotCalls
import HandS.ExcCtx
import PySem.Challenge.RW_lineworks_k78_none_of_the_rows
set_option Elab.async false
set_option linter.all false
set_option maxRecDepth 100000
namespace Lw
open PySem PySem.Spec PyProof.Rows L2
def topS (i : Nat) : Stmt := PySem.Challenge.pw_lineworks_k78_none_of_the_rows.main.body.getD i (.Pass ⟨0, 0, 0, 0⟩)
abbrev s__wall : Stmt := topS 0
abbrev s_cheapest : Stmt := topS 2
abbrev N_cheapest : List Str := ["store", "condition", "present", "costs", "nodes", "root", "best", "entry", "without", "there", "now", "other", "options", "cost", "_", "turned", "option"]
theorem sc_cheapest : FnScope N_cheapest ["store", "condition", "present", "costs"] (defScope s_cheapest) := ⟨rfl, rfl, rfl, by decide +kernel, rfl, by decide +kernel, by decide +kernel⟩
abbrev s_with_turned : Stmt := topS 3
abbrev N_with_turned : List Str := ["entry", "cost", "change", "rest", "number", "turned"]
theorem sc_with_turned : FnScope N_with_turned ["entry", "cost", "change"] (defScope s_with_turned) := ⟨rfl, rfl, rfl, by decide +kernel, rfl, by decide +kernel, by decide +kernel⟩
abbrev s_Diagrams___init__ : Stmt := inClass (topS 8) 0
abbrev N_Diagrams___init__ : List Str := ["self"]
theorem sc_Diagrams___init__ : FnScope N_Diagrams___init__ ["self"] (defScope s_Diagrams___init__) := ⟨rfl, rfl, rfl, by decide +kernel, rfl, by decide +kernel, by decide +kernel⟩
abbrev s_Diagrams_there : Stmt := inClass (topS 8) 1
abbrev N_Diagrams_there : List Str := ["self", "entry"]
theorem sc_Diagrams_there : FnScope N_Diagrams_there ["self", "entry"] (defScope s_Diagrams_there) := ⟨rfl, rfl, rfl, by decide +kernel, rfl, by decide +kernel, by decide +kernel⟩
abbrev s_Diagrams_conjunction : Stmt := inClass (topS 8) 2
abbrev N_Diagrams_conjunction : List Str := ["self", "first", "second"]
theorem sc_Diagrams_conjunction : FnScope N_Diagrams_conjunction ["self", "first", "second"] (defScope s_Diagrams_conjunction) := ⟨rfl, rfl, rfl, by decide +kernel, rfl, by decide +kernel, by decide +kernel⟩
abbrev s_Diagrams_disjunction : Stmt := inClass (topS 8) 3
abbrev N_Diagrams_disjunction : List Str := ["self", "first", "second"]
theorem sc_Diagrams_disjunction : FnScope N_Diagrams_disjunction ["self", "first", "second"] (defScope s_Diagrams_disjunction) := ⟨rfl, rfl, rfl, by decide +kernel, rfl, by decide +kernel, by decide +kernel⟩
abbrev s_Diagrams_negation : Stmt := inClass (topS 8) 4
abbrev N_Diagrams_negation : List Str := ["self", "condition"]
theorem sc_Diagrams_negation : FnScope N_Diagrams_negation ["self", "condition"] (defScope s_Diagrams_negation) := ⟨rfl, rfl, rfl, by decide +kernel, rfl, by decide +kernel, by decide +kernel⟩
abbrev s_Diagrams_differs : Stmt := inClass (topS 8) 5
abbrev N_Diagrams_differs : List Str := ["self", "first", "second"]
theorem sc_Diagrams_differs : FnScope N_Diagrams_differs ["self", "first", "second"] (defScope s_Diagrams_differs) := ⟨rfl, rfl, rfl, by decide +kernel, rfl, by decide +kernel, by decide +kernel⟩
abbrev s_Diagrams_restrict : Stmt := inClass (topS 8) 6
abbrev s_Diagrams_holds : Stmt := inClass (topS 8) 7
abbrev s_Diagrams_depends : Stmt := inClass (topS 8) 8
abbrev s_Diagrams_size : Stmt := inClass (topS 8) 9
abbrev N_Diagrams_size : List Str := ["self", "conditions", "nodes", "_"]
theorem sc_Diagrams_size : FnScope N_Diagrams_size ["self", "conditions"] (defScope s_Diagrams_size) := ⟨rfl, rfl, rfl, by decide +kernel, rfl, by decide +kernel, by decide +kernel⟩
abbrev s_Diagrams_implies : Stmt := inClass (topS 8) 10
abbrev s_Diagrams_helps : Stmt := inClass (topS 8) 11
abbrev s_Diagrams_hurts : Stmt := inClass (topS 8) 12
abbrev s_Diagrams_ways : Stmt := inClass (topS 8) 13
abbrev s_Diagrams_first_set : Stmt := inClass (topS 8) 14
abbrev s_Diagrams_table : Stmt := inClass (topS 8) 15
abbrev N_Diagrams_table : List Str := ["self", "condition", "nodes", "numbers"]
theorem sc_Diagrams_table : FnScope N_Diagrams_table ["self", "condition"] (defScope s_Diagrams_table) := ⟨rfl, rfl, rfl, by decide +kernel, rfl, by decide +kernel, by decide +kernel⟩
abbrev s_Diagrams_listed : Stmt := inClass (topS 8) 16
abbrev N_Diagrams_listed : List Str := ["self", "conditions", "nodes", "numbers", "left", "condition", "entry", "without", "there", "waiting", "part"]
theorem sc_Diagrams_listed : FnScope N_Diagrams_listed ["self", "conditions"] (defScope s_Diagrams_listed) := ⟨rfl, rfl, rfl, by decide +kernel, rfl, by decide +kernel, by decide +kernel⟩
abbrev s_Diagrams_top : Stmt := inClass (topS 8) 17
abbrev N_Diagrams_top : List Str := ["self", "conditions", "condition"]
theorem sc_Diagrams_top : FnScope N_Diagrams_top ["self", "conditions"] (defScope s_Diagrams_top) := ⟨rfl, rfl, rfl, by decide +kernel, rfl, by decide +kernel, by decide +kernel⟩
abbrev s_Diagrams_branches : Stmt := inClass (topS 8) 18
abbrev N_Diagrams_branches : List Str := ["self", "condition", "entry", "asked", "without", "there"]
theorem sc_Diagrams_branches : FnScope N_Diagrams_branches ["self", "condition", "entry"] (defScope s_Diagrams_branches) := ⟨rfl, rfl, rfl, by decide +kernel, rfl, by decide +kernel, by decide +kernel⟩
abbrev s_Diagrams_node_of : Stmt := inClass (topS 8) 19
abbrev N_Diagrams_node_of : List Str := ["self", "condition"]
theorem sc_Diagrams_node_of : FnScope N_Diagrams_node_of ["self", "condition"] (defScope s_Diagrams_node_of) := ⟨rfl, rfl, rfl, by decide +kernel, rfl, by decide +kernel, by decide +kernel⟩
abbrev s_Diagrams_node : Stmt := inClass (topS 8) 20
abbrev N_Diagrams_node : List Str := ["self", "entry", "without", "there", "made"]
theorem sc_Diagrams_node : FnScope N_Diagrams_node ["self", "entry", "without", "there"] (defScope s_Diagrams_node) := ⟨rfl, rfl, rfl, by decide +kernel, rfl, by decide +kernel, by decide +kernel⟩
abbrev s_Diagrams_combine : Stmt := inClass (topS 8) 21
abbrev N_Diagrams_combine : List Str := ["self", "condition", "first", "second", "asked", "entry", "without", "there", "first_without", "first_there", "second_without", "second_there"]
theorem sc_Diagrams_combine : FnScope N_Diagrams_combine ["self", "condition", "first", "second"] (defScope s_Diagrams_combine) := ⟨rfl, rfl, rfl, by decide +kernel, rfl, by decide +kernel, by decide +kernel⟩
abbrev s_SourceError___init__ : Stmt := inClass (topS 11) 0
abbrev s_Way___init__ : Stmt := inClass (topS 14) 0
abbrev N_Way___init__ : List Str := ["self", "store", "most_rows", "most_nodes"]
theorem sc_Way___init__ : FnScope N_Way___init__ ["self", "store", "most_rows", "most_nodes"] (defScope s_Way___init__) := ⟨rfl, rfl, rfl, by decide +kernel, rfl, by decide +kernel, by decide +kernel⟩
abbrev s_Way_meet : Stmt := inClass (topS 14) 1
abbrev N_Way_meet : List Str := ["self", "condition"]
theorem sc_Way_meet : FnScope N_Way_meet ["self", "condition"] (defScope s_Way_meet) := ⟨rfl, rfl, rfl, by decide +kernel, rfl, by decide +kernel, by decide +kernel⟩
abbrev s_Way_meet_list : Stmt := inClass (topS 14) 2
abbrev s_Way_both : Stmt := inClass (topS 14) 3
abbrev s_Way_either : Stmt := inClass (topS 14) 4
abbrev N_Way_either : List Str := ["self", "first", "second"]
theorem sc_Way_either : FnScope N_Way_either ["self", "first", "second"] (defScope s_Way_either) := ⟨rfl, rfl, rfl, by decide +kernel, rfl, by decide +kernel, by decide +kernel⟩
abbrev s_Way_but_not : Stmt := inClass (topS 14) 5
abbrev s_Way_joined : Stmt := inClass (topS 14) 6
abbrev N_Way_joined : List Str := ["self", "conditions", "found", "condition"]
theorem sc_Way_joined : FnScope N_Way_joined ["self", "conditions"] (defScope s_Way_joined) := ⟨rfl, rfl, rfl, by decide +kernel, rfl, by decide +kernel, by decide +kernel⟩
abbrev s_none_of : Stmt := topS 16
abbrev N_none_of : List Str := ["store", "candidates", "prefix", "present", "costs", "most_nodes", "way", "joined", "_", "condition"]
theorem sc_none_of : FnScope N_none_of ["store", "candidates", "prefix", "present", "costs", "most_nodes"] (defScope s_none_of) := ⟨rfl, rfl, rfl, by decide +kernel, rfl, by decide +kernel, by decide +kernel⟩
abbrev s_beginning : Stmt := topS 17
abbrev N_beginning : List Str := ["candidates", "prefix", "row", "condition"]
theorem sc_beginning : FnScope N_beginning ["candidates", "prefix"] (defScope s_beginning) := ⟨rfl, rfl, rfl, by decide +kernel, rfl, by decide +kernel, by decide +kernel⟩
abbrev s__law_draw : Stmt := topS 19
abbrev N__law_draw : List Str := ["script"]
theorem sc__law_draw : FnScope N__law_draw ["script"] (defScope s__law_draw) := ⟨rfl, rfl, rfl, by decide +kernel, rfl, by decide +kernel, by decide +kernel⟩
abbrev s__law_next : Stmt := topS 20
abbrev N__law_next : List Str := ["draw", "many", "found", "cell"]
theorem sc__law_next : FnScope N__law_next ["draw", "many"] (defScope s__law_next) := ⟨rfl, rfl, rfl, by decide +kernel, rfl, by decide +kernel, by decide +kernel⟩
abbrev s__law_same : Stmt := topS 21
abbrev N__law_same : List Str := ["actual", "due", "k"]
theorem sc__law_same : FnScope N__law_same ["actual", "due"] (defScope s__law_same) := ⟨rfl, rfl, rfl, by decide +kernel, rfl, by decide +kernel, by decide +kernel⟩
abbrev s__law_entries : Stmt := topS 22
abbrev N__law_entries : List Str := ["draw", "most", "entries", "last", "k"]
theorem sc__law_entries : FnScope N__law_entries ["draw", "most"] (defScope s__law_entries) := ⟨rfl, rfl, rfl, by decide +kernel, rfl, by decide +kernel, by decide +kernel⟩
abbrev s__law_tree : Stmt := topS 23
abbrev N__law_tree : List Str := ["draw", "entries", "depth", "form", "first"]
theorem sc__law_tree : FnScope N__law_tree ["draw", "entries", "depth"] (defScope s__law_tree) := ⟨rfl, rfl, rfl, by decide +kernel, rfl, by decide +kernel, by decide +kernel⟩
abbrev s__law_build : Stmt := topS 24
abbrev N__law_build : List Str := ["store", "tree", "first", "second"]
theorem sc__law_build : FnScope N__law_build ["store", "tree"] (defScope s__law_build) := ⟨rfl, rfl, rfl, by decide +kernel, rfl, by decide +kernel, by decide +kernel⟩
abbrev s__law_true : Stmt := topS 25
abbrev N__law_true : List Str := ["tree", "present", "first", "second"]
theorem sc__law_true : FnScope N__law_true ["tree", "present"] (defScope s__law_true) := ⟨rfl, rfl, rfl, by decide +kernel, rfl, by decide +kernel, by decide +kernel⟩
abbrev s__law_subsets : Stmt := topS 26
abbrev N__law_subsets : List Str := ["entries", "found", "entry", "part"]
theorem sc__law_subsets : FnScope N__law_subsets ["entries"] (defScope s__law_subsets) := ⟨rfl, rfl, rfl, by decide +kernel, rfl, by decide +kernel, by decide +kernel⟩
abbrev s__law_truth : Stmt := topS 27
abbrev N__law_truth : List Str := ["tree", "entries", "part"]
theorem sc__law_truth : FnScope N__law_truth ["tree", "entries"] (defScope s__law_truth) := ⟨rfl, rfl, rfl, by decide +kernel, rfl, by decide +kernel, by decide +kernel⟩
abbrev s__law_fixed : Stmt := topS 28
abbrev N__law_fixed : List Str := ["truth", "k", "there", "step", "j", "found", "at", "base"]
theorem sc__law_fixed : FnScope N__law_fixed ["truth", "k", "there"] (defScope s__law_fixed) := ⟨rfl, rfl, rfl, by decide +kernel, rfl, by decide +kernel, by decide +kernel⟩
abbrev s__law_top : Stmt := topS 29
abbrev N__law_top : List Str := ["truth", "count", "k"]
theorem sc__law_top : FnScope N__law_top ["truth", "count"] (defScope s__law_top) := ⟨rfl, rfl, rfl, by decide +kernel, rfl, by decide +kernel, by decide +kernel⟩
abbrev s__law_diagrams : Stmt := topS 30
abbrev N__law_diagrams : List Str := ["truths", "count", "found", "waiting", "truth", "k"]
theorem sc__law_diagrams : FnScope N__law_diagrams ["truths", "count"] (defScope s__law_diagrams) := ⟨rfl, rfl, rfl, by decide +kernel, rfl, by decide +kernel, by decide +kernel⟩
abbrev s__law_set_key : Stmt := topS 31
abbrev s__law_within : Stmt := topS 32
abbrev s__law_least : Stmt := topS 33
abbrev s__law_turned : Stmt := topS 34
abbrev N__law_turned : List Str := ["present", "part", "kept", "entry"]
theorem sc__law_turned : FnScope N__law_turned ["present", "part"] (defScope s__law_turned) := ⟨rfl, rfl, rfl, by decide +kernel, rfl, by decide +kernel, by decide +kernel⟩
abbrev s__law_costs : Stmt := topS 35
abbrev N__law_costs : List Str := ["draw", "entries", "costs", "entry"]
theorem sc__law_costs : FnScope N__law_costs ["draw", "entries"] (defScope s__law_costs) := ⟨rfl, rfl, rfl, by decide +kernel, rfl, by decide +kernel, by decide +kernel⟩
abbrev s__law_change_key : Stmt := topS 36
abbrev N__law_change_key : List Str := ["change"]
theorem sc__law_change_key : FnScope N__law_change_key ["change"] (defScope s__law_change_key) := ⟨rfl, rfl, rfl, by decide +kernel, rfl, by decide +kernel, by decide +kernel⟩
abbrev s__law_best : Stmt := topS 37
abbrev N__law_best : List Str := ["truth", "entries", "present", "costs", "subsets", "changes", "part", "entry"]
theorem sc__law_best : FnScope N__law_best ["truth", "entries", "present", "costs"] (defScope s__law_best) := ⟨rfl, rfl, rfl, by decide +kernel, rfl, by decide +kernel, by decide +kernel⟩
abbrev s__law_candidates : Stmt := topS 38
abbrev N__law_candidates : List Str := ["draw", "store", "entries", "trees", "rows", "k", "row", "tree"]
theorem sc__law_candidates : FnScope N__law_candidates ["draw", "store", "entries"] (defScope s__law_candidates) := ⟨rfl, rfl, rfl, by decide +kernel, rfl, by decide +kernel, by decide +kernel⟩
abbrev s_law : Stmt := topS 39
abbrev N_law : List Str := ["script", "draw", "entries", "store", "trees", "present", "costs", "prefix", "chosen", "some", "sizes", "k", "more", "due", "handed", "most", "kept", "found", "e", "entry", "row", "tree", "part", "one", "j"]
theorem sc_law : FnScope N_law ["script"] (defScope s_law) := ⟨rfl, rfl, rfl, by decide +kernel, rfl, by decide +kernel, by decide +kernel⟩
/-! ### heaps and calls -/
theorem same_upd {H : Hp} {p : Addr} {o : HO} (h : H p = none) : Same H (upd H p o) := fun b x e => by
  rw [upd_ne (ne_of_none e h)]
  exact e
/-- what stood stands, but for the object at d -/
def Fd (d : Addr) (H H' : Hp) : Prop := ∀ b o, b ≠ d → H b = some o → H' b = some o
theorem Fd.refl (d : Addr) (H : Hp) : Fd d H H := fun _ _ _ e => e
theorem Fd.trans {d : Addr} {H H1 H2 : Hp} (a : Fd d H H1) (b : Fd d H1 H2) : Fd d H H2 := fun c o n e => b c o n (a c o n e)
theorem Fd.of {d : Addr} {H H' : Hp} (a : Same H H') : Fd d H H' := fun b o _ e => a b o e
theorem Fd.new {d : Addr} {H : Hp} {p : Addr} {o : HO} (h : H p = none) : Fd d H (upd H p o) := Fd.of (same_upd h)
theorem Fd.at {d : Addr} {H : Hp} {o : HO} : Fd d H (upd H d o) := fun b x n e => by
  rw [upd_ne n]
  exact e
/-- a def that may be called by its name -/
structure Cl (P : Program) (w : World) (K : PySem.W.Frag) (mg : Str → Option Value) (base : Heap) (k : Nat) (x : Str) (sp : Sp) : Prop where
  ex : ∃ (f : Addr) (fd : FuncData) (ps : List Str), FnOk P w K mg base CX0 k f fd ps sp ∧ mg x = some (.ref f) ∧ PySem.W.keepIn K (.ref f) = true ∧ Binds K fd ps []
section
variable {X : Cx} {k j : Nat} {x : Str} {sp : Sp} {p pos : Pos} {e : Expr} {es : List Expr} {t : TA}
theorem pe_u (c : Cl X.prog X.w X.K X.mg X.base k x sp) (hr : Room j X.A) (hk : k ≤ j) (hg : Gl X x) (ha : PA X (e :: es) t)
    (hdb : (x == ("__debug__" : Str)) = false := by decide) (he : starEach (e :: es) X.env = (false, eval e X.env) :: starEach es X.env := by rfl) (hpl : (backTo pos (starEach es X.env)).any (·.1) = false := by rfl) :
    PE X (.Call (.Name x p) (e :: es) [] pos) (tCall sp [] E0 t) := by
  obtain ⟨f, fd, ps, F, hm, kp, b⟩ := c.ex
  exact pe_call F (hr.mono hk) hg hm kp b .nil pass0 ha hdb he hpl
theorem pe_u0 (c : Cl X.prog X.w X.K X.mg X.base k x sp) (hr : Room j X.A) (hk : k ≤ j) (hg : Gl X x) (hdb : (x == ("__debug__" : Str)) = false := by decide) : PE X (.Call (.Name x p) [] [] pos) (tCall sp [] E0 tNil) := by
  obtain ⟨f, fd, ps, F, hm, kp, b⟩ := c.ex
  exact pe_call0 F (hr.mono hk) hg hm kp b .nil pass0 hdb
end
theorem FnOk.cl {P : Program} {w : World} {K : PySem.W.Frag} {mg : Str → Option Value} {base : Heap} {k : Nat} {x q : Str} {st : Stmt} {f : Addr} {fd : FuncData} {ps : List Str} {sp : Sp} (h : FnOk P w K mg base CX0 k f fd ps sp) (F : Fun K x q st f fd) (g : mg x = some (.ref f)) (b : Binds K fd ps []) : Cl P w K mg base k x sp := ⟨f, fd, ps, h, g, F.kp, b⟩
/-! ### rules with the written part named (within a comprehension) -/
section
variable {X : Cx} (K : PySem.W.Frag)
theorem ix_listK (h : X.K = K := by rfl) : IxR X (rIxL K) := by subst h; exact ix_list
theorem ix_tupK (h : X.K = K := by rfl) : IxR X (rIxT K) := by subst h; exact ix_tup
theorem ix_seqK (h : X.K = K := by rfl) : IxR X (rIx K) := by subst h; exact ix_seq
theorem len_seqK (h : X.K = K := by rfl) : CallR X (.builtin "len") (fun xs H Q => ∃ p ys, xs = [.ref p] ∧ (SqL K H p ys ∨ SqT K H p ys) ∧ Q (.int ys.length) H) := by subst h; exact call_len_seq
theorem isiK (h : X.K = K := by rfl) : CallR X (.builtin "isinstance") (rIsi K) := by subst h; exact call_isi
theorem isiTK (h : X.K = K := by rfl) : CallR X (.builtin "isinstance") (rIsiT K) := by subst h; exact call_isiT
theorem allK (hc : X.calm = true) (h : X.K = K := by rfl) : CallR X (.builtin "all") (rAll K) := by subst h; exact cr_all hc
theorem listK (h : X.K = K := by rfl) : CallR X (.type "list") (fun xs H Q => ∃ p ys, xs = [.ref p] ∧ (SqL K H p ys ∨ SqT K H p ys) ∧ ∀ l, H l = none → Q (.ref l) (upd H l (.lst ys))) := by subst h; exact call_list_of
theorem tupleK (h : X.K = K := by rfl) : CallR X (.type "tuple") (fun xs H Q => ∃ p ys, xs = [.ref p] ∧ ((SqL K H p ys ∧ ∀ l, H l = none → Q (.ref l) (upd H l (.tup ys))) ∨ (SqT K H p ys ∧ Q (.ref p) H))) := by subst h; exact call_tuple_of
theorem inK (h : X.K = K := by rfl) : OpR X (compareOp .In) (rIn K false) := by subst h; exact op_in_seq
theorem notInK (h : X.K = K := by rfl) : OpR X (compareOp .NotIn) (rIn K true) := by subst h; exact op_notIn_seq
theorem pe_bmK {T : String} {name : Str} {id : String} {r : V → List V → Hp → VK → Prop} {o e : Expr} {es : List Expr} {to : TE} {t : TA} {apos cpos : Pos} (pa : PlainAttrs T) (slot : Slot T name id) (hty : typeOf (.builtin id) = pure (.type "method_descriptor")) (hm : MtR X id r) (ho : PE X o to) (ha : PA X (e :: es) t) (hK : X.K = K := by rfl)
    (hbase : attributeBase o name X.env (eval o X.env) = eval o X.env := by rfl)
    (hfew : ((backTo cpos (starEach (e :: es) X.env)).all (fun x => !x.1) && (backToKw cpos (keywordEach [] X.env)).all (fun x => x.1.isSome)
      && decide ((e :: es).length + ([] : List Keyword).length + (if ([] : List Keyword).isEmpty then 0 else 1) < 30)) = true := by rfl)
    (hline : (apos.endLine == cpos.line) = true := by rfl) (hs : starEach (e :: es) X.env = (false, eval e X.env) :: starEach es X.env := by rfl) (hplain : (backTo cpos (starEach es X.env)).any (·.1) = false := by rfl) :
    PE X (.Call (.Attribute o name apos) (e :: es) [] cpos) (tBM K T r to t) := by subst hK; exact pe_bm pa slot hty hm ho ha hbase hfew hline hs hplain
theorem pt_truthK {a : Expr} {ta : TE} (ha : PE X a ta) (he : ∀ whole, isTrue a X.env whole = (do let v ← whole; standAt a.pos; holding [v] (truthy v))) (h : X.K = K := by rfl) : PT X a (fun σ H Q => ta σ H fun x H' => ∃ k, TruV K x H' k ∧ Q k H') := by subst h; exact pt_truth ha he
theorem eqDK (hu : X.A.units + 64 < cLine) (h : X.K = K := by rfl) : OpR X (compareOp .Eq) (rEqD K) := by subst h; exact op_eqD hu
theorem neDK (hu : X.A.units + 64 < cLine) (h : X.K = K := by rfl) : OpR X (compareOp .NotEq) (rNeD K) := by subst h; exact op_neD hu
end
/-- over the signs of a text -/
theorem for_strs {x : Str} {g : TG} {tb : TS} {D : Ends} {σ : L2.St} {H : Hp} (Pv : Nat → L2.St → Hp → Prop) (h0 : Pv 0 σ H)
    (hs : ∀ i c σ H, x.cps.toList[i]? = some c → Pv i σ H → g (.str ⟨#[c]⟩) σ H fun σ2 H2 => tb { D with nx := Pv (i + 1), ct := Pv (i + 1), bk := D.nx } σ2 H2) (hd : ∀ σ H, Pv x.cps.toList.length σ H → D.nx σ H) :
    ∃ W : Nat → Nat → L2.St → Hp → Prop, (∃ m, W 0 m σ H) ∧ ∀ i m σ H, W i m σ H →
      ((Its x).stop i H ∧ D.nx σ H) ∨ ((Its x).go i H ∧ ∃ N : L2.St → Hp → Prop, (∀ σ' H', N σ' H' → ∃ m', m' < m ∧ W (i + 1) m' σ' H') ∧ ∀ v H', (Its x).yld i H v H' → g v σ H' fun σ2 H2 => tb { D with nx := N, ct := N, bk := D.nx } σ2 H2) := by
  have es : x.cps.toList.length = x.cps.size := by simp
  refine ⟨fun i m σ H => m = x.cps.size - i ∧ i ≤ x.cps.size ∧ Pv i σ H, ⟨x.cps.size, by simp, Nat.zero_le _, h0⟩, ?_⟩
  rintro i m σ H ⟨rfl, hi, p⟩
  by_cases hlt : i < x.cps.size
  · refine .inr ⟨hlt, Pv (i + 1), fun σ' H' p' => ⟨x.cps.size - (i + 1), by omega, rfl, hlt, p'⟩, fun v H' y => ?_⟩
    obtain ⟨e, c, hc, rfl⟩ := y
    subst e
    exact hs i c σ _ (by rw [Array.getElem?_toList]; exact hc) p
  · have e : i = x.cps.size := by omega
    subst e
    exact .inl ⟨Nat.le_refl _, hd σ H (by rw [es]; exact p)⟩
theorem joinL0 : ∀ ps : List (List Nat), TL.joinL [] ps = ps.flatten
  | [] => rfl
  | [p] => by
    show p = p ++ []
    rw [List.append_nil]
  | p :: q :: r => by
    show p ++ ([] ++ TL.joinL [] (q :: r)) = p ++ (q :: r).flatten
    rw [joinL0 (q :: r), List.nil_append]
theorem join0 (ys : List Str) : Txt.join ⟨#[]⟩ ys = ⟨((ys.map TL.tl).flatten).toArray⟩ := by
  refine TL.ext_tl ?_
  rw [TL.join_eq, TL.tl_join]
  show TL.joinL [] _ = _
  rw [joinL0]
theorem flat_len : ∀ ys : List Str, ((ys.map TL.tl).flatten).length = (ys.map (·.length)).sum
  | [] => rfl
  | y :: ys => by
    rw [List.map_cons, List.flatten_cons, List.length_append, flat_len ys, List.map_cons, List.sum_cons]
    show y.cps.toList.length + _ = _
    rw [Array.length_toList]
    rfl
theorem S_len' (l : List Nat) : (⟨l.toArray⟩ : Str).length = l.length := by simp [Str.length]
theorem cut_to (l : List Nat) {o : Nat} (h : o ≤ l.length) : cutS ⟨l.toArray⟩ none (some (o : Int)) = ⟨(l.take o).toArray⟩ := by
  unfold cutS
  rw [HT.sIx_none, HT.sIx_nat, S_len', Nat.sub_zero, Nat.min_eq_left h]
  show (⟨((l.drop 0).take o).toArray⟩ : Str) = _
  rw [List.drop_zero]
theorem str1 (c : Nat) (d : Nat) : decide (V.str ⟨#[c]⟩ = V.str ⟨#[d]⟩) = decide (c = d) := by
  by_cases h : c = d
  · subst h
    rw [decide_eq_true rfl, decide_eq_true rfl]
  · rw [decide_eq_false h, decide_eq_false]
    intro e
    have e1 := V.str.inj e
    have e2 := Array.toList_inj.mpr (Str.mk.inj e1)
    exact h (by simpa using e2)
def tx (l : List Nat) : V := .str ⟨l.toArray⟩
/-- a comprehension's scope within another scope -/
def relS (scope sc : Scope) : Scope := { scope with names := scope.names.map fun (n, k) => if (k == .free && sc.kind == .function && sc.names.lookup n == some .cell) then (n, .cell) else (n, k) }
theorem anyK {X : Cx} (K : PySem.W.Frag) (hc : X.calm = true) (h : X.K = K := by rfl) : CallR X (.builtin "any") (rAny K) := by subst h; exact cr_any hc
theorem pi_listK {X : Cx} (K : PySem.W.Frag) {l tg : Expr} {tl : TE} (hl : PE X l tl) (h : X.K = K := by rfl) : PI X tg l (iList K tl) := by subst h; exact pi_list hl
theorem pi_tupK {X : Cx} (K : PySem.W.Frag) {l tg : Expr} {tl : TE} (hl : PE X l tl) (h : X.K = K := by rfl) : PI X tg l (iTup K tl) := by subst h; exact pi_tup hl

/-! ### the law called by its caller, around which nothing is being shown: for repr -/
def CallerOk (P : Program) (w : World) (K : PySem.W.Frag) (mg : Str → Option Value) (base : Heap) (f : Addr) (fd : FuncData) (p : Str) (sp : Sp) : Prop :=
  ∀ (s : Shared) (H : Hp) (u : Value) (v : V) (Q : VK), Env0 P w K mg base callerA [] s H → BindsTo s fd ⟨[u], []⟩ [(p, u)] → RelV v u → sp [v] H Q E0 → codeAny (model P w) callerA (.call (.ref f) ⟨[u], []⟩) (CR CX0 [] P w H s Q E0) s
theorem callG {P : Program} {w : World} {K : PySem.W.Frag} {mg mb : Str → Option Value} {f a : Addr} {fd : FuncData} {p : Str} {sp : Sp} {s : Shared} {us : List Value} {ns : List Int} (kin : K.In s.heap) (ng : s.heap.Ns mainGlobals mg) (nb : s.heap.Ns builtinsNs mb) (eb : ∀ y : Str, y ≠ "__name__" → mb y = bootBuiltins y)
    (nl : s.heap.NoLimit) (gn : s.gens = #[]) (oa : s.heap.get? a = some { cls := .type "list", data := .seq us.toArray }) (ui : IntsAre us ns) (ln : ns.length ≤ sizeLine) (F : ∀ base : Heap, K.In base → base.Ns mainGlobals mg → CallerOk P w K mg base f fd p sp) (bd : ∀ (s : Shared) (u : Value), BindsTo s fd ⟨[u], []⟩ [(p, u)])
    (go : ∀ H : Hp, SqL K H a (ns.map V.int) → sp [.ref a] H (fun v _ => v = .bl true) E0) : codeAny (model P w) callerA (.call (.ref f) ⟨[.ref a], []⟩) (fun r z => r = .ok (.ret (.bool true)) ∧ OldK s.heap z.heap ∧ z.os = s.os ∧ AllBare z.gens) s := by
  have vu := vals_ints ui
  have lu := ui.length
  -- the script is told unless it is one of the module's own objects
  let fz : HO := .frz { cls := .type "list", data := .seq us.toArray } (.lst (ns.map V.int))
  let G : Hp := fun b => if b = a ∧ K.lookup a = none then some fz else none
  have gi : ∀ {b : Addr} {u : HO}, G b = some u → b = a ∧ K.lookup a = none ∧ u = fz := fun {b u} h => by
    by_cases c : b = a ∧ K.lookup a = none
    · have h' := (if_pos c).symm.trans h
      exact ⟨c.1, c.2, (Option.some.inj h').symm⟩
    · have h' := (if_neg c).symm.trans h
      cases h'
  have gn0 : ∀ {b : Addr}, (b = a → K.lookup a ≠ none) → G b = none := fun {b} h => if_neg fun c => h c.1 c.2
  have seq : SqL K G a (ns.map V.int) := by
    by_cases c : K.lookup a = none
    · exact .inl (.inr ⟨_, if_pos ⟨rfl, c⟩⟩)
    · obtain ⟨o, ho⟩ := Option.ne_none_iff_exists'.mp c
      have e := (kin a o ho).symm.trans oa
      cases e
      exact .inr ⟨_, us.toArray, _, ho, rfl, rfl, rfl, by rw [List.size_toArray, lu]; exact ln, by simpa using vu⟩
  have hok : HOk P w G s.heap := fun b u h => by
    obtain ⟨rfl, _, rfl⟩ := gi h
    exact ⟨oa, by rw [List.length_map]; exact ln, us, _, vu, oa⟩
  -- no dict is the script
  have dn : ∀ {b : Addr} {o : Obj} {es : Array DictEntry} {k : Nat}, s.heap.get? b = some o → o.data = .dict es k → G b = none := fun {b o es k} e d => gn0 fun z => by
    subst z
    have e' := e.symm.trans oa
    cases e'
    cases d
  have ns' : ∀ {b : Addr} {m : Str → Option Value}, s.heap.Ns b m → (hidT s.heap G).Ns b m := fun ⟨o, es, k, e, d, r⟩ => ⟨o, es, k, hidT_get e (dn e d), d, r⟩
  have kin' : K.In (hidT s.heap G) := fun b o e => hidT_get (kin b o e) (gn0 fun z => by subst z; rw [e]; exact fun q => nomatch q)
  have md : Mod K mg (hidT s.heap G) := ⟨kin', ns' ng, ⟨mb, ns' nb, eb⟩, nl.elim fun mc h => ⟨mc, ns' h.1, h.2⟩⟩
  have e0 : Env0 P w K mg (hidT s.heap G) callerA [] s G := ⟨rfl, md, fun b o e => of_hidT e, Nat.le_of_eq (hidT_size _ _), trivial, fun b hb => (List.not_mem_nil hb).elim, hok, .of_eq gn⟩
  refine codeAny_mono (F _ kin' (ns' ng) s G (.ref a) (.ref a) _ e0 (bd s (.ref a)) rfl (go G seq)) fun r z h => ?_
  match r, h with
  | .error _, h => exact False.elim h
  | .ok .next, h => exact False.elim h
  | .ok .brk, h => exact False.elim h
  | .ok .cont, h => exact False.elim h
  | .ok (.ret u), h =>
    obtain ⟨v, H', os, br, un, ok', rv, q⟩ := h
    cases (show v = .bl true from q)
    cases (show u = Value.bool true from rv)
    refine ⟨rfl, OldK.of_keep fun b o e => ?_, os, br⟩
    cases gb : G b with
    | none => exact un.keep b o e gb (fun z => (List.not_mem_nil z).elim) (by simp)
    | some y =>
      obtain ⟨_, _, rfl⟩ := gi gb
      have k1 := (hok b _ gb).1
      have k2 := (ok' b _ (un.frzs b _ _ gb)).1
      cases e.symm.trans k1
      exact k2
theorem walk_ofG {l : PySem.W.OpenLaw} {n : Nat} {q : Program} {loose : List Str} {XP : (Str → Option Value) → Heap → Prop} {YP : World → Heap → Prop} {d : DefRec} {K : Params → PySem.W.Frag} {sp : World → Sp} {p : Str} (hn : l.most = some n) (hn2 : n ≤ sizeLine) (hdf : d.params.defaults = [])
    (hY : ∀ (w : World) (h : Heap), YP w h → (K w.params).In h) (F : ∀ (w : World) (mg : Str → Option Value) (f : Addr) (h : Heap), (K w.params).In h → h.Ns mainGlobals mg → mg d.name = some (.ref f) → ∃ fd : FuncData, (∀ (s : Shared) (u : Value), BindsTo s fd ⟨[u], []⟩ [(p, u)]) ∧
      ∀ base : Heap, (K w.params).In base → base.Ns mainGlobals mg → CallerOk l.prog w (K w.params) mg base f fd p (sp w))
    (go : ∀ (w : World) (H : Hp) (a : Addr) (ns : List Int), ns.length ≤ n → SqL (K w.params) H a (ns.map V.int) → sp w [.ref a] H (fun v _ => v = .bl true) E0) : PySem.W.WalkO q loose XP YP l.row.toRowW d [] (fun f vs => PySem.call f vs) := by
  refine Att.attach_call hn hdf fun w s₀ s₁ mg mb fa o pm cd doc a vs ns G Y _ _ _ hm ob ui ln gn => ?_
  have kin := hY w _ Y
  obtain ⟨fd, bd, hF⟩ := F w mg fa _ kin G.T.g hm
  exact callG kin G.T.g G.T.b G.T.builtins G.T.nolimit gn ob ui (Nat.le_trans ln hn2) hF bd fun H hS => go w H a ns ln hS
section
variable {P : Program} {w : World} {K : PySem.W.Frag} {mg : Str → Option Value} {base : Heap}
/-- a def of one parameter by its body, called by the law's caller -/
theorem okG_of {x qual : Str} {st : Stmt} {f : Addr} {fd : FuncData} {N : List Str} {p : Str} {k : Nat} {sp : Sp} (F : Fun K x qual st f fd) (S : FnScope N [p] (defScope st)) (hr : Room (k + 1) callerA)
    (walk : ∀ (cdv : Value) (s : Shared) (H : Hp) (v : V) (Q : VK), Room k (callerA.deeper (envOfC qual (defScope st) s.heap.objs.size f cdv)) → sp [v] H Q E0 →
      ∃ t, PSs (cxOf CX0 P w K mg base N qual (defScope st) f cdv callerA [] s H E0).nox (defBody st) t ∧ t { nx := fun _ H' => Q .non H', rt := Q } (start N [v]) H) : CallerOk P w K mg base f fd p sp := by
  obtain ⟨oc, od, kV, doc, pm, an, cdv, ct, osl, rfl, lk, hcd⟩ := F.ex
  intro s H u v Q e0 bd rv ask
  have grow : ∀ (b : Addr) (o : Obj), base.get? b = some o → s.heap.get? b = some o := fun b o e => (e0.bs b o e).1
  have kin : K.In s.heap := e0.mod.kin.keeps grow
  have slot : ∀ y ∈ [(p, u)], (defScope st).names.lookup y.1 = some .local ∨ ((defScope st).names.lookup y.1 = some .cell ∧ ((cellsFrom (s.heap.objs.size + 1) (defScope st).names []).lookup y.1).isSome = true) := fun y hy => by
    cases List.mem_singleton.mp hy
    exact (S.par p List.mem_cons_self).imp id fun q => ⟨q, PySem.W.cellsFrom_some _ _ _ (.inl q)⟩
  refine codeAny_call_function hr.depth (kin _ _ lk) rfl S.co S.gen rfl (PySem.W.codeRec_of kin hcd) (bd _ _ _ _ ?_)
  refine wpAny_newFunctionEnv_cells S.kind slot fun env he s1 new => ?_
  subst he
  refine ⟨(e0.mod.nolimit.keeps grow).keeps new.toInCall.keep, codeAny_func ?_⟩
  obtain ⟨t, ht, red⟩ := walk cdv s H v Q (hr.deeper _) ask
  have I := inv_start (E := E0) (CX := CX0) S hr.hd e0 (rfl : [v].length = [p].length) (.cons rv .nil) new
  refine wpAny_mono (ht.nox.run [] s1 (start N [v]) H _ I red) (fun fl z hz => ?_) fun _ _ hz => hz
  match fl, hz with
  | .ret _, ⟨y, _, H', J, ry, qy⟩ => exact ⟨y, H', J.os, J.bare, J.base, J.hok, ry, qy⟩
  | .next, ⟨_, H', J, qy⟩ => exact ⟨V.non, H', J.os, J.bare, J.base, J.hok, rfl, qy⟩
  | .brk, ⟨_, _, _, qy⟩ => exact False.elim qy
  | .cont, ⟨_, _, _, qy⟩ => exact False.elim qy
end
/-! ### repr of data -/
def rRepr (K : PySem.W.Frag) : List V → Hp → VK → Prop := fun xs H Q => ∃ (a : Addr) (d : PyData), xs = [.ref a] ∧ Dp K H (.ref a) d ∧ d.showable = true ∧ d.hasDict = false ∧ d.depth ≤ 50 ∧ d.shown.length ≤ sizeLine ∧ Q (.str d.shown) H
theorem reprK {X : Cx} (K : PySem.W.Frag) (hg : X.A.guards = some []) (hu : X.A.units + 64 < cLine) (h : X.K = K := by rfl) : CallR X (.builtin "repr") (rRepr K) := by
  subst h
  intro pins s σ H xs us Q I r ask
  obtain ⟨a, d, rfl, dp, sh, nd, dd, ln, q⟩ := ask
  obtain ⟨u, rfl, rx⟩ := vals1 r
  obtain ⟨as, rd⟩ := Dp.reads I _ _ u dp rx
  cases (show u = Value.ref a from rx)
  refine repr_of_reads' rd sh (fun z => by rw [nd] at z; cases z) hg (by omega) (fun _ _ e => e) (fun _ u _ kp => ⟨.str d.shown, H, I.kept kp, ⟨u, rfl⟩, q⟩) ln

/-! ### repr of dicts of numbers -/
theorem rd_ents {P : Program} {w : World} {h : Heap} : ∀ {es : List (Int × Int)} {vs : List (Key × Value)} {ents : List DictEntry}, KV (es.map fun e => ((Sum.inl e.1 : Key), V.int e.2)) vs → Pairs (mixKind P w) ents vs → ReadsAll h (ents.map (·.key)) (es.map fun e => PyData.int e.1) [] ∧ ReadsAll h (ents.map (·.val)) (es.map fun e => PyData.int e.2) []
  | [], _, _, r, p => by
    cases r
    cases p
    exact ⟨.nil, .nil⟩
  | e :: es, _, _, r, p => by
    cases r with
    | @cons _ kv _ _ r1 r2 =>
      cases p with
      | @cons en _ ents kvs p1 p2 p3 =>
        obtain ⟨q1, q2⟩ := rd_ents r2 p3
        obtain ⟨e1, e2⟩ := r1
        have hk : keyIs (Sum.inl e.1) en.key = true := by rw [show (Sum.inl e.1 : Key) = kv.1 from e1]; exact p1
        obtain ⟨t, ht⟩ : ∃ t, en.key = Value.int e.1 t := by
          rcases keyIs_shape hk with ⟨i, t, h1, h2⟩ | ⟨x, t, h1, h2⟩
          · cases h1
            exact ⟨t, h2⟩
          · cases h1
        obtain ⟨t2, ht2⟩ : ∃ t, en.val = Value.int e.2 t := by
          rw [p2]
          exact e2
        constructor
        · rw [List.map_cons, List.map_cons, ht]
          exact ReadsAll.cons (Reads.int _ _) q1
        · rw [List.map_cons, List.map_cons, ht2]
          exact ReadsAll.cons (Reads.int _ _) q2
/-- a dict of numbers as data -/
def dctD (es : List (Int × Int)) : PyData := .dict (es.map fun e => (PyData.int e.1, PyData.int e.2))
def dctV (es : List (Int × Int)) : HO := .dK (es.map fun e => ((Sum.inl e.1 : Key), V.int e.2))
theorem rd_dct {X : Cx} {pins : List (Addr × Obj)} {σ : L2.St} {H : Hp} {s : Shared} (I : Inv X pins σ H s) {a : Addr} {es : List (Int × Int)} (h : H a = some (dctV es)) : Reads s.heap (.ref a) (dctD es) [a] ∧ sysModules ∉ [a] := by
  obtain ⟨z, lo, vs, rel, o, ents, ep, ho, hex, hdata, _, hp, _⟩ := dk_of I.hok h
  obtain ⟨q1, q2⟩ := rd_ents (h := s.heap) rel hp
  refine ⟨Reads.dict ho hex.1 hdata (as := []) (bs := []) ?_ ?_, fun z => ?_⟩
  · rw [List.map_map]
    exact q1
  · rw [List.map_map]
    exact q2
  · rw [List.mem_singleton.mp z |>.symm] at lo
    cases lo
/-- what stands in a list that repr shows: data without dicts, or a dict of numbers -/
def DpE (K : PySem.W.Frag) (H : Hp) (x : V) (d : PyData) : Prop := (Dp K H x d ∧ d.hasDict = false) ∨ ∃ c es, x = .ref c ∧ H c = some (dctV es) ∧ d = dctD es
inductive DpEs (K : PySem.W.Frag) (H : Hp) : List V → List PyData → Prop
  | nil : DpEs K H [] []
  | cons {v : V} {vs : List V} {d : PyData} {ds : List PyData} : DpE K H v d → DpEs K H vs ds → DpEs K H (v :: vs) (d :: ds)
section
variable {X : Cx} {pins : List (Addr × Obj)} {σ : L2.St} {H : Hp} {s : Shared}
theorem DpE.reads (I : Inv X pins σ H s) {x : V} {d : PyData} {u : Value} (h : DpE X.K H x d) (r : RelV x u) : ∃ as, Reads s.heap u d as ∧ (d.hasDict = true → sysModules ∉ as) := by
  rcases h with ⟨h, n⟩ | ⟨c, es, rfl, hc, rfl⟩
  · obtain ⟨as, q⟩ := Dp.reads I d x u h r
    exact ⟨as, q, fun z => by rw [n] at z; cases z⟩
  · cases (show u = Value.ref c from r)
    obtain ⟨q1, q2⟩ := rd_dct I hc
    exact ⟨_, q1, fun _ => q2⟩
theorem DpEs.shows (P : Program) (w : World) (I : Inv X pins σ H s) : ∀ {ds : List PyData} {vs : List V} {us : List Value}, DpEs X.K H vs ds → Vals vs us → PyData.showableAll ds = true → (∀ t ∈ PyData.shownAll ds, t.length ≤ sizeLine) →
    ∃ as bs, ReadsAll s.heap us ds as ∧ ReadAtMost s.heap (PyData.depthAll ds) bs ∧ ReprAllK P w bs s.heap (PyData.depthAll ds) us (PyData.shownAll ds)
  | [], _, _, h, r, _, _ => by
    cases h
    cases r
    exact ⟨[], [], ReadsAll.nil, (fun b z => by cases z), ReprAllK.nil⟩
  | d :: ds, _, _, h, r, hs, hz => by
    cases h with
    | cons h1 h2 =>
      cases r with
      | cons r1 r2 =>
        unfold PyData.showableAll at hs
        unfold PyData.shownAll at hz ⊢
        unfold PyData.depthAll
        rw [Bool.and_eq_true] at hs
        obtain ⟨as, q1, n1⟩ := DpE.reads I h1 r1
        obtain ⟨b1, m1, k1⟩ := ReprK.of_reads (prog := P) (w := w) q1 hs.1 n1 (hz _ List.mem_cons_self)
        obtain ⟨as2, b2, q2, m2, k2⟩ := DpEs.shows P w I h2 r2 hs.2 fun t ht => hz t (List.mem_cons_of_mem _ ht)
        refine ⟨as ++ as2, b1 ++ b2, .cons q1 q2, (m1.mono (Nat.le_max_left _ _)).append (m2.mono (Nat.le_max_right _ _)), .cons ((k1.more fun b hb => List.mem_append.mpr (.inl hb)).level_le (Nat.le_max_left _ _)) (k2.more_le (fun b hb => List.mem_append.mpr (.inr hb)) (Nat.le_max_right _ _))⟩
end
/-- repr of a dict of numbers, or of a list in which such dicts stand -/
def rReprD (K : PySem.W.Frag) : List V → Hp → VK → Prop := fun xs H Q => ∃ (a : Addr) (d : PyData), xs = [.ref a] ∧ ((∃ es, d = dctD es ∧ H a = some (dctV es)) ∨ ∃ x vs ds, d = .list ds ∧ H a = some (.lst (x :: vs)) ∧ DpEs K H (x :: vs) ds) ∧ d.showable = true ∧ d.depth ≤ 50 ∧ d.shown.length ≤ sizeLine ∧ Q (.str d.shown) H
theorem reprDK {X : Cx} (K : PySem.W.Frag) (hg : X.A.guards = some []) (hu : X.A.units + 64 < cLine) (h : X.K = K := by rfl) : CallR X (.builtin "repr") (rReprD K) := by
  subst h
  intro pins s σ H xs us Q I r ask
  obtain ⟨a, d, rfl, dp, sh, dd, ln, q⟩ := ask
  obtain ⟨u, rfl, rx⟩ := vals1 r
  cases (show u = Value.ref a from rx)
  rcases dp with ⟨es, rfl, ha⟩ | ⟨x, vs, ds, rfl, ha, hds⟩
  · obtain ⟨q1, q2⟩ := rd_dct I ha
    exact repr_of_reads' q1 sh (fun _ => q2) hg (by omega) (fun _ _ e => e) (fun _ u _ kp => ⟨.str _, H, I.kept kp, ⟨u, rfl⟩, q⟩) ln
  · obtain ⟨its, rv, ⟨o, n, ho, hc, _, hd⟩, _⟩ := I.list (SqL.of (K := X.K) ha)
    obtain ⟨y, l, rfl⟩ : ∃ y l, its = y :: l := by
      cases rv with
      | cons => exact ⟨_, _, rfl⟩
    unfold PyData.showable at sh
    unfold PyData.shown at ln q
    unfold PyData.depth at dd
    obtain ⟨as, bs, r1, r2, r3⟩ := DpEs.shows X.prog X.w I hds rv sh fun t ht => Nat.le_trans (listText_mem_le ht) ln
    have rl : Reads s.heap (.ref a) (.list ds) (a :: as) := .list ho hc hd r1
    have na : a ∉ bs := not_mem_of_deeper rl (by unfold PyData.depth; omega) r2
    refine call_repr_slot (T := "list") (idr := "list.__repr__") (by omega) ⟨o, ho, hc⟩ F.slot_list_repr.toG ?_
    exact call_list_reprK ho hc hd na (by simpa using r3.length_eq) (fun i y e => r3.item i y (by simpa using e)) hg (fun b _ => Clear.nil b) (by show X.A.units + 1 + (PyData.depthAll ds + 1) < cLine; omega) (fun _ _ e => e) (fun h' u tk kp => ⟨_, _, rfl, .str _, H, I.kept kp, ⟨u, rfl⟩, q⟩) ln
/-! ### how long such a print is -/
structure ShwD (d : PyData) (b k : Nat) : Prop where
  sh : d.showable = true
  lf : d.leavesShort 32 = true
  bk : d.bulk ≤ b
  dp : d.depth ≤ k
structure ShwDA (ds : List PyData) (b k : Nat) : Prop where
  sh : PyData.showableAll ds = true
  lf : PyData.leavesShortAll 32 ds = true
  bk : PyData.bulkAll ds ≤ b
  dp : PyData.depthAll ds ≤ k
theorem ShwDA.nil {k : Nat} : ShwDA [] 0 k := ⟨rfl, rfl, Nat.le_refl _, Nat.zero_le _⟩
theorem ShwDA.cons {d : PyData} {ds : List PyData} {b c k : Nat} (h : ShwD d b k) (g : ShwDA ds c k) : ShwDA (d :: ds) (b + 1 + c) k := by
  refine ⟨?_, ?_, ?_, ?_⟩
  · unfold PyData.showableAll
    rw [h.sh, g.sh]
    rfl
  · unfold PyData.leavesShortAll
    rw [h.lf, g.lf]
    rfl
  · unfold PyData.bulkAll
    have := h.bk
    have := g.bk
    omega
  · unfold PyData.depthAll
    exact Nat.max_le.mpr ⟨h.dp, g.dp⟩
theorem ShwDA.tup {ds : List PyData} {b k : Nat} (h : ShwDA ds b k) : ShwD (.tuple ds) b (k + 1) := by
  refine ⟨?_, ?_, ?_, ?_⟩
  · unfold PyData.showable
    exact h.sh
  · unfold PyData.leavesShort
    exact h.lf
  · unfold PyData.bulk
    exact h.bk
  · unfold PyData.depth
    have := h.dp
    omega
theorem ShwDA.lst {ds : List PyData} {b k : Nat} (h : ShwDA ds b k) : ShwD (.list ds) b (k + 1) := by
  refine ⟨?_, ?_, ?_, ?_⟩
  · unfold PyData.showable
    exact h.sh
  · unfold PyData.leavesShort
    exact h.lf
  · unfold PyData.bulk
    exact h.bk
  · unfold PyData.depth
    have := h.dp
    omega
theorem ShwD.le {d : PyData} {b k b' k' : Nat} (h : ShwD d b k) (hb : b ≤ b') (hk : k ≤ k') : ShwD d b' k' := ⟨h.sh, h.lf, Nat.le_trans h.bk hb, Nat.le_trans h.dp hk⟩
theorem ShwDA.all {b k : Nat} : ∀ {ds : List PyData}, (∀ d ∈ ds, ShwD d b k) → ShwDA ds (ds.length * (b + 1)) k
  | [], _ => ⟨rfl, rfl, by show 0 ≤ _; exact Nat.zero_le _, Nat.zero_le _⟩
  | d :: ds, h => by
    have h1 := ShwDA.cons (h d List.mem_cons_self) (ShwDA.all fun x hx => h x (List.mem_cons_of_mem _ hx))
    exact ⟨h1.sh, h1.lf, Nat.le_trans h1.bk (by rw [List.length_cons, Nat.add_mul, Nat.one_mul]; omega), h1.dp⟩
theorem ShwD.int {i : Int} (h : -1000000000000000 ≤ i ∧ i ≤ 1000000000000000) {k : Nat} : ShwD (.int i) 0 k := by
  have hn : i.natAbs < 10 ^ 16 := by
    have : (10 : Nat) ^ 16 = 10000000000000000 := by decide
    omega
  refine ⟨?_, ?_, Nat.le_refl _, Nat.zero_le _⟩
  · unfold PyData.showable
    refine decide_eq_true ?_
    have : i.natAbs < 2 ^ 60 := by
      have e : (2 : Nat) ^ 60 = 1152921504606846976 := by decide
      omega
    have := PySem.Flt.log2_lt_of (by decide : 0 < 60) this
    omega
  · unfold PyData.leavesShort
    refine decide_eq_true ?_
    have e := int_text_length_le10 (k := 16) (by decide) hn
    show (Str.ofString (toString i)).length ≤ 32
    rw [PySem.ofString_length]
    omega
theorem ShwD.dct {es : List (Int × Int)} (h : ∀ e ∈ es, (-1000000000000000 ≤ e.1 ∧ e.1 ≤ 1000000000000000) ∧ -1000000000000000 ≤ e.2 ∧ e.2 ≤ 1000000000000000) {k : Nat} : ShwD (dctD es) (2 * es.length) (k + 1) := by
  unfold dctD
  have go : ∀ es : List (Int × Int), (∀ e ∈ es, (-1000000000000000 ≤ e.1 ∧ e.1 ≤ 1000000000000000) ∧ -1000000000000000 ≤ e.2 ∧ e.2 ≤ 1000000000000000) → PyData.showableKv (es.map fun e => (PyData.int e.1, PyData.int e.2)) = true ∧ PyData.leavesShortKv 32 (es.map fun e => (PyData.int e.1, PyData.int e.2)) = true ∧ PyData.bulkKv (es.map fun e => (PyData.int e.1, PyData.int e.2)) ≤ 2 * es.length ∧ PyData.depthKv (es.map fun e => (PyData.int e.1, PyData.int e.2)) = 0 := by
    intro es
    induction es with
    | nil => exact fun _ => ⟨rfl, rfl, Nat.le_refl _, rfl⟩
    | cons e es ih =>
      intro h
      obtain ⟨h1, h2, h3, h4⟩ := ih fun x hx => h x (List.mem_cons_of_mem _ hx)
      obtain ⟨g1, g2⟩ := h e List.mem_cons_self
      have a := ShwD.int g1 (k := 0)
      have b := ShwD.int g2 (k := 0)
      rw [List.map_cons]
      refine ⟨?_, ?_, ?_, ?_⟩
      · unfold PyData.showableKv
        rw [a.sh, b.sh, h1]
        rfl
      · unfold PyData.leavesShortKv
        rw [a.lf, b.lf, h2]
        rfl
      · unfold PyData.bulkKv
        have := a.bk
        have := b.bk
        rw [List.length_cons]
        omega
      · unfold PyData.depthKv
        rw [h4]
        rfl
  obtain ⟨h1, h2, h3, h4⟩ := go es h
  refine ⟨?_, ?_, ?_, ?_⟩
  · unfold PyData.showable
    exact h1
  · unfold PyData.leavesShort
    exact h2
  · unfold PyData.bulk
    exact h3
  · unfold PyData.depth
    rw [h4]
    omega
theorem ShwD.repr {d : PyData} {b k : Nat} (h : ShwD d b k) (hb : b ≤ 400000) (hk : k ≤ 50) : d.showable = true ∧ d.depth ≤ 50 ∧ d.shown.length ≤ sizeLine := by
  refine ⟨h.sh, Nat.le_trans h.dp hk, ?_⟩
  have h1 := PyData.shown_le_bulk 32 (by decide) d h.lf
  have h2 := h.bk
  have h3 : (14000000 : Nat) ≤ sizeLine := by decide
  omega

structure Mg (mg : Str → Option Value) : Prop where
  abs : mg "abs" = none
  all : mg "all" = none
  bool : mg "bool" = none
  int : mg "int" = none
  isinstance : mg "isinstance" = none
  len : mg "len" = none
  list : mg "list" = none
  max : mg "max" = none
  min : mg "min" = none
  range : mg "range" = none
  repr : mg "repr" = none
  reversed : mg "reversed" = none
  sorted : mg "sorted" = none
  str : mg "str" = none
  sum : mg "sum" = none
  tuple : mg "tuple" = none
/-! ### the law's draws: a list of the script's copy, a place in it, what is left of a great number, a seed -/
def Dr (H : Hp) (d c : Addr) : Prop := c ≠ d ∧ ∃ (ns : List Int) (pos rest seed : Int), H d = some (.lst [.ref c, .int pos, .int rest, .int seed]) ∧ H c = some (.lst (ns.map V.int)) ∧ 0 ≤ pos ∧ 0 ≤ rest ∧ 0 ≤ seed ∧ seed < 2147483647
theorem Dr.ext {H H' : Hp} {d c : Addr} (h : Dr H d c) (e : Same H H') : Dr H' d c := by
  obtain ⟨n, ns, pos, rest, seed, h1, h2, r⟩ := h
  exact ⟨n, ns, pos, rest, seed, e _ _ h1, e _ _ h2, r⟩
theorem Dr.upd {H : Hp} {d c p : Addr} {o : HO} (h : Dr H d c) (n1 : p ≠ d) (n2 : p ≠ c) : Dr (upd H p o) d c := by
  obtain ⟨n, ns, pos, rest, seed, h1, h2, r⟩ := h
  exact ⟨n, ns, pos, rest, seed, by rw [upd_ne n1.symm]; exact h1, by rw [upd_ne n2.symm]; exact h2, r⟩
theorem Dr.nd {H : Hp} {d c p : Addr} (h : Dr H d c) (n : H p = none) : p ≠ d := by
  obtain ⟨_, ns, pos, rest, seed, h1, _⟩ := h
  exact (ne_of_none h1 n).symm
theorem Dr.nc {H : Hp} {d c p : Addr} (h : Dr H d c) (n : H p = none) : p ≠ c := by
  obtain ⟨_, ns, pos, rest, seed, _, h2, _⟩ := h
  exact (ne_of_none h2 n).symm
theorem Dr.lst {H : Hp} {d c : Addr} (h : Dr H d c) : ∃ zs, H d = some (.lst zs) := by
  obtain ⟨_, ns, pos, rest, seed, h1, _⟩ := h
  exact ⟨_, h1⟩
theorem Dr.lift {H H' : Hp} {d c d' c' : Addr} (_h : Dr H d c) (h' : Dr H' d' c') : Dr H' d' c' := h'
def sp_draw (K : PySem.W.Frag) : Sp := fun vs H Q _ => ∃ (a : Addr) (ns : List Int), vs = [.ref a] ∧ SqL K H a (ns.map V.int) ∧ ∀ H' d c, Same H H' → H d = none → Dr H' d c → Q (.ref d) H'
/-- a draw: some number below many -/
def sp_next : Sp := fun vs H Q _ => ∃ (d c : Addr) (many : Int), vs = [.ref d, .int many] ∧ Dr H d c ∧ 1 ≤ many ∧ many < 2 ^ 64 ∧ ∀ H' r, Fd d H H' → (∀ p, p ≠ d → H' p = H p) → Dr H' d c → 0 ≤ r → r < many → Q (.int r) H'
section
variable {P : Program} {w : World} {K : PySem.W.Frag} {mg : Str → Option Value} {base : Heap}
theorem ok_draw {f : Addr} {fd : FuncData} (F : Fun K "_law_draw" "_law_draw" s__law_draw f fd) (M : Mg mg) : FnOk P w K mg base CX0 1 f fd ["script"] (sp_draw K) := by
  refine F.ok sc__law_draw (fun vs H Q E h => ?_) (fun cdv A outer s H vs Q E hr h => ?_)
  · obtain ⟨a, ns, rfl, _⟩ := h
    rfl
  · obtain ⟨a, ns, rfl, hS, q⟩ := h
    refine ⟨_, (pss_one (ps_ret (pe_lst (pa_cons (pe_callTy (listK K) (by rfl) M.list (by decide +kernel) (pa_cons (pv 0) pa_nil)) (pa_cons pe_int (pa_cons pe_int (pa_cons pe_int pa_nil))))))), ?_⟩
    refine ⟨_, rfl, a, _, rfl, .inl hS, fun c nc => ?_⟩
    refine ⟨by show 4 ≤ sizeLine; decide, fun d nd => ?_⟩
    have hc : (upd H c (.lst (ns.map V.int))) c = some (.lst (ns.map V.int)) := upd_same
    have ncd : c ≠ d := ne_of_none hc nd
    have s1 := (same_upd nc (o := .lst (ns.map V.int))).trans (same_upd nd (o := .lst [.ref c, .int 0, .int 0, .int 17]))
    refine q _ d c s1 ((same_upd nc).free nd) ⟨ncd, ns, 0, 0, 17, upd_same, ?_, by decide, by decide, by decide, by decide⟩
    rw [upd_ne ncd]
    exact hc
theorem next_aux {H : Hp} {d c : Addr} {xs' : List V} {pos rest seed : Int} {ns : List Int} (hn : c ≠ d) (h2 : H c = some (.lst (ns.map V.int))) (hx : xs' = [.ref c, .int pos, .int rest, .int seed]) (h0 : 0 ≤ pos) (h1 : 0 ≤ rest) (h3 : 0 ≤ seed) (h4 : seed < 2147483647) : Dr (upd H d (.lst xs')) d c := by
  subst hx
  refine ⟨hn, ns, pos, rest, seed, upd_same, ?_, h0, h1, h3, h4⟩
  rw [upd_ne hn]
  exact h2
theorem ok_next {f : Addr} {fd : FuncData} (F : Fun K "_law_next" "_law_next" s__law_next f fd) (M : Mg mg) : FnOk P w K mg base CX0 1 f fd ["draw", "many"] sp_next := by
  refine F.ok sc__law_next (fun vs H Q E h => ?_) (fun cdv A outer s H vs Q E hr h => ?_)
  · obtain ⟨d, c, many, rfl, _⟩ := h
    rfl
  · obtain ⟨d, c, many, rfl, ⟨ncd, ns, pos, rest, seed, h1, h2, h0, h3, h4, h5⟩, hm1, hm2, q⟩ := h
    have hdv : ∀ x : Int, CDivW x many := fun x => wide_div (b := 64) (by omega) (by omega) (by decide) (by decide)
    have hcd : d ≠ c := ncd.symm
    have L0 : SqL K H d [.ref c, .int pos, .int rest, .int seed] := .of h1
    have at0 : ∀ (a b e g : V), atI [a, b, e, g] (0 : Int) = some a := fun a b e g => atI_nat (j := 0) rfl
    have at1 : ∀ (a b e g : V), atI [a, b, e, g] (1 : Int) = some b := fun a b e g => atI_nat (j := 1) rfl
    have at2 : ∀ (a b e g : V), atI [a, b, e, g] (2 : Int) = some e := fun a b e g => atI_nat (j := 2) rfl
    have at3 : ∀ (a b e g : V), atI [a, b, e, g] (3 : Int) = some g := fun a b e g => atI_nat (j := 3) rfl
    have fr : ∀ (H0 : Hp) (o : HO), (∀ p, p ≠ d → H0 p = H p) → (∀ p, p ≠ d → (upd H0 d o) p = H p) := fun H0 o e p n => by rw [upd_ne n]; exact e p n
    have fF : ∀ (H0 : Hp), (∀ p, p ≠ d → H0 p = H p) → Fd d H H0 := fun H0 e b o n h => by rw [e b n]; exact h
    -- the last row's value
    have last : ∀ (seed' : Int), 0 ≤ seed' → seed' < 2147483647 → ∀ H0 : Hp, (∀ p, p ≠ d → H0 p = H p) → (∃ pos rest, H0 d = some (.lst [.ref c, .int pos, .int rest, .int seed']) ∧ 0 ≤ pos ∧ 0 ≤ rest) → Q (.int ((seed' * 69621 % 2147483629 / 7) % many)) H0 := by
      intro seed' g0 g1 H0 e ⟨pos', rest', g2, g3, g4⟩
      exact q H0 _ (fF _ e) e ⟨ncd, ns, pos', rest', seed', g2, by rw [e c ncd]; exact h2, g3, g4, g0, g1⟩ (Int.emod_nonneg _ (by omega)) (Int.emod_lt_of_pos _ (by omega))
    refine ⟨_, (pss_cons (ps_if (pt_cmpR op_gt (pe_ix (ix_listK K) (pv 0) pe_int (fun _ _ => rfl)) pe_int (nomark _)) (pss_cons (ps_set (i := 2) sc__law_next.nd rfl (.inl rfl) (pe_op op_mod (pe_callTy call_int1 (by rfl) M.int (by decide +kernel) (pa_cons (pe_ix (ix_listK K) (pv 0) pe_int (fun _ _ => rfl)) pa_nil)) (pv 1)))
      (pss_cons (ps_asg (pe_op op_fdivW (pe_ix (ix_listK K) (pv 0) pe_int (fun _ _ => rfl)) (pv 1)) (pg_sub (pv 0) pe_int set_list))
      (pss_one (ps_ret (pv 2))))) pss_nil)
      (pss_cons (ps_if (pt_cmpR op_lt (pe_ix (ix_listK K) (pv 0) pe_int (fun _ _ => rfl)) (pe_callB (len_seqK K) (by rfl) M.len PySem.boot_len (pa_cons (pe_ix (ix_listK K) (pv 0) pe_int (fun _ _ => rfl)) pa_nil)) (nomark _)) (pss_cons (ps_set (i := 3) sc__law_next.nd rfl (.inl rfl) (pe_callB call_abs (by rfl) M.abs (by decide +kernel) (pa_cons (pe_ix (ix_listK K) (pe_ix (ix_listK K) (pv 0) pe_int (fun _ _ => rfl)) (pe_ix (ix_listK K) (pv 0) pe_int (fun _ _ => rfl)) (fun _ _ => rfl)) pa_nil)))
      (pss_cons (ps_asg (pe_op op_add (pe_ix (ix_listK K) (pv 0) pe_int (fun _ _ => rfl)) pe_int) (pg_sub (pv 0) pe_int set_list))
      (pss_cons (ps_if (pt_cmpR op_ge (pv 3) (pe_op op_pow pe_int pe_int) (nomark _)) (pss_cons (ps_asg (pe_op op_fdivW (pv 3) (pv 1)) (pg_sub (pv 0) pe_int set_list))
      (pss_one (ps_ret (pe_op op_mod (pe_callTy call_int1 (by rfl) M.int (by decide +kernel) (pa_cons (pv 3) pa_nil)) (pv 1))))) pss_nil)
      (pss_one (ps_asg (pe_op op_mod (pe_callTy call_int1 (by rfl) M.int (by decide +kernel) (pa_cons (pe_op op_add (pe_op op_add (pe_op op_mul (pe_ix (ix_listK K) (pv 0) pe_int (fun _ _ => rfl)) pe_int) (pv 3)) pe_int) pa_nil)) pe_int) (pg_sub (pv 0) pe_int set_list)))))) (pss_one (ps_asg (pe_op op_mod (pe_callTy call_int1 (by rfl) M.int (by decide +kernel) (pa_cons (pe_op op_add (pe_op op_mul (pe_ix (ix_listK K) (pv 0) pe_int (fun _ _ => rfl)) pe_int) pe_int) pa_nil)) pe_int) (pg_sub (pv 0) pe_int set_list))))
      (pss_one (ps_ret (pe_op op_mod (pe_op op_fdivW (pe_callTy call_int1 (by rfl) M.int (by decide +kernel) (pa_cons (pe_op op_mod (pe_op op_mul (pe_ix (ix_listK K) (pv 0) pe_int (fun _ _ => rfl)) pe_int) pe_int) pa_nil)) pe_int) (pv 1)))))), ?_⟩
    refine ⟨_, rfl, d, _, 2, .int rest, rfl, rfl, L0, at2 .., ?_⟩
    refine ⟨_, _, rfl, rfl, _, rfl, ite2 (fun e => ?_) (fun e => ?_)⟩
    · -- draw[2] > 0
      have hr0 : 0 < rest := of_decide_eq_true e
      refine ⟨_, rfl, d, _, 2, .int rest, rfl, rfl, L0, at2 .., .inl ⟨_, rfl, ?_⟩⟩
      refine ⟨_, rfl, _, _, rfl, rfl, by omega, ?_⟩
      refine ⟨_, rfl, d, _, 2, .int rest, rfl, rfl, L0, at2 .., ?_⟩
      refine ⟨_, rfl, _, _, rfl, rfl, hdv _, ?_⟩
      refine ⟨_, rfl, d, _, 2, 2, rfl, rfl, h1, rfl, ?_⟩
      refine ⟨_, rfl, ?_⟩
      have e1 := fr H (.lst ([.ref c, .int pos, .int rest, .int seed].set 2 (.int (rest / many)))) (fun _ _ => rfl)
      exact q _ _ (fF _ e1) e1 (next_aux ncd h2 rfl h0 (Int.ediv_nonneg h3 (by omega)) h4 h5) (Int.emod_nonneg _ (by omega)) (Int.emod_lt_of_pos _ (by omega))
    · refine ⟨_, rfl, d, _, 1, .int pos, rfl, rfl, L0, at1 .., ?_⟩
      refine ⟨_, rfl, d, _, 0, .ref c, rfl, rfl, L0, at0 .., ?_⟩
      refine ⟨c, _, rfl, .inl (.of h2), ?_⟩
      refine ⟨_, _, rfl, rfl, _, rfl, ite2 (fun e2 => ?_) (fun e2 => ?_)⟩
      · have hp : pos < ((ns.map V.int).length : Int) := of_decide_eq_true e2
        rw [List.length_map] at hp
        obtain ⟨i, rfl⟩ := Int.eq_ofNat_of_zero_le h0
        have hi : i < ns.length := by omega
        have hat : atI (ns.map V.int) ((i : Nat) : Int) = some (.int ns[i]) := atI_nat (by rw [List.getElem?_map, List.getElem?_eq_getElem hi]; rfl)
        -- cell = abs(..)
        refine ⟨_, rfl, d, _, 0, .ref c, rfl, rfl, L0, at0 .., ?_⟩
        refine ⟨_, rfl, d, _, 1, _, rfl, rfl, L0, at1 .., ?_⟩
        refine ⟨c, _, _, _, rfl, rfl, .of h2, hat, ?_⟩
        refine ⟨_, rfl, ?_⟩
        have hcell : (0 : Int) ≤ (if ns[i] < 0 then -ns[i] else ns[i]) := by split <;> omega
        generalize (if ns[i] < 0 then -ns[i] else ns[i]) = cell at hcell
        -- draw[1] = draw[1] + 1
        refine ⟨_, rfl, d, _, 1, _, rfl, rfl, L0, at1 .., ?_⟩
        refine ⟨_, _, rfl, rfl, ?_⟩
        refine ⟨_, rfl, d, _, 1, 1, rfl, rfl, h1, rfl, ?_⟩
        have hd1 : (upd H d (.lst ([.ref c, .int ((i : Nat) : Int), .int rest, .int seed].set 1 (.int ((i : Nat) + 1))))) d = some (.lst [.ref c, .int ((i : Nat) + 1), .int rest, .int seed]) := upd_same
        have e1 := fr H (.lst ([.ref c, .int ((i : Nat) : Int), .int rest, .int seed].set 1 (.int ((i : Nat) + 1)))) (fun _ _ => rfl)
        generalize upd H d (.lst ([.ref c, .int ((i : Nat) : Int), .int rest, .int seed].set 1 (.int ((i : Nat) + 1)))) = H1 at hd1 e1
        have h2' : H1 c = some (.lst (ns.map V.int)) := by rw [e1 c ncd]; exact h2
        -- cell >= 10 ** 18
        refine ⟨_, rfl, _, _, rfl, rfl, ⟨by decide, by decide, by decide⟩, ?_⟩
        refine ⟨_, _, rfl, rfl, _, rfl, ite2 (fun e3 => ?_) (fun e3 => ?_)⟩
        · refine ⟨_, rfl, _, rfl, _, _, rfl, rfl, hdv _, ?_⟩
          refine ⟨_, rfl, d, _, 2, 2, rfl, rfl, hd1, rfl, ?_⟩
          refine ⟨_, rfl, .inl ⟨_, rfl, ?_⟩⟩
          refine ⟨_, rfl, _, _, rfl, rfl, by omega, ?_⟩
          have e5 := fr H1 (.lst ([.ref c, .int ((i : Nat) + 1), .int rest, .int seed].set 2 (.int (cell / many)))) e1
          exact q _ _ (fF _ e5) e5 (next_aux ncd h2' rfl (by omega) (Int.ediv_nonneg hcell (by omega)) h4 h5) (Int.emod_nonneg _ (by omega)) (Int.emod_lt_of_pos _ (by omega))
        · -- draw[3] = ..
          refine ⟨_, rfl, d, _, 3, .int seed, rfl, rfl, .of hd1, at3 .., ?_⟩
          refine ⟨_, _, rfl, rfl, .inl ⟨by omega, by omega⟩, ?_⟩
          refine ⟨_, rfl, _, _, rfl, rfl, ?_⟩
          refine ⟨_, _, rfl, rfl, .inl ⟨_, rfl, ?_⟩⟩
          refine ⟨_, _, rfl, rfl, by show (0 : Int) < 2147483647; decide, ?_⟩
          refine ⟨_, rfl, d, _, 3, 3, rfl, rfl, hd1, rfl, ?_⟩
          have hs0 : 0 ≤ (seed * 48271 + cell + 11) % 2147483647 := Int.emod_nonneg _ (by decide)
          have hs1 : (seed * 48271 + cell + 11) % 2147483647 < 2147483647 := Int.emod_lt_of_pos _ (by decide)
          have e5 := fr H1 (.lst ([.ref c, .int ((i : Nat) + 1), .int rest, .int seed].set 3 (.int ((seed * 48271 + cell + 11) % 2147483647)))) e1
          have hd5 : (upd H1 d (.lst ([.ref c, .int ((i : Nat) + 1), .int rest, .int seed].set 3 (.int ((seed * 48271 + cell + 11) % 2147483647))))) d = some (.lst [.ref c, .int ((i : Nat) + 1), .int rest, .int ((seed * 48271 + cell + 11) % 2147483647)]) := upd_same
          dsimp only
          generalize (seed * 48271 + cell + 11) % 2147483647 = seed' at hs0 hs1 e5 hd5 ⊢
          refine ⟨_, rfl, d, _, 3, .int seed', rfl, rfl, .of hd5, at3 .., ?_⟩
          refine ⟨_, _, rfl, rfl, .inl ⟨by omega, by omega⟩, ?_⟩
          refine ⟨_, _, rfl, rfl, by show (0 : Int) < 2147483629; decide, .inl ⟨_, rfl, ?_⟩⟩
          refine ⟨_, _, rfl, rfl, ⟨by decide, by decide⟩, ?_⟩
          refine ⟨_, rfl, _, _, rfl, rfl, by omega, ?_⟩
          exact last seed' hs0 hs1 _ e5 ⟨_, _, hd5, by omega, h3⟩
      · -- draw[3] = ..
        refine ⟨_, rfl, d, _, 3, .int seed, rfl, rfl, L0, at3 .., ?_⟩
        refine ⟨_, _, rfl, rfl, .inl ⟨by omega, by omega⟩, ?_⟩
        refine ⟨_, _, rfl, rfl, .inl ⟨_, rfl, ?_⟩⟩
        refine ⟨_, _, rfl, rfl, by show (0 : Int) < 2147483647; decide, ?_⟩
        refine ⟨_, rfl, d, _, 3, 3, rfl, rfl, h1, rfl, ?_⟩
        have hs0 : 0 ≤ (seed * 48271 + 12345) % 2147483647 := Int.emod_nonneg _ (by decide)
        have hs1 : (seed * 48271 + 12345) % 2147483647 < 2147483647 := Int.emod_lt_of_pos _ (by decide)
        have e5 := fr H (.lst ([.ref c, .int pos, .int rest, .int seed].set 3 (.int ((seed * 48271 + 12345) % 2147483647)))) (fun _ _ => rfl)
        have hd5 : (upd H d (.lst ([.ref c, .int pos, .int rest, .int seed].set 3 (.int ((seed * 48271 + 12345) % 2147483647))))) d = some (.lst [.ref c, .int pos, .int rest, .int ((seed * 48271 + 12345) % 2147483647)]) := upd_same
        dsimp only
        generalize (seed * 48271 + 12345) % 2147483647 = seed' at hs0 hs1 e5 hd5 ⊢
        refine ⟨_, rfl, d, _, 3, .int seed', rfl, rfl, .of hd5, at3 .., ?_⟩
        refine ⟨_, _, rfl, rfl, .inl ⟨by omega, by omega⟩, ?_⟩
        refine ⟨_, _, rfl, rfl, by show (0 : Int) < 2147483629; decide, .inl ⟨_, rfl, ?_⟩⟩
        refine ⟨_, _, rfl, rfl, ⟨by decide, by decide⟩, ?_⟩
        refine ⟨_, rfl, _, _, rfl, rfl, by omega, ?_⟩
        exact last seed' hs0 hs1 _ e5 ⟨_, _, hd5, h0, h3⟩
end

/-! ### data in the heap -/
theorem SqT.ext {K : PySem.W.Frag} {H H' : Hp} {a : Addr} {xs : List V} (e : Same H H') (h : SqT K H a xs) : SqT K H' a xs := by
  rcases h with (h | ⟨o, h⟩) | h
  · exact .inl (.inl (e _ _ h))
  · exact .inl (.inr ⟨o, e _ _ h⟩)
  · exact .inr h
mutual
theorem Dp.ext {K : PySem.W.Frag} {H H' : Hp} (e : Same H H') : ∀ (d : PyData) (v : V), Dp K H v d → Dp K H' v d
  | .none, _, h => by cases h; exact .non
  | .bool b, _, h => by cases h; exact .bl b
  | .int i, _, h => by cases h; exact .int i
  | .str x, _, h => by cases h; exact .str x
  | .list ds, _, h => by
    cases h with
    | lst hs ha => exact .lst (e.seq hs) (DpAll.ext e ds _ ha)
  | .tuple ds, _, h => by
    cases h with
    | tup hs ha => exact .tup (SqT.ext e hs) (DpAll.ext e ds _ ha)
  | .dict _, _, h => by cases h
theorem DpAll.ext {K : PySem.W.Frag} {H H' : Hp} (e : Same H H') : ∀ (ds : List PyData) (vs : List V), DpAll K H vs ds → DpAll K H' vs ds
  | [], _, h => by cases h; exact .nil
  | d :: ds, _, h => by
    cases h with
    | cons h1 h2 => exact .cons (Dp.ext e d _ h1) (DpAll.ext e ds _ h2)
end
theorem DpAll.len {K : PySem.W.Frag} {H : Hp} : ∀ {ds : List PyData} {vs : List V}, DpAll K H vs ds → vs.length = ds.length
  | [], _, h => by cases h; rfl
  | d :: ds, _, h => by
    cases h with
    | cons h1 h2 => exact congrArg (· + 1) (DpAll.len h2)
theorem DpAll.get {K : PySem.W.Frag} {H : Hp} : ∀ {ds : List PyData} {vs : List V} {i : Nat} {d : PyData}, DpAll K H vs ds → ds[i]? = some d → ∃ v, vs[i]? = some v ∧ Dp K H v d
  | [], _, _, _, _, e => by simp at e
  | x :: ds, _, 0, d, h, e => by
    cases h with
    | cons h1 h2 =>
      have e1 : x = d := Option.some.inj e
      subst e1
      exact ⟨_, rfl, h1⟩
  | x :: ds, _, i + 1, d, h, e => by
    cases h with
    | cons h1 h2 =>
      obtain ⟨v, hv, hd⟩ := DpAll.get (i := i) h2 (by simpa using e)
      exact ⟨v, by simpa using hv, hd⟩
theorem tyL {K : PySem.W.Frag} {H : Hp} {a : Addr} {xs : List V} (h : SqL K H a xs) : TyX K H (.ref a) (.type "list") := by
  rcases h with (h | ⟨o, h⟩) | ⟨o, its, n, h, c, _⟩
  · exact .base (.lst h)
  · exact .base (.frz h)
  · exact .kList h c
theorem tyT {K : PySem.W.Frag} {H : Hp} {a : Addr} {xs : List V} (h : SqT K H a xs) : TyX K H (.ref a) (.type "tuple") := by
  rcases h with (h | ⟨o, h⟩) | ⟨o, its, n, h, c, _⟩
  · exact .base (.tup h)
  · exact .fTuple h
  · exact .kTuple h c
mutual
/-- no list within -/
def tupOnly : PyData → Bool
  | .list _ => false
  | .dict _ => false
  | .tuple ds => tupOnlys ds
  | _ => true
def tupOnlys : List PyData → Bool
  | [] => true
  | d :: ds => tupOnly d && tupOnlys ds
end
mutual
theorem Dp.away {K : PySem.W.Frag} {H : Hp} {D : Addr} {zs : List V} {o : HO} (hD : H D = some (.lst zs)) : ∀ (d : PyData) (v : V), tupOnly d = true → Dp K H v d → Dp K (upd H D o) v d
  | .none, _, _, h => by cases h; exact .non
  | .bool b, _, _, h => by cases h; exact .bl b
  | .int i, _, _, h => by cases h; exact .int i
  | .str x, _, _, h => by cases h; exact .str x
  | .list ds, _, e, _ => by unfold tupOnly at e; cases e
  | .tuple ds, _, e, h => by
    unfold tupOnly at e
    cases h with
    | @tup a _ _ hs ha =>
      refine .tup ?_ (DpAll.away hD ds _ e ha)
      rcases hs with (hs | ⟨o', hs⟩) | hs
      · exact .inl (.inl (by rw [upd_ne (ne_of hs hD (fun z => nomatch z))]; exact hs))
      · exact .inl (.inr ⟨o', by rw [upd_ne (ne_of hs hD (fun z => nomatch z))]; exact hs⟩)
      · exact .inr hs
  | .dict _, _, _, h => by cases h
theorem DpAll.away {K : PySem.W.Frag} {H : Hp} {D : Addr} {zs : List V} {o : HO} (hD : H D = some (.lst zs)) : ∀ (ds : List PyData) (vs : List V), tupOnlys ds = true → DpAll K H vs ds → DpAll K (upd H D o) vs ds
  | [], _, _, h => by cases h; exact .nil
  | d :: ds, _, e, h => by
    unfold tupOnlys at e
    rw [Bool.and_eq_true] at e
    cases h with
    | cons h1 h2 => exact .cons (Dp.away hD d _ e.1 h1) (DpAll.away hD ds _ e.2 h2)
end
theorem DpAll.snoc {K : PySem.W.Frag} {H : Hp} : ∀ {ds : List PyData} {xs : List V} {v : V} {d : PyData}, DpAll K H xs ds → Dp K H v d → DpAll K H (xs ++ [v]) (ds ++ [d])
  | [], _, _, _, h, h2 => by cases h; exact .cons h2 .nil
  | _ :: ds, _, _, _, h, h2 => by
    cases h with
    | cons a b => exact .cons a (DpAll.snoc b h2)
theorem at_0 {α : Type} {xs : List α} {i : Nat} {v : α} (h : xs[i]? = some v) : atI xs (0 + (i : Int)) = some v := by
  rw [Int.zero_add]
  exact atI_nat h
mutual
/-- what is made of tuples stands when another list is changed -/
theorem Dp.fd {K : PySem.W.Frag} {H H' : Hp} {D : Addr} (hD : ∃ zs, H D = some (.lst zs)) (e : Fd D H H') : ∀ (d : PyData) (v : V), tupOnly d = true → Dp K H v d → Dp K H' v d
  | .none, _, _, h => by cases h; exact .non
  | .bool b, _, _, h => by cases h; exact .bl b
  | .int i, _, _, h => by cases h; exact .int i
  | .str x, _, _, h => by cases h; exact .str x
  | .list ds, _, e, _ => by unfold tupOnly at e; cases e
  | .tuple ds, _, e', h => by
    unfold tupOnly at e'
    obtain ⟨zs, hz⟩ := hD
    cases h with
    | @tup a _ _ hs ha =>
      refine .tup ?_ (DpAll.fd ⟨zs, hz⟩ e ds _ e' ha)
      rcases hs with (hs | ⟨o', hs⟩) | hs
      · exact .inl (.inl (e _ _ (ne_of hs hz (fun z => nomatch z)) hs))
      · exact .inl (.inr ⟨o', e _ _ (ne_of hs hz (fun z => nomatch z)) hs⟩)
      · exact .inr hs
  | .dict _, _, _, h => by cases h
theorem DpAll.fd {K : PySem.W.Frag} {H H' : Hp} {D : Addr} (hD : ∃ zs, H D = some (.lst zs)) (e : Fd D H H') : ∀ (ds : List PyData) (vs : List V), tupOnlys ds = true → DpAll K H vs ds → DpAll K H' vs ds
  | [], _, _, h => by cases h; exact .nil
  | d :: ds, _, e', h => by
    unfold tupOnlys at e'
    rw [Bool.and_eq_true] at e'
    cases h with
    | cons h1 h2 => exact .cons (Dp.fd hD e d _ e'.1 h1) (DpAll.fd hD e ds _ e'.2 h2)
end

/-! ### diagrams as trees -/
inductive Bd where
  | lf (b : Bool)
  | nd (e : Int) (w t : Bd)
deriving DecidableEq
def Bd.ev : Bd → (Int → Bool) → Bool
  | .lf b, _ => b
  | .nd e w t, r => if r e = true then t.ev r else w.ev r
/-- its questions ascend, they are all of the list; both sides of a node differ -/
inductive Wf : List Int → Bd → Prop
  | lf {es b} : Wf es (.lf b)
  | here {x es w t} : Wf es w → Wf es t → w ≠ t → Wf (x :: es) (.nd x w t)
  | skip {x es a} : Wf es a → Wf (x :: es) a
def setR (r : Int → Bool) (x : Int) (b : Bool) : Int → Bool := fun y => if y = x then b else r y
theorem setR_same (r : Int → Bool) (x : Int) (b : Bool) : setR r x b x = b := if_pos rfl
theorem setR_ne {r : Int → Bool} {x y : Int} {b : Bool} (h : y ≠ x) : setR r x b y = r y := if_neg h
theorem Wf.away {es : List Int} {a : Bd} (h : Wf es a) : ∀ {x : Int} {b : Bool} {r : Int → Bool}, x ∉ es → a.ev (setR r x b) = a.ev r := by
  induction h with
  | lf => intros; rfl
  | @here y es w t _ _ _ iw it =>
    intro x b r hx
    rw [List.mem_cons, not_or] at hx
    show (if setR r x b y = true then t.ev (setR r x b) else w.ev (setR r x b)) = if r y = true then t.ev r else w.ev r
    rw [setR_ne (Ne.symm hx.1), iw hx.2, it hx.2]
  | @skip y es a _ ih =>
    intro x b r hx
    rw [List.mem_cons, not_or] at hx
    exact ih hx.2
/-- both sides at the question x, which no other one comes ahead of -/
def Bd.cw (x : Int) : Bd → Bd
  | .nd e w t => if e = x then w else .nd e w t
  | a => a
def Bd.ct (x : Int) : Bd → Bd
  | .nd e w t => if e = x then t else .nd e w t
  | a => a
theorem Wf.none_of {es : List Int} {x : Int} {w t : Bd} (h : Wf es (.nd x w t)) : x ∈ es := by
  generalize e : Bd.nd x w t = a at h
  induction h with
  | lf => cases e
  | here _ _ _ => cases e; exact List.mem_cons_self
  | skip _ ih => exact List.mem_cons_of_mem _ (ih e)
theorem Wf.cw {x : Int} {es : List Int} {a : Bd} (hx : x ∉ es) (h : Wf (x :: es) a) : Wf es (a.cw x) ∧ ∀ r, (a.cw x).ev r = a.ev (setR r x false) := by
  cases h with
  | lf => exact ⟨.lf, fun _ => rfl⟩
  | @here _ _ w t hw ht hn =>
    have e1 : (Bd.nd x w t).cw x = w := if_pos rfl
    rw [e1]
    refine ⟨hw, fun r => ?_⟩
    show _ = if setR r x false x = true then _ else _
    rw [setR_same, if_neg Bool.false_ne_true, hw.away hx]
  | skip h =>
    have e : a.cw x = a := by
      cases a with
      | lf b => rfl
      | nd y w t =>
        have hy := h.none_of
        exact if_neg (fun (z : y = x) => hx (z ▸ hy))
    rw [e]
    exact ⟨h, fun r => (h.away hx).symm⟩
theorem Wf.ct {x : Int} {es : List Int} {a : Bd} (hx : x ∉ es) (h : Wf (x :: es) a) : Wf es (a.ct x) ∧ ∀ r, (a.ct x).ev r = a.ev (setR r x true) := by
  cases h with
  | lf => exact ⟨.lf, fun _ => rfl⟩
  | @here _ _ w t hw ht hn =>
    have e1 : (Bd.nd x w t).ct x = t := if_pos rfl
    rw [e1]
    refine ⟨ht, fun r => ?_⟩
    show _ = if setR r x true x = true then _ else _
    rw [setR_same, if_pos rfl, ht.away hx]
  | skip h =>
    have e : a.ct x = a := by
      cases a with
      | lf b => rfl
      | nd y w t =>
        have hy := h.none_of
        exact if_neg (fun (z : y = x) => hx (z ▸ hy))
    rw [e]
    exact ⟨h, fun r => (h.away hx).symm⟩
theorem Wf.cwt_eq {x : Int} {es : List Int} {a : Bd} (hx : x ∉ es) (h : Wf (x :: es) a) : (a.cw x = a.ct x ↔ Wf es a) ∧ (a.cw x = a.ct x → a.cw x = a) ∧ (a.cw x ≠ a.ct x → a = .nd x (a.cw x) (a.ct x)) := by
  have key : ∀ {a : Bd}, Wf es a → a.cw x = a ∧ a.ct x = a := fun {a} h => by
    cases a with
    | lf b => exact ⟨rfl, rfl⟩
    | nd y w t =>
      have hy := h.none_of
      exact ⟨if_neg (fun (z : y = x) => hx (z ▸ hy)), if_neg (fun (z : y = x) => hx (z ▸ hy))⟩
  cases h with
  | lf => exact ⟨⟨fun _ => .lf, fun _ => rfl⟩, fun _ => rfl, fun n => absurd rfl n⟩
  | @here _ _ w t hw ht hn =>
    have e1 : (Bd.nd x w t).cw x = w := if_pos rfl
    have e2 : (Bd.nd x w t).ct x = t := if_pos rfl
    rw [e1, e2]
    exact ⟨⟨fun e => absurd e hn, fun h => absurd h.none_of hx⟩, fun e => absurd e hn, fun _ => rfl⟩
  | skip h =>
    obtain ⟨e1, e2⟩ := key h
    rw [e1, e2]
    exact ⟨⟨fun _ => h, fun _ => rfl⟩, fun _ => rfl, fun n => absurd rfl n⟩
/-- just one diagram for each condition -/
theorem canon : ∀ {es : List Int} {a b : Bd}, es.Nodup → Wf es a → Wf es b → (∀ r, a.ev r = b.ev r) → a = b
  | [], a, b, _, ha, hb, h => by
    cases ha
    cases hb
    exact congrArg Bd.lf (h fun _ => false)
  | x :: es, a, b, hn, ha, hb, h => by
    rw [List.nodup_cons] at hn
    have w := canon hn.2 (ha.cw hn.1).1 (hb.cw hn.1).1 fun r => by rw [(ha.cw hn.1).2, (hb.cw hn.1).2, h]
    have t := canon hn.2 (ha.ct hn.1).1 (hb.ct hn.1).1 fun r => by rw [(ha.ct hn.1).2, (hb.ct hn.1).2, h]
    obtain ⟨_, ea, na⟩ := ha.cwt_eq hn.1
    obtain ⟨_, eb, nb⟩ := hb.cwt_eq hn.1
    by_cases e : a.cw x = a.ct x
    · rw [← ea e, ← eb (by rw [← w, ← t, e]), w]
    · rw [na e, nb (by rw [← w, ← t]; exact e), w, t]
/-- a node, or what both sides are -/
def mkB (x : Int) (w t : Bd) : Bd := if w = t then w else .nd x w t
theorem mkB_wf {x : Int} {es : List Int} {w t : Bd} (hw : Wf es w) (ht : Wf es t) : Wf (x :: es) (mkB x w t) := by
  unfold mkB
  split
  · exact .skip hw
  · exact .here hw ht ‹_›
theorem mkB_ev {x : Int} {w t : Bd} (r : Int → Bool) : (mkB x w t).ev r = if r x = true then t.ev r else w.ev r := by
  unfold mkB
  split
  · rename_i h
    subst h
    split <;> rfl
  · rfl
/-! ### diagrams in a store: its nodes by their places -/
abbrev Nds := List (Int × Nat × Nat)
inductive At (N : Nds) : Nat → Bd → Prop
  | f : At N 0 (.lf false)
  | t : At N 1 (.lf true)
  | nd {k : Nat} {e : Int} {w t : Nat} {a b : Bd} : N[k]? = some (e, w, t) → At N w a → At N t b → At N (k + 2) (.nd e a b)
theorem At.mono {N M : Nds} {c : Nat} {a : Bd} (h : At N c a) : At (N ++ M) c a := by
  induction h with
  | f => exact .f
  | t => exact .t
  | nd hk _ _ ia ib => exact .nd (by rw [List.getElem?_append_left (List.getElem?_eq_some_iff.mp hk).1]; exact hk) ia ib
theorem At.fn {N : Nds} {c : Nat} {a : Bd} (h : At N c a) : ∀ {b : Bd}, At N c b → a = b := by
  induction h with
  | f => intro b hb; cases hb; rfl
  | t => intro b hb; cases hb; rfl
  | nd hk _ _ ia ib =>
    intro b hb
    cases hb with
    | nd hk2 ha2 hb2 =>
      have e := Option.some.inj (hk.symm.trans hk2)
      cases e
      have e1 := ia ha2
      have e2 := ib hb2
      rw [e1, e2]
theorem nodup_at {α : Type} : ∀ {l : List α} {i j : Nat} {x : α}, l.Nodup → l[i]? = some x → l[j]? = some x → i = j
  | [], _, _, _, _, h, _ => by simp at h
  | y :: l, 0, 0, _, _, _, _ => rfl
  | y :: l, 0, j + 1, x, hn, h1, h2 => by
    rw [List.nodup_cons] at hn
    have e : y = x := Option.some.inj h1
    have h2 : l[j]? = some x := by simpa using h2
    exact absurd (e ▸ List.mem_of_getElem? h2) hn.1
  | y :: l, i + 1, 0, x, hn, h1, h2 => by
    rw [List.nodup_cons] at hn
    have e : y = x := Option.some.inj h2
    have h1 : l[i]? = some x := by simpa using h1
    exact absurd (e ▸ List.mem_of_getElem? h1) hn.1
  | y :: l, i + 1, j + 1, x, hn, h1, h2 => by
    rw [List.nodup_cons] at hn
    exact congrArg (· + 1) (nodup_at hn.2 (by simpa using h1) (by simpa using h2))
theorem At.inj {N : Nds} (hn : N.Nodup) {c : Nat} {a : Bd} (h : At N c a) : ∀ {d : Nat}, At N d a → c = d := by
  induction h with
  | f => intro d hd; cases hd; rfl
  | t => intro d hd; cases hd; rfl
  | nd hk _ _ ia ib =>
    intro d hd
    cases hd with
    | nd hk2 ha2 hb2 =>
      have e1 := ia ha2
      have e2 := ib hb2
      subst e1 e2
      rw [nodup_at hn hk hk2]
theorem At.lt {N : Nds} {c : Nat} {a : Bd} (h : At N c a) : c < N.length + 2 := by
  cases h with
  | f => omega
  | t => omega
  | nd hk _ _ => have := (List.getElem?_eq_some_iff.mp hk).1; omega
theorem At.leaf {N : Nds} {c : Nat} {b : Bool} (h : At N c (.lf b)) : c = if b = true then 1 else 0 := by cases h <;> rfl
theorem At.ge {N : Nds} {c : Nat} {a : Bd} (h : At N c a) (h2 : 2 ≤ c) : ∃ e w t a1 b1, N[c - 2]? = some (e, w, t) ∧ At N w a1 ∧ At N t b1 ∧ a = .nd e a1 b1 := by
  cases h with
  | f => omega
  | t => omega
  | nd hk ha hb => exact ⟨_, _, _, _, _, hk, ha, hb, rfl⟩

/-! ### a store of diagrams in the heap -/
/-! ### what is made of tuples stands where all tuples stand -/
theorem SqT.tsn {K : PySem.W.Frag} {H H' : Hp} {a : Addr} {xs : List V} (e : ∀ b o, (∃ ys, o = HO.tup ys) ∨ (∃ q u, o = HO.frz q u) → H b = some o → H' b = some o) (h : SqT K H a xs) : SqT K H' a xs := by
  rcases h with (h | ⟨o, h⟩) | h
  · exact .inl (.inl (e _ _ (.inl ⟨_, rfl⟩) h))
  · exact .inl (.inr ⟨o, e _ _ (.inr ⟨_, _, rfl⟩) h⟩)
  · exact .inr h
mutual
/-- what is made of tuples stands where all tuples stand -/
theorem Dp.tsn {K : PySem.W.Frag} {H H' : Hp} (e : ∀ b o, (∃ ys, o = HO.tup ys) ∨ (∃ q u, o = HO.frz q u) → H b = some o → H' b = some o) : ∀ (d : PyData) (v : V), tupOnly d = true → Dp K H v d → Dp K H' v d
  | .none, _, _, h => by cases h; exact .non
  | .bool b, _, _, h => by cases h; exact .bl b
  | .int i, _, _, h => by cases h; exact .int i
  | .str x, _, _, h => by cases h; exact .str x
  | .list ds, _, e', _ => by unfold tupOnly at e'; cases e'
  | .tuple ds, _, e', h => by
    unfold tupOnly at e'
    cases h with
    | tup hs ha => exact .tup (SqT.tsn e hs) (DpAll.tsn e ds _ e' ha)
  | .dict _, _, _, h => by cases h
theorem DpAll.tsn {K : PySem.W.Frag} {H H' : Hp} (e : ∀ b o, (∃ ys, o = HO.tup ys) ∨ (∃ q u, o = HO.frz q u) → H b = some o → H' b = some o) : ∀ (ds : List PyData) (vs : List V), tupOnlys ds = true → DpAll K H vs ds → DpAll K H' vs ds
  | [], _, _, h => by cases h; exact .nil
  | d :: ds, _, e', h => by
    unfold tupOnlys at e'
    rw [Bool.and_eq_true] at e'
    cases h with
    | cons h1 h2 => exact .cons (Dp.tsn e d _ e'.1 h1) (DpAll.tsn e ds _ e'.2 h2)
end

/-- the instance, its list, its two dicts -/
structure SA where
  p : Addr
  k : Addr
  u : Addr
  m : Addr
def sfl (s : SA) : List (Str × V) := [("kept", .ref s.k), ("numbers", .ref s.u), ("combined", .ref s.m)]
theorem sf_kept (s : SA) : (sfl s).lookup ("kept" : Str) = some (.ref s.k) := rfl
theorem sf_num (s : SA) : (sfl s).lookup ("numbers" : Str) = some (.ref s.u) := rfl
theorem sf_comb (s : SA) : (sfl s).lookup ("combined" : Str) = some (.ref s.m) := rfl
theorem sf_no (s : SA) {m : Str} (h1 : (m == ("kept" : Str)) = false) (h2 : (m == ("numbers" : Str)) = false) (h3 : (m == ("combined" : Str)) = false) : (sfl s).lookup m = none := by
  unfold sfl
  simp only [List.lookup, h1, h2, h3]
/-- what stood stands, but for the store's list and dicts -/
def FdS (s : SA) (H H' : Hp) : Prop := ∀ b o, b ≠ s.k → b ≠ s.u → b ≠ s.m → H b = some o → H' b = some o
theorem FdS.refl (s : SA) (H : Hp) : FdS s H H := fun _ _ _ _ _ h => h
theorem FdS.trans {s : SA} {H H1 H2 : Hp} (a : FdS s H H1) (b : FdS s H1 H2) : FdS s H H2 := fun x o h1 h2 h3 h => b x o h1 h2 h3 (a x o h1 h2 h3 h)
theorem FdS.of {s : SA} {H H' : Hp} (a : Same H H') : FdS s H H' := fun x o _ _ _ h => a x o h
def nD (n : Int × Nat × Nat) : PyData := .tuple [.int n.1, .int (n.2.1 : Nat), .int (n.2.2 : Nat)]
theorem nD_only : ∀ N : Nds, tupOnlys (N.map nD) = true
  | [] => rfl
  | n :: N => by
    rw [List.map_cons]
    unfold tupOnlys
    rw [nD_only N]
    rfl
abbrev ky3 (a b c : Int) : List Key := [.inl a, .inl b, .inl c]
def NumsOk (N : Nds) (kvs : List (List Key × V)) : Prop := (∀ (e : Int) (w t : Nat), valV kvs (ky3 e w t) = none → (e, w, t) ∉ N) ∧ ∀ (e : Int) (w t : Nat) v, valV kvs (ky3 e w t) = some v → ∃ i : Nat, N[i]? = some (e, w, t) ∧ v = .int ((i + 2 : Nat) : Int)
/-- the diagram that is one of two, where a third one holds -/
def IsIte (es : List Int) (a b c d : Bd) : Prop := Wf es d ∧ ∀ r, d.ev r = if a.ev r = true then b.ev r else c.ev r
def MemoOk (N : Nds) (es : List Int) (cvs : List (List Key × V)) : Prop := ∀ (c a b : Nat) v, valV cvs (ky3 c a b) = some v → ∃ (r : Nat) (A B C T : Bd), v = .int (r : Int) ∧ At N c A ∧ At N a B ∧ At N b C ∧ At N r T ∧ IsIte es A B C T
def Sto (C : Addr) (K : PySem.W.Frag) (H : Hp) (s : SA) (N : Nds) (es : List Int) (L : Nat) : Prop :=
  (∃ dx, H s.p = some (.ins C dx (sfl s))) ∧ (∃ xs, H s.k = some (.lst xs) ∧ DpAll K H xs (N.map nD)) ∧ (∃ kvs, H s.u = some (.dT kvs) ∧ kvs.length ≤ N.length ∧ NumsOk N kvs) ∧
    (∃ cvs, H s.m = some (.dT cvs) ∧ cvs.length ≤ L ∧ MemoOk N es cvs) ∧ N.Nodup ∧ s.u ≠ s.m ∧ es.Pairwise (· < ·)
section
variable {C : Addr} {K : PySem.W.Frag} {H H' : Hp} {s : SA} {N : Nds} {es : List Int} {L : Nat}
theorem Sto.ins (h : Sto C K H s N es L) : ∃ dx, H s.p = some (.ins C dx (sfl s)) := h.1
theorem Sto.nd (h : Sto C K H s N es L) : N.Nodup := h.2.2.2.2.1
theorem Sto.srt (h : Sto C K H s N es L) : es.Pairwise (· < ·) := h.2.2.2.2.2.2
theorem Sto.es_nd (h : Sto C K H s N es L) : es.Nodup := h.srt.imp fun h => by omega
theorem Sto.ext (e : Same H H') (h : Sto C K H s N es L) : Sto C K H' s N es L := by
  obtain ⟨⟨dx, h1⟩, ⟨xs, h2, h3⟩, ⟨kvs, h4, h5⟩, ⟨cvs, h6, h7⟩, h8⟩ := h
  exact ⟨⟨dx, e _ _ h1⟩, ⟨xs, e _ _ h2, DpAll.ext e _ _ h3⟩, ⟨kvs, e _ _ h4, h5⟩, ⟨cvs, e _ _ h6, h7⟩, h8⟩
theorem Sto.tup (h : Sto C K H s N es L) (f : FdS s H H') : ∀ b o, (∃ ys, o = HO.tup ys) ∨ (∃ q u, o = HO.frz q u) → H b = some o → H' b = some o := by
  obtain ⟨_, ⟨xs, h2, _⟩, ⟨kvs, h4, _⟩, ⟨cvs, h6, _⟩, _⟩ := h
  rintro b o (⟨ys, rfl⟩ | ⟨q, u, rfl⟩) hb
  · exact f _ _ (ne_of hb h2 (fun z => nomatch z)) (ne_of hb h4 (fun z => nomatch z)) (ne_of hb h6 (fun z => nomatch z)) hb
  · exact f _ _ (ne_of hb h2 (fun z => nomatch z)) (ne_of hb h4 (fun z => nomatch z)) (ne_of hb h6 (fun z => nomatch z)) hb
theorem Sto.dp (h : Sto C K H s N es L) (f : FdS s H H') {d : PyData} {v : V} (ht : tupOnly d = true) (hd : Dp K H v d) : Dp K H' v d := Dp.tsn (h.tup f) d v ht hd
theorem Sto.at (h : Sto C K H s N es L) {c : Nat} {n : Int × Nat × Nat} (h2 : 2 ≤ c) (hn : N[c - 2]? = some n) : ∃ dx xs q, H s.p = some (.ins C dx (sfl s)) ∧ SqL K H s.k xs ∧ atI xs ((c : Int) - 2) = some (.ref q) ∧ SqT K H q [.int n.1, .int (n.2.1 : Nat), .int (n.2.2 : Nat)] := by
  obtain ⟨⟨dx, h1⟩, ⟨xs, h3, h4⟩, _⟩ := h
  obtain ⟨v, hv, hd⟩ := DpAll.get h4 (show (N.map nD)[c - 2]? = some (nD n) by rw [List.getElem?_map, hn]; rfl)
  have e : (c : Int) - 2 = ((c - 2 : Nat) : Int) := by omega
  cases hd with
  | @tup q _ _ hs ha =>
    cases ha with
    | cons g1 g2 =>
      cases g1
      cases g2 with
      | cons g3 g4 =>
        cases g3
        cases g4 with
        | cons g5 g6 =>
          cases g5
          cases g6
          exact ⟨dx, xs, q, h1, .of h3, by rw [e]; exact atI_nat hv, hs⟩
end
theorem NumsOk.snoc {N : Nds} {kvs : List (List Key × V)} (h : NumsOk N kvs) {e : Int} {w t : Nat} (hn : valV kvs (ky3 e w t) = none) : NumsOk (N ++ [(e, w, t)]) (putK kvs (ky3 e w t) (.int ((N.length + 2 : Nat) : Int))) := by
  have inj : ∀ {e' : Int} {w' t' : Nat}, ky3 e' w' t' = ky3 e w t → (e', w', t') = (e, w, t) := by
    intro e' w' t' h
    injection h with h1 h2
    injection h2 with h2 h3
    injection h3 with h3 _
    injection h1 with h1
    injection h2 with h2
    injection h3 with h3
    have : w' = w := by omega
    have : t' = t := by omega
    subst_vars
    rfl
  refine ⟨fun e' w' t' h' hm => ?_, fun e' w' t' v h' => ?_⟩
  · rw [valV_put] at h'
    split at h'
    · cases h'
    · rename_i hne
      rcases List.mem_append.mp hm with hm | hm
      · exact h.1 _ _ _ h' hm
      · rw [List.mem_singleton] at hm
        cases hm
        exact hne rfl
  · rw [valV_put] at h'
    split at h'
    · rename_i he
      cases inj he
      refine ⟨N.length, by rw [List.getElem?_append_right (Nat.le_refl _), Nat.sub_self]; rfl, ?_⟩
      exact (Option.some.inj h').symm
    · obtain ⟨i, hi, hv⟩ := h.2 _ _ _ _ h'
      exact ⟨i, by rw [List.getElem?_append_left (List.getElem?_eq_some_iff.mp hi).1]; exact hi, hv⟩
theorem MemoOk.mono {N M : Nds} {es : List Int} {cvs : List (List Key × V)} (h : MemoOk N es cvs) : MemoOk (N ++ M) es cvs := fun c a b v hv => by
  obtain ⟨r, A, B, C, T, e, h1, h2, h3, h4, h5⟩ := h c a b v hv
  exact ⟨r, A, B, C, T, e, h1.mono, h2.mono, h3.mono, h4.mono, h5⟩
theorem MemoOk.put {N : Nds} {es : List Int} {cvs : List (List Key × V)} (h : MemoOk N es cvs) {c a b r : Nat} {A B C T : Bd} (h1 : At N c A) (h2 : At N a B) (h3 : At N b C) (h4 : At N r T) (h5 : IsIte es A B C T) : MemoOk N es (putK cvs (ky3 c a b) (.int (r : Int))) := fun c' a' b' v hv => by
  rw [valV_put] at hv
  split at hv
  · rename_i he
    injection he with e1 e2
    injection e2 with e2 e3
    injection e3 with e3 _
    injection e1 with e1
    injection e2 with e2
    injection e3 with e3
    have e1 : c' = c := by omega
    have e2 : a' = a := by omega
    have e3 : b' = b := by omega
    subst e1 e2 e3
    exact ⟨r, A, B, C, T, (Option.some.inj hv).symm, h1, h2, h3, h4, h5⟩
  · exact h _ _ _ _ hv
/-! ### what both sides give -/
theorem Wf.skips {es : List Int} {a : Bd} (h : Wf es a) : ∀ pre : List Int, Wf (pre ++ es) a
  | [] => h
  | _ :: pre => .skip (h.skips pre)
theorem ite_step {x : Int} {es : List Int} {a b c t1 t2 : Bd} (hx : x ∉ es) (ha : Wf (x :: es) a) (hb : Wf (x :: es) b) (hc : Wf (x :: es) c) (h1 : IsIte es (a.cw x) (b.cw x) (c.cw x) t1) (h2 : IsIte es (a.ct x) (b.ct x) (c.ct x) t2) : IsIte (x :: es) a b c (mkB x t1 t2) := by
  refine ⟨mkB_wf h1.1 h2.1, fun r => ?_⟩
  have hs : ∀ v, r x = v → setR r x v = r := fun v e => by
    funext y
    by_cases hy : y = x
    · subst hy
      rw [setR_same, e]
    · rw [setR_ne hy]
  rw [mkB_ev]
  cases e : r x with
  | true => rw [if_pos rfl, h2.2, (ha.ct hx).2, (hb.ct hx).2, (hc.ct hx).2, hs _ e]
  | false => rw [if_neg Bool.false_ne_true, h1.2, (ha.cw hx).2, (hb.cw hx).2, (hc.cw hx).2, hs _ e]
/-- there is one -/
theorem ite_ex : ∀ {es : List Int} {a b c : Bd}, es.Nodup → Wf es a → Wf es b → Wf es c → ∃ t, IsIte es a b c t
  | [], a, b, c, _, ha, hb, hc => by
    cases ha with
    | @lf _ v =>
      cases v with
      | true => exact ⟨b, hb, fun _ => (if_pos rfl).symm⟩
      | false => exact ⟨c, hc, fun _ => (if_neg Bool.false_ne_true).symm⟩
  | x :: es, a, b, c, hn, ha, hb, hc => by
    rw [List.nodup_cons] at hn
    obtain ⟨t1, h1⟩ := ite_ex hn.2 (ha.cw hn.1).1 (hb.cw hn.1).1 (hc.cw hn.1).1
    obtain ⟨t2, h2⟩ := ite_ex hn.2 (ha.ct hn.1).1 (hb.ct hn.1).1 (hc.ct hn.1).1
    exact ⟨_, ite_step hn.1 ha hb hc h1 h2⟩
theorem ite_low {pre es : List Int} {a b c t : Bd} (hn : (pre ++ es).Nodup) (ha : Wf es a) (hb : Wf es b) (hc : Wf es c) (h : IsIte (pre ++ es) a b c t) : IsIte es a b c t := by
  obtain ⟨t', h'⟩ := ite_ex (List.nodup_append.mp hn).2.1 ha hb hc
  have e := canon hn h.1 (h'.1.skips pre) fun r => by rw [h.2, h'.2]
  rw [e]
  exact h'
theorem IsIte.skips {es : List Int} {a b c t : Bd} (pre : List Int) (h : IsIte es a b c t) : IsIte (pre ++ es) a b c t := ⟨h.1.skips pre, h.2⟩
/-- the question of the first one that has one -/
theorem top_ex : ∀ {es : List Int} {cs : List Bd}, (∀ a ∈ cs, Wf es a) → (∃ a ∈ cs, ∀ b, a ≠ .lf b) → ∃ pre x rest, es = pre ++ x :: rest ∧ (∀ a ∈ cs, Wf (x :: rest) a) ∧ ∃ w t, Bd.nd x w t ∈ cs
  | [], cs, h, ⟨a, ha, hn⟩ => by
    have := h a ha
    cases this
    exact absurd rfl (hn _)
  | x :: es, cs, h, hex => by
    by_cases hx : ∃ w t, Bd.nd x w t ∈ cs
    · exact ⟨[], x, es, rfl, h, hx⟩
    · have h' : ∀ a ∈ cs, Wf es a := fun a ha => by
        cases h a ha with
        | lf => exact .lf
        | here _ _ _ => exact absurd ⟨_, _, ha⟩ hx
        | skip h => exact h
      obtain ⟨pre, y, rest, e, h1, h2⟩ := top_ex h' hex
      exact ⟨x :: pre, y, rest, by rw [e]; rfl, h1, h2⟩
theorem Wf.head {es : List Int} {x : Int} {w t : Bd} (h : Wf es (.nd x w t)) : x ∈ es := h.none_of

/-! ### methods, defs that a name holds, instances -/
structure ClM (P : Program) (w : World) (K : PySem.W.Frag) (mg : Str → Option Value) (base : Heap) (k : Nat) (C : Addr) (m : Str) (sp : Sp) : Prop where
  ex : ∃ (f : Addr) (fd : FuncData) (ps : List Str), FnOk P w K mg base CX0 k f fd ps sp ∧ Meth K C m f ∧ Cls K C ∧ Binds K fd ps []
structure ClC (P : Program) (w : World) (K : PySem.W.Frag) (mg : Str → Option Value) (base : Heap) (k : Nat) (x : Str) (C : Addr) (sp : Sp) : Prop where
  ex : ∃ (f : Addr) (fd : FuncData) (ps : List Str), FnOk P w K mg base CX0 k f fd ps sp ∧ Mk K C f ∧ mg x = some (.ref C) ∧ Binds K fd ps []
theorem FnOk.clm {P : Program} {w : World} {K : PySem.W.Frag} {mg : Str → Option Value} {base : Heap} {k : Nat} {C : Addr} {m : Str} {f : Addr} {fd : FuncData} {ps : List Str} {sp : Sp} (h : FnOk P w K mg base CX0 k f fd ps sp) (mt : Meth K C m f) (cl : Cls K C) (b : Binds K fd ps []) : ClM P w K mg base k C m sp := ⟨f, fd, ps, h, mt, cl, b⟩
section
variable {X : Cx} {k j i : Nat} {m x : Str} {C : Addr} {sp : Sp} {p pos apos : Pos} {o e : Expr} {es : List Expr} {t : TA} {ta : TE}
theorem pe_mt {pl : Sem Bool} (c : ClM X.prog X.w X.K X.mg X.base k C m sp) (hr : Room j X.A) (hk : k ≤ j) (he : PE X o ta) (ha : PA X (e :: es) t) (hst : starEach (e :: es) X.env = (false, eval e X.env) :: starEach es X.env := by rfl) (hpl : (backTo pos (starEach es X.env)).any (·.1) = false := by rfl)
    (ht : eval (.Call (.Attribute o m apos) (e :: es) [] pos) X.env = (do let ov ← eval o X.env; standAt apos.atName; let (f, first) ← holding [ov] (getMethod ov m pl); callWith pos f first (backTo pos (starEach (e :: es) X.env)) (backToKw pos (keywordEach [] X.env))) := by rfl) : PE X (.Call (.Attribute o m apos) (e :: es) [] pos) (tMeth C m sp [] E0 ta t) := by
  obtain ⟨f, fd, ps, F, hm, cl, b⟩ := c.ex
  exact pe_meth he cl hm F (hr.mono hk) b .nil pass0 ha hst hpl ht
theorem pe_mt0 {pl : Sem Bool} (c : ClM X.prog X.w X.K X.mg X.base k C m sp) (hr : Room j X.A) (hk : k ≤ j) (he : PE X o ta)
    (ht : eval (.Call (.Attribute o m apos) [] [] pos) X.env = (do let ov ← eval o X.env; standAt apos.atName; let (f, first) ← holding [ov] (getMethod ov m pl); callWith pos f first (backTo pos (starEach [] X.env)) (backToKw pos (keywordEach [] X.env))) := by rfl) : PE X (.Call (.Attribute o m apos) [] [] pos) (tMeth C m sp [] E0 ta tNil) := by
  obtain ⟨f, fd, ps, F, hm, cl, b⟩ := c.ex
  exact pe_meth0 he cl hm F (hr.mono hk) b .nil pass0 ht
theorem pe_mk (c : ClC X.prog X.w X.K X.mg X.base k x C sp) (hr : Room j X.A) (hk : k + 1 ≤ j) (hg : L2.Gl X x) (ha : PA X (e :: es) t) (hdb : (x == ("__debug__" : Str)) = false := by decide) (he : starEach (e :: es) X.env = (false, eval e X.env) :: starEach es X.env := by rfl) (hpl : (backTo pos (starEach es X.env)).any (·.1) = false := by rfl) : PE X (.Call (.Name x p) (e :: es) [] pos) (tMake C sp [] E0 t) := by
  obtain ⟨f, fd, ps, F, M, hm, b⟩ := c.ex
  exact pe_make M F (hr.mono hk) hg hm b .nil pass0 ha hdb he hpl
theorem pe_mk0 (c : ClC X.prog X.w X.K X.mg X.base k x C sp) (hr : Room j X.A) (hk : k + 1 ≤ j) (hg : L2.Gl X x) (hdb : (x == ("__debug__" : Str)) = false := by decide) : PE X (.Call (.Name x p) [] [] pos) (tMake C sp [] E0 tNil) := by
  obtain ⟨f, fd, ps, F, M, hm, b⟩ := c.ex
  exact pe_make0 M F (hr.mono hk) hg hm b .nil pass0 hdb
end

/-! ### the store's methods -/
structure DgC (K : PySem.W.Frag) (C : Addr) (mg : Str → Option Value) : Prop where
  cl : Cls K C
  nK : NoAttr K C "kept"
  nN : NoAttr K C "numbers"
  nM : NoAttr K C "combined"
  NEVER : ∃ u, mg "NEVER" = some u ∧ RelV (.int 0) u
  ALWAYS : ∃ u, mg "ALWAYS" = some u ∧ RelV (.int 1) u
  FIRST_NODE : ∃ u, mg "FIRST_NODE" = some u ∧ RelV (.int 2) u
theorem Sto.go {C : Addr} {K : PySem.W.Frag} {H : Hp} {s : SA} {N : Nds} {es : List Int} {L : Nat} (h : Sto C K H s N es L) {m : Str} (h1 : (m == ("kept" : Str)) = false) (h2 : (m == ("numbers" : Str)) = false) (h3 : (m == ("combined" : Str)) = false) {R : Prop} (r : R) : ∃ a dx fs, V.ref s.p = .ref a ∧ H a = some (.ins C dx fs) ∧ fs.lookup m = none ∧ R := by
  obtain ⟨dx, hp⟩ := h.ins
  exact ⟨s.p, dx, _, rfl, hp, sf_no s h1 h2 h3, r⟩
def sp_nof (C : Addr) (K : PySem.W.Frag) : Sp := fun vs H Q _ => ∃ s N es L c n, vs = [.ref s.p, .int ((c : Nat) : Int)] ∧ Sto C K H s N es L ∧ 2 ≤ c ∧ N[c - 2]? = some n ∧ ∀ q, SqT K H q [.int n.1, .int (n.2.1 : Nat), .int (n.2.2 : Nat)] → Q (.ref q) H
def sp_node (C : Addr) (K : PySem.W.Frag) : Sp := fun vs H Q _ => ∃ s N es L x w t W T, vs = [.ref s.p, .int x, .int ((w : Nat) : Int), .int ((t : Nat) : Int)] ∧ Sto C K H s N es L ∧ At N w W ∧ At N t T ∧ N.length + 1 < sizeLine ∧
  ∀ H' M r, FdS s H H' → M.length ≤ 1 → Sto C K H' s (N ++ M) es L → At (N ++ M) r (mkB x W T) → Q (.int ((r : Nat) : Int)) H'
def sp_top (C : Addr) (K : PySem.W.Frag) : Sp := fun vs H Q _ => ∃ s N es L pre es' a, ∃ cs : List (Nat × Bd), vs = [.ref s.p, .ref a] ∧ Sto C K H s N es L ∧ SqT K H a (cs.map fun c => .int ((c.1 : Nat) : Int)) ∧ es = pre ++ es' ∧ cs.length ≤ 3 ∧ (∀ c ∈ cs, At N c.1 c.2 ∧ Wf es' c.2) ∧ (∃ c ∈ cs, 2 ≤ c.1) ∧
  ∀ H' pre2 x es2, Same H H' → es' = pre2 ++ x :: es2 → (∀ c ∈ cs, Wf (x :: es2) c.2) → Q (.int x) H'
def sp_bra (C : Addr) (K : PySem.W.Frag) : Sp := fun vs H Q _ => ∃ s N es L x es2 c A, vs = [.ref s.p, .int ((c : Nat) : Int), .int x] ∧ Sto C K H s N es L ∧ At N c A ∧ Wf (x :: es2) A ∧ x ∉ es2 ∧
  ∀ H' q w t, Same H H' → H' q = some (.tup [.int ((w : Nat) : Int), .int ((t : Nat) : Int)]) → At N w (A.cw x) → At N t (A.ct x) → Q (.ref q) H'
def sp_comb (C : Addr) (K : PySem.W.Frag) (n : Nat) : Sp := fun vs H Q _ => ∃ s N es L pre es' c a b A B D, vs = [.ref s.p, .int ((c : Nat) : Int), .int ((a : Nat) : Int), .int ((b : Nat) : Int)] ∧ Sto C K H s N es L ∧ es = pre ++ es' ∧ es'.length < n ∧ At N c A ∧ At N a B ∧ At N b D ∧ Wf es' A ∧ Wf es' B ∧ Wf es' D ∧
  N.length + 2 ^ es'.length < sizeLine ∧ L + 2 ^ es'.length < sizeLine ∧
  ∀ H' M r T, FdS s H H' → M.length + 1 ≤ 2 ^ es'.length → Sto C K H' s (N ++ M) es (L + (2 ^ es'.length - 1)) → At (N ++ M) r T → IsIte es' A B D T → Q (.int ((r : Nat) : Int)) H'
section
variable {P : Program} {w : World} {K : PySem.W.Frag} {mg : Str → Option Value} {base : Heap}
theorem ok_nof {f C : Addr} {fd : FuncData} (F : Fun K "node_of" "Diagrams.node_of" s_Diagrams_node_of f fd) (M : Mg mg) (G : DgC K C mg) : FnOk P w K mg base CX0 1 f fd ["self", "condition"] (sp_nof C K) := by
  refine F.ok sc_Diagrams_node_of (fun vs H Q E h => ?_) (fun cdv A outer s H vs Q E hr h => ?_)
  · obtain ⟨s, N, es, L, c, n, rfl, _⟩ := h
    rfl
  · obtain ⟨s, N, es, L, c, n, rfl, st, h2, hn, q⟩ := h
    obtain ⟨dx, xs, a, hp, hk, hat, hq⟩ := st.at h2 hn
    refine ⟨_, (pss_one (ps_ret (pe_ix (ix_listK K) (pe_fld (pv 0) rfl) (pe_op op_sub (pv 1) (C8.pe_gc (by rfl) G.FIRST_NODE)) (fun _ _ => rfl)))), ?_⟩
    exact ⟨_, rfl, s.p, C, dx, _, _, rfl, hp, G.cl, G.nK, sf_kept s, _, rfl, _, _, rfl, rfl, s.k, xs, _, _, rfl, rfl, hk, hat, q a hq⟩
theorem ok_node {f C : Addr} {fd : FuncData} (F : Fun K "node" "Diagrams.node" s_Diagrams_node f fd) (M : Mg mg) (G : DgC K C mg) : FnOk P w K mg base CX0 1 f fd ["self", "entry", "without", "there"] (sp_node C K) := by
  refine F.ok sc_Diagrams_node (fun vs H Q E h => ?_) (fun cdv A outer s H vs Q E hr h => ?_)
  · obtain ⟨s, N, es, L, x, w, t, W, T, rfl, _⟩ := h
    rfl
  · obtain ⟨s, N, es, L, x, w, t, W, T, rfl, st, hw, ht, hz, q⟩ := h
    refine ⟨_, (pss_cons (ps_if (pt_cmpR op_eq (pv 2) (pv 3) (nomark _)) (pss_one (ps_ret (pv 2))) pss_nil)
      (pss_cons (ps_set (i := 4) sc_Diagrams_node.nd rfl (.inl rfl) (pe_tup (pa_cons (pv 1) (pa_cons (pv 2) (pa_cons (pv 3) pa_nil)))))
      (pss_cons (ps_if (pt_cmp (pc_dnotin (hu_of hr) (pv 4) (pe_fld (pv 0) rfl))) (pss_cons (ps_dput (hu_of hr) (pe_fld (pv 0) rfl) (pv 4) (pe_op op_add (pe_callB (len_seqK K) (by rfl) M.len PySem.boot_len (pa_cons (pe_fld (pv 0) rfl) pa_nil)) (C8.pe_gc (by rfl) G.FIRST_NODE)) rfl)
      (pss_one (ps_expr (pe_bmK K PySem.F.plainAttrs_list PySem.F.slot_list_append PySem.F.type_list_append mt_append (pe_fld (pv 0) rfl) (pa_cons (pv 4) pa_nil))))) pss_nil)
      (pss_one (ps_ret (pe_dget (hu_of hr) (pe_fld (pv 0) rfl) (pv 4) (fun _ _ => rfl))))))), ?_⟩
    refine ⟨_, rfl, _, rfl, rfl, _, rfl, ite2 (fun e => ?_) (fun e => ?_)⟩
    · have e1 : w = t := by
        have := V.int.inj (of_decide_eq_true e)
        omega
      subst e1
      have e2 := hw.fn ht
      subst e2
      refine ⟨_, rfl, q H [] w (FdS.refl s H) (Nat.zero_le _) (by rw [List.append_nil]; exact st) ?_⟩
      rw [List.append_nil, show mkB x W W = W from if_pos rfl]
      exact hw
    · have hne : W ≠ T := fun z => by
        subst z
        exact e (by rw [hw.inj st.nd ht]; exact decide_eq_true rfl)
      have em : mkB x W T = .nd x W T := if_neg hne
      rw [em] at q
      refine ⟨_, rfl, _, rfl, _, rfl, by show 3 ≤ sizeLine; decide, fun tp ntp => ?_⟩
      have s1 := same_upd ntp (o := .tup [.int x, .int ((w : Nat) : Int), .int ((t : Nat) : Int)])
      have et : (upd H tp (.tup [.int x, .int ((w : Nat) : Int), .int ((t : Nat) : Int)])) tp = some (.tup ((ky3 x w t).map kV)) := upd_same
      generalize upd H tp (.tup [.int x, .int ((w : Nat) : Int), .int ((t : Nat) : Int)]) = H1 at s1 et
      have st1 := st.ext s1
      obtain ⟨⟨dx, hp⟩, ⟨xs, hk, hxs⟩, ⟨kvs, hu, hkl, hko⟩, ⟨cvs, hm, hcl, hco⟩, hnd, hum, hes⟩ := id st1
      have npk : s.p ≠ s.k := ne_of hp hk (fun z => nomatch z)
      have npu : s.p ≠ s.u := ne_of hp hu (fun z => nomatch z)
      have nku : s.k ≠ s.u := ne_of hk hu (fun z => nomatch z)
      have nkm : s.k ≠ s.m := ne_of hk hm (fun z => nomatch z)
      have ntk : tp ≠ s.k := ne_of et hk (fun z => nomatch z)
      have ntu : tp ≠ s.u := ne_of et hu (fun z => nomatch z)
      refine ⟨_, rfl, _, rfl, s.p, C, dx, _, _, rfl, hp, G.cl, G.nN, sf_num s, s.u, _, rfl, DGet.t hu et, _, rfl, ?_⟩
      cases ev : valV kvs (ky3 x w t) with
      | some v =>
        obtain ⟨i, hi, rfl⟩ := hko.2 _ _ _ _ ev
        refine iteF ?_
        refine ⟨_, rfl, s.p, C, dx, _, _, rfl, hp, G.cl, G.nN, sf_num s, _, rfl, s.u, .int ((i + 2 : Nat) : Int), rfl, ?_, ?_⟩
        · have := DGet.t hu et
          rw [ev] at this
          exact this
        · exact q H1 [] (i + 2) (FdS.of s1) (Nat.zero_le _) (by rw [List.append_nil]; exact st1) (by rw [List.append_nil]; exact .nd hi hw ht)
      | none =>
        have hnew : (x, w, t) ∉ N := hko.1 _ _ _ ev
        have lxs : xs.length = N.length := by rw [DpAll.len hxs, List.length_map]
        refine iteT ?_
        refine ⟨_, rfl, s.p, C, dx, _, _, rfl, hp, G.cl, G.nK, sf_kept s, s.k, xs, rfl, .inl (.of hk), _, _, rfl, rfl, _, rfl, s.p, C, dx, _, _, rfl, hp, G.cl, G.nN, sf_num s, _, rfl, s.u, _, rfl, DPut.t hu et (by omega), ?_⟩
        rw [lxs]
        dsimp only
        rw [show ((N.length : Nat) : Int) + 2 = ((N.length + 2 : Nat) : Int) by omega]
        have hk2 : (upd H1 s.u (.dT (putK kvs (ky3 x w t) (.int ((N.length + 2 : Nat) : Int))))) s.k = some (.lst xs) := by rw [upd_ne nku]; exact hk
        have hp2 : (upd H1 s.u (.dT (putK kvs (ky3 x w t) (.int ((N.length + 2 : Nat) : Int))))) s.p = some (.ins C dx (sfl s)) := by rw [upd_ne npu]; exact hp
        refine ⟨_, rfl, s.p, C, dx, _, _, rfl, hp2, G.cl, G.nK, sf_kept s, .inl ⟨rfl, _, .inl (.inl hk2)⟩, _, rfl, s.k, xs, _, rfl, rfl, hk2, by omega, ?_⟩
        have eu3 : (upd (upd H1 s.u (.dT (putK kvs (ky3 x w t) (.int ((N.length + 2 : Nat) : Int))))) s.k (.lst (xs ++ [.ref tp]))) s.u = some (.dT (putK kvs (ky3 x w t) (.int ((N.length + 2 : Nat) : Int)))) := by rw [upd_ne nku.symm, upd_same]
        have f3 : FdS s H1 (upd (upd H1 s.u (.dT (putK kvs (ky3 x w t) (.int ((N.length + 2 : Nat) : Int))))) s.k (.lst (xs ++ [.ref tp]))) := fun b o n1 n2 n3 hb => by
          rw [upd_ne n1, upd_ne n2]
          exact hb
        have ep3 : (upd (upd H1 s.u (.dT (putK kvs (ky3 x w t) (.int ((N.length + 2 : Nat) : Int))))) s.k (.lst (xs ++ [.ref tp]))) s.p = some (.ins C dx (sfl s)) := by rw [upd_ne npk]; exact hp2
        have em3 : (upd (upd H1 s.u (.dT (putK kvs (ky3 x w t) (.int ((N.length + 2 : Nat) : Int))))) s.k (.lst (xs ++ [.ref tp]))) s.m = some (.dT cvs) := by rw [upd_ne nkm.symm, upd_ne hum.symm]; exact hm
        have ek3 : (upd (upd H1 s.u (.dT (putK kvs (ky3 x w t) (.int ((N.length + 2 : Nat) : Int))))) s.k (.lst (xs ++ [.ref tp]))) s.k = some (.lst (xs ++ [.ref tp])) := upd_same
        have et3 : (upd (upd H1 s.u (.dT (putK kvs (ky3 x w t) (.int ((N.length + 2 : Nat) : Int))))) s.k (.lst (xs ++ [.ref tp]))) tp = some (.tup ((ky3 x w t).map kV)) := by rw [upd_ne ntk, upd_ne ntu]; exact et
        generalize upd (upd H1 s.u (.dT (putK kvs (ky3 x w t) (.int ((N.length + 2 : Nat) : Int))))) s.k (.lst (xs ++ [.ref tp])) = H3 at eu3 f3 ep3 em3 ek3 et3
        have nk : NumsOk (N ++ [(x, w, t)]) (putK kvs (ky3 x w t) (.int ((N.length + 2 : Nat) : Int))) := hko.snoc ev
        have st3 : Sto C K H3 s (N ++ [(x, w, t)]) es L := by
          refine ⟨⟨dx, ep3⟩, ⟨_, ek3, ?_⟩, ⟨_, eu3, ?_, nk⟩, ⟨cvs, em3, hcl, hco.mono⟩, ?_, hum, hes⟩
          · rw [List.map_append]
            exact DpAll.snoc (DpAll.tsn (st1.tup f3) _ _ (nD_only _) hxs) (.tup (.of et3) (.cons (.int _) (.cons (.int _) (.cons (.int _) .nil))))
          · have := length_putK kvs (ky3 x w t) (.int ((N.length + 2 : Nat) : Int))
            rw [List.length_append]
            show _ ≤ _ + 1
            omega
          · rw [List.nodup_append]
            exact ⟨hnd, List.nodup_cons.mpr ⟨List.not_mem_nil, List.nodup_nil⟩, fun a ha b hb z => by
              rw [List.mem_singleton] at hb
              subst z hb
              exact hnew ha⟩
        refine ⟨_, rfl, s.p, C, dx, _, _, rfl, ep3, G.cl, G.nN, sf_num s, _, rfl, s.u, .int ((N.length + 2 : Nat) : Int), rfl, ?_, ?_⟩
        · have := DGet.t eu3 et3
          rw [valV_put, if_pos rfl] at this
          exact this
        · refine q H3 [(x, w, t)] (N.length + 2) ((FdS.of s1).trans f3) (Nat.le_refl _) st3 (.nd ?_ hw.mono ht.mono)
          rw [List.getElem?_append_right (Nat.le_refl _), Nat.sub_self]
          rfl
def topOf : Bd → Option Int
  | .nd x _ _ => some x
  | .lf _ => none
theorem srt_le {pre es : List Int} {x y : Int} (h : (pre ++ x :: es).Pairwise (· < ·)) (hy : y ∈ x :: es) : x ≤ y := by
  have h2 := (List.pairwise_append.mp h).2.1
  rw [List.pairwise_cons] at h2
  rcases List.mem_cons.mp hy with e | hy
  · omega
  · have := h2.1 y hy
    omega
theorem ok_top {f C : Addr} {fd : FuncData} (F : Fun K "top" "Diagrams.top" s_Diagrams_top f fd) (M : Mg mg) (G : DgC K C mg) (c_Diagrams_node_of : ClM P w K mg base 1 C "node_of" (sp_nof C K)) : FnOk P w K mg base CX0 2 f fd ["self", "conditions"] (sp_top C K) := by
  refine F.ok sc_Diagrams_top (fun vs H Q E h => ?_) (fun cdv A outer s H vs Q E hr h => ?_)
  · obtain ⟨s, N, es, L, pre, es', a, cs, rfl, _⟩ := h
    rfl
  · obtain ⟨s, N, es, L, pre, es', a, cs, rfl, st, ha, he, hl, hc, hex, q⟩ := h
    refine ⟨_, (pss_one (ps_ret (pe_callB (cr_min rfl) (by rfl) M.min (by decide +kernel) (pa_cons (pe_lc (own := [("condition", 2)]) (g := gName 2) rfl sc_Diagrams_top.nd (pi_tup (pv 1)) (blkOk_by (N := N_Diagrams_top) (sc := defScope s_Diagrams_top) (by decide +kernel)) (fun _ _ _ _ _ => (pg_name (i := 2) sc_Diagrams_top.nd rfl (.inl rfl))) (fun _ _ _ _ _ => (pts_one (pt_cmpR op_ge (pv 2) (C8.pe_gc (by rfl) G.FIRST_NODE) (nomark _)))) (fun _ _ _ _ _ => (pe_ix (ix_tupK K) (pe_mt c_Diagrams_node_of hr (by first | decide | omega) (pv 0) (pa_cons (pv 2) pa_nil)) pe_int (fun _ _ => rfl)))) pa_nil)))), ?_⟩
    refine ⟨_, rfl, a, rfl, ⟨_, ha⟩, fun D nD => ?_⟩
    refine lc_tup (K := K) (a := a) (xs := cs.map fun c => .int ((c.1 : Nat) : Int)) (fun i Hi => Same H Hi ∧ ∃ ns : List Int, Hi D = some (.lst (ns.map V.int)) ∧ ns.length ≤ i ∧ ns = (cs.take i).filterMap fun c => topOf c.2) ⟨same_upd nD, [], upd_same, Nat.zero_le _, rfl⟩ (fun i Hi _ hp => SqT.ext hp.1 ha) (fun i x Hi hx hp => ?_) (fun Hn hp => ?_)
    · obtain ⟨si, ns, eD, ln, en⟩ := hp
      rw [List.getElem?_map] at hx
      obtain ⟨c, hcv, rfl⟩ := Option.map_eq_some_iff.mp hx
      have hi : i < cs.length := (List.getElem?_eq_some_iff.mp hcv).1
      obtain ⟨hAt, hWf⟩ := hc c (List.mem_of_getElem? hcv)
      have sti := st.ext si
      refine ⟨rfl, ?_⟩
      refine ⟨_, rfl, _, _, rfl, rfl, _, rfl, ite2 (fun e => ?_) (fun e => ?_)⟩
      · have h2 : 2 ≤ c.1 := by
          have := of_decide_eq_true e
          omega
        obtain ⟨e1, w1, t1, a1, b1, hn, hw1, ht1, ea⟩ := hAt.ge h2
        refine ⟨_, rfl, sti.go (by decide +kernel) (by decide +kernel) (by decide +kernel) ⟨_, rfl, ?_⟩⟩
        refine ⟨s, N, es, L, c.1, _, rfl, sti, h2, hn, fun qa hq => ?_⟩
        refine ⟨qa, _, _, _, rfl, rfl, hq, atI_nat (j := 0) rfl, ?_⟩
        refine ⟨_, eD, by rw [List.length_map]; exact Nat.lt_of_le_of_lt ln (Nat.lt_of_lt_of_le hi (Nat.le_trans hl (by decide))), ?_, ns ++ [e1], ?_, ?_, ?_⟩
        · intro b o hb
          rw [upd_ne (ne_of_none hb nD)]
          exact si _ _ hb
        · rw [upd_same, List.map_append]
          rfl
        · rw [List.length_append]
          show _ + 1 ≤ _
          omega
        · rw [List.take_add_one, hcv, List.filterMap_append, ← en]
          show _ = _ ++ ([c].filterMap fun c => topOf c.2)
          rw [List.filterMap_cons, ea]
          rfl
      · have h2 : ¬ 2 ≤ c.1 := by
          intro h
          exact e (decide_eq_true (by omega))
        refine ⟨si, ns, eD, by omega, ?_⟩
        rw [List.take_add_one, hcv, List.filterMap_append, ← en]
        show _ = _ ++ ([c].filterMap fun c => topOf c.2)
        have : topOf c.2 = none := by
          generalize c.1 = cn at hAt h2
          generalize c.2 = A at hAt
          cases hAt with
          | f => rfl
          | t => rfl
          | nd _ _ _ => omega
        rw [List.filterMap_cons, this]
        exact (List.append_nil _).symm
    · obtain ⟨sn, ns, eD, ln, en⟩ := hp
      rw [List.length_map, List.take_of_length_le (Nat.le_refl _)] at en
      obtain ⟨c0, hc0, h20⟩ := hex
      have hex' : ∃ a ∈ cs.map (·.2), ∀ b, a ≠ .lf b := by
        refine ⟨c0.2, List.mem_map.mpr ⟨c0, hc0, rfl⟩, fun b z => ?_⟩
        obtain ⟨_, _, _, _, _, _, _, _, ea⟩ := (hc c0 hc0).1.ge h20
        rw [ea] at z
        cases z
      obtain ⟨pre2, x, es2, ee, hwf, w0, t0, hm0⟩ := top_ex (es := es') (cs := cs.map (·.2)) (fun a ha => by
        obtain ⟨c, hcm, rfl⟩ := List.mem_map.mp ha
        exact (hc c hcm).2) hex'
      have hwf' : ∀ c ∈ cs, Wf (x :: es2) c.2 := fun c hcm => hwf _ (List.mem_map.mpr ⟨c, hcm, rfl⟩)
      have hx : x ∈ ns := by
        obtain ⟨c, hcm, ec⟩ := List.mem_map.mp hm0
        rw [en]
        exact List.mem_filterMap.mpr ⟨c, hcm, by rw [ec]; rfl⟩
      refine ⟨D, ns, rfl, .of eD, List.length_pos_of_mem hx, fun m hm hmin => ?_⟩
      have h1 := hmin x hx
      rw [en] at hm
      obtain ⟨c, hcm, ec⟩ := List.mem_filterMap.mp hm
      have h2 : x ≤ m := by
        have hw := hwf' c hcm
        generalize c.2 = A at hw ec
        cases A with
        | lf b => cases ec
        | nd y w t =>
          have e : y = m := Option.some.inj ec
          subst e
          have srt := st.srt
          rw [he, ee, ← List.append_assoc] at srt
          exact srt_le srt hw.none_of
      obtain rfl : m = x := by omega
      exact q Hn pre2 m es2 sn ee hwf'
theorem ok_bra {f C : Addr} {fd : FuncData} (F : Fun K "branches" "Diagrams.branches" s_Diagrams_branches f fd) (M : Mg mg) (G : DgC K C mg) (c_Diagrams_node_of : ClM P w K mg base 1 C "node_of" (sp_nof C K)) : FnOk P w K mg base CX0 2 f fd ["self", "condition", "entry"] (sp_bra C K) := by
  refine F.ok sc_Diagrams_branches (fun vs H Q E h => ?_) (fun cdv A outer s H vs Q E hr h => ?_)
  · obtain ⟨s, N, es, L, x, es2, c, A, rfl, _⟩ := h
    rfl
  · obtain ⟨s, N, es, L, x, es2, c, A, rfl, st, hAt, hWf, hx, q⟩ := h
    refine ⟨_, (pss_cons (ps_if (pt_cmpR op_ge (pv 1) (C8.pe_gc (by rfl) G.FIRST_NODE) (nomark _)) (pss_cons (ps_asg (pe_mt c_Diagrams_node_of hr (by first | decide | omega) (pv 0) (pa_cons (pv 1) pa_nil)) (pg_tup (by rfl) (pgs_cons (pg_name (i := 3) sc_Diagrams_branches.nd rfl (.inl rfl)) (pgs_cons (pg_name (i := 4) sc_Diagrams_branches.nd rfl (.inl rfl)) (pgs_cons (pg_name (i := 5) sc_Diagrams_branches.nd rfl (.inl rfl)) pgs_nil)))))
      (pss_one (ps_if (pt_cmpR op_eq (pv 3) (pv 2) (nomark _)) (pss_one (ps_ret (pe_tup (pa_cons (pv 4) (pa_cons (pv 5) pa_nil))))) pss_nil))) pss_nil)
      (pss_one (ps_ret (pe_tup (pa_cons (pv 1) (pa_cons (pv 1) pa_nil)))))), ?_⟩
    have both : A.cw x = A → A.ct x = A → ∀ q', H q' = none → Q (.ref q') (upd H q' (.tup [.int ((c : Nat) : Int), .int ((c : Nat) : Int)])) := fun e1 e2 q' nq => by
      refine q _ q' c c (same_upd nq) upd_same ?_ ?_
      · rw [e1]; exact hAt
      · rw [e2]; exact hAt
    refine ⟨_, rfl, _, _, rfl, rfl, _, rfl, ite2 (fun e => ?_) (fun e => ?_)⟩
    · have h2 : 2 ≤ c := by
        have := of_decide_eq_true e
        omega
      obtain ⟨e1, w1, t1, a1, b1, hn, hw1, ht1, ea⟩ := hAt.ge h2
      refine ⟨_, rfl, st.go (by decide +kernel) (by decide +kernel) (by decide +kernel) ⟨_, rfl, ?_⟩⟩
      refine ⟨s, N, es, L, c, _, rfl, st, h2, hn, fun qa hq => ?_⟩
      refine ⟨qa, _, rfl, hq, rfl, _, _, rfl, _, _, rfl, _, _, rfl, rfl, ?_⟩
      refine ⟨_, rfl, _, rfl, rfl, _, rfl, ite2 (fun e => ?_) (fun e => ?_)⟩
      · have ee : e1 = x := V.int.inj (of_decide_eq_true e)
        refine ⟨_, rfl, _, rfl, by show 2 ≤ sizeLine; decide, fun q' nq => ?_⟩
        refine q _ q' w1 t1 (same_upd nq) upd_same ?_ ?_
        · rw [ea, show (Bd.nd e1 a1 b1).cw x = a1 from if_pos ee]; exact hw1
        · rw [ea, show (Bd.nd e1 a1 b1).ct x = b1 from if_pos ee]; exact ht1
      · have ee : e1 ≠ x := fun z => e (by rw [z]; exact decide_eq_true rfl)
        exact ⟨_, rfl, _, rfl, by show 2 ≤ sizeLine; decide, both (by rw [ea]; exact if_neg ee) (by rw [ea]; exact if_neg ee)⟩
    · have hlf : A.cw x = A ∧ A.ct x = A := by
        cases hAt with
        | f => exact ⟨rfl, rfl⟩
        | t => exact ⟨rfl, rfl⟩
        | nd _ _ _ => exact absurd (decide_eq_true (by omega)) e
      exact ⟨_, rfl, _, rfl, by show 2 ≤ sizeLine; decide, both hlf.1 hlf.2⟩
theorem Sto.more {C : Addr} {H : Hp} {s : SA} {N : Nds} {es : List Int} {L L' : Nat} (h : Sto C K H s N es L) (hl : L ≤ L') : Sto C K H s N es L' := by
  obtain ⟨h1, h2, h3, ⟨cvs, h4, h5, h6⟩, h7⟩ := h
  exact ⟨h1, h2, h3, ⟨cvs, h4, Nat.le_trans h5 hl, h6⟩, h7⟩
theorem Sto.put {C : Addr} {H : Hp} {s : SA} {N : Nds} {es : List Int} {L : Nat} (st : Sto C K H s N es L) {c a b r : Nat} {A B D T : Bd} (h1 : At N c A) (h2 : At N a B) (h3 : At N b D) (h4 : At N r T) (h5 : IsIte es A B D T) :
    ∃ cvs, H s.m = some (.dT cvs) ∧ cvs.length ≤ L ∧ Sto C K (upd H s.m (.dT (putK cvs (ky3 c a b) (.int ((r : Nat) : Int))))) s N es (L + 1) ∧ FdS s H (upd H s.m (.dT (putK cvs (ky3 c a b) (.int ((r : Nat) : Int))))) := by
  have f : ∀ cvs, FdS s H (upd H s.m (.dT (putK cvs (ky3 c a b) (.int ((r : Nat) : Int))))) := fun cvs x o n1 n2 n3 e => by
    rw [upd_ne n3]
    exact e
  obtain ⟨⟨dx, hp⟩, ⟨xs, hk, hxs⟩, ⟨kvs, hu, hkl, hko⟩, ⟨cvs, hm, hcl, hco⟩, hnd, hum, hes⟩ := id st
  refine ⟨cvs, hm, hcl, ⟨⟨dx, ?_⟩, ⟨xs, ?_, ?_⟩, ⟨kvs, ?_, hkl, hko⟩, ⟨_, upd_same, ?_, hco.put h1 h2 h3 h4 h5⟩, hnd, hum, hes⟩, f cvs⟩
  · rw [upd_ne (ne_of hp hm (fun z => nomatch z))]; exact hp
  · rw [upd_ne (ne_of hk hm (fun z => nomatch z))]; exact hk
  · exact DpAll.tsn (st.tup (f cvs)) _ _ (nD_only _) hxs
  · rw [upd_ne hum]; exact hu
  · have := length_putK cvs (ky3 c a b) (.int ((r : Nat) : Int))
    omega
set_option maxHeartbeats 4000000 in
theorem ok_comb (n : Nat) {f C : Addr} {fd : FuncData} (F : Fun K "combine" "Diagrams.combine" s_Diagrams_combine f fd) (M : Mg mg) (G : DgC K C mg) (c_Diagrams_node : ClM P w K mg base 1 C "node" (sp_node C K)) (c_Diagrams_top : ClM P w K mg base 2 C "top" (sp_top C K)) (c_Diagrams_branches : ClM P w K mg base 2 C "branches" (sp_bra C K))
    (c_Diagrams_combine : ClM P w K mg base (n + 2) C "combine" (sp_comb C K n)) : FnOk P w K mg base CX0 (n + 3) f fd ["self", "condition", "first", "second"] (sp_comb C K (n + 1)) := by
  refine F.ok sc_Diagrams_combine (fun vs H Q E h => ?_) (fun cdv A outer s H vs Q E hr h => ?_)
  · obtain ⟨s, N, es, L, pre, es', c, a, b, A, B, D, rfl, _⟩ := h
    rfl
  · obtain ⟨s, N, es, L, pre, es', c, a, b, A, B, D, rfl, st, he, hn, hA, hB, hD, wA, wB, wD, z1, z2, q⟩ := h
    have hp1 : 1 ≤ 2 ^ es'.length := Nat.one_le_two_pow
    have ret : ∀ H1 r T, Same H H1 → At N r T → IsIte es' A B D T → Q (.int ((r : Nat) : Int)) H1 := fun H1 r T s1 h1 h2 => q H1 [] r T (FdS.of s1) (by rw [List.length_nil]; exact hp1) (by rw [List.append_nil]; exact (st.ext s1).more (Nat.le_add_right _ _)) (by rw [List.append_nil]; exact h1) h2
    have inat : ∀ {x y : Nat}, decide (V.int ((x : Nat) : Int) = V.int ((y : Nat) : Int)) = true → x = y := fun {x y} e => by
      have := V.int.inj (of_decide_eq_true e)
      omega
    refine ⟨_, (pss_cons (ps_if (PW.pt (pw_or (pt_cmpR op_eq (pv 1) (C8.pe_gc (by rfl) G.ALWAYS) (nomark _)) (pw_or1 (pt_cmpR op_eq (pv 2) (pv 3) (nomark _))))) (pss_one (ps_ret (pv 2))) pss_nil)
      (pss_cons (ps_if (pt_cmpR op_eq (pv 1) (C8.pe_gc (by rfl) G.NEVER) (nomark _)) (pss_one (ps_ret (pv 3))) pss_nil)
      (pss_cons (ps_set (i := 4) sc_Diagrams_combine.nd rfl (.inl rfl) (pe_tup (pa_cons (pv 1) (pa_cons (pv 2) (pa_cons (pv 3) pa_nil)))))
      (pss_cons (ps_if (pt_cmp (pc_dnotin (hu_of hr) (pv 4) (pe_fld (pv 0) rfl))) (pss_cons (ps_set (i := 5) sc_Diagrams_combine.nd rfl (.inl rfl) (pe_mt c_Diagrams_top hr (by first | decide | omega) (pv 0) (pa_cons (pv 4) pa_nil)))
      (pss_cons (ps_asg (pe_mt c_Diagrams_branches hr (by first | decide | omega) (pv 0) (pa_cons (pv 1) (pa_cons (pv 5) pa_nil))) (pg_tup (by rfl) (pgs_cons (pg_name (i := 6) sc_Diagrams_combine.nd rfl (.inl rfl)) (pgs_cons (pg_name (i := 7) sc_Diagrams_combine.nd rfl (.inl rfl)) pgs_nil))))
      (pss_cons (ps_asg (pe_mt c_Diagrams_branches hr (by first | decide | omega) (pv 0) (pa_cons (pv 2) (pa_cons (pv 5) pa_nil))) (pg_tup (by rfl) (pgs_cons (pg_name (i := 8) sc_Diagrams_combine.nd rfl (.inl rfl)) (pgs_cons (pg_name (i := 9) sc_Diagrams_combine.nd rfl (.inl rfl)) pgs_nil))))
      (pss_cons (ps_asg (pe_mt c_Diagrams_branches hr (by first | decide | omega) (pv 0) (pa_cons (pv 3) (pa_cons (pv 5) pa_nil))) (pg_tup (by rfl) (pgs_cons (pg_name (i := 10) sc_Diagrams_combine.nd rfl (.inl rfl)) (pgs_cons (pg_name (i := 11) sc_Diagrams_combine.nd rfl (.inl rfl)) pgs_nil))))
      (pss_one (ps_dput (hu_of hr) (pe_fld (pv 0) rfl) (pv 4) (pe_mt c_Diagrams_node hr (by first | decide | omega) (pv 0) (pa_cons (pv 5) (pa_cons (pe_mt c_Diagrams_combine hr (by first | decide | omega) (pv 0) (pa_cons (pv 6) (pa_cons (pv 8) (pa_cons (pv 10) pa_nil)))) (pa_cons (pe_mt c_Diagrams_combine hr (by first | decide | omega) (pv 0) (pa_cons (pv 7) (pa_cons (pv 9) (pa_cons (pv 11) pa_nil)))) pa_nil)))) rfl)))))) pss_nil)
      (pss_one (ps_ret (pe_dget (hu_of hr) (pe_fld (pv 0) rfl) (pv 4) (fun _ _ => rfl)))))))), ?_⟩
    refine ⟨_, rfl, rfl, _, rfl, ite2 (fun e => ?_) (fun e => ?_)⟩
    · obtain rfl : c = 1 := inat (y := 1) e
      have eA := hA.fn .t
      exact ⟨_, rfl, ret H a B (fun _ _ h => h) hB ⟨wB, fun r => by rw [eA]; exact (if_pos rfl).symm⟩⟩
    refine ⟨_, rfl, _, rfl, rfl, _, rfl, ite2 (fun e2 => ?_) (fun e2 => ?_)⟩
    · obtain rfl := inat e2
      have eB := hB.fn hD
      exact ⟨_, rfl, ret H a B (fun _ _ h => h) hB ⟨wB, fun r => by rw [← eB]; split <;> rfl⟩⟩
    refine ⟨_, rfl, rfl, _, rfl, ite2 (fun e3 => ?_) (fun e3 => ?_)⟩
    · obtain rfl : c = 0 := inat (y := 0) e3
      have eA := hA.fn .f
      exact ⟨_, rfl, ret H b D (fun _ _ h => h) hD ⟨wD, fun r => by rw [eA]; exact (if_neg Bool.false_ne_true).symm⟩⟩
    have hc2 : 2 ≤ c := by
      have g1 : c ≠ 1 := fun z => e (by subst z; exact decide_eq_true rfl)
      have g0 : c ≠ 0 := fun z => e3 (by subst z; exact decide_eq_true rfl)
      omega
    refine ⟨_, rfl, _, rfl, _, rfl, by show 3 ≤ sizeLine; decide, fun tp ntp => ?_⟩
    have s1 := same_upd ntp (o := .tup [.int ((c : Nat) : Int), .int ((a : Nat) : Int), .int ((b : Nat) : Int)])
    have et : (upd H tp (.tup [.int ((c : Nat) : Int), .int ((a : Nat) : Int), .int ((b : Nat) : Int)])) tp = some (.tup ((ky3 c a b).map kV)) := upd_same
    generalize upd H tp (.tup [.int ((c : Nat) : Int), .int ((a : Nat) : Int), .int ((b : Nat) : Int)]) = H1 at s1 et
    have st1 := st.ext s1
    obtain ⟨⟨dx, hp⟩, _, _, ⟨cvs, hm, hcl, hco⟩, _⟩ := id st1
    refine ⟨_, rfl, _, rfl, s.p, C, dx, _, _, rfl, hp, G.cl, G.nM, sf_comb s, s.m, _, rfl, DGet.t hm et, _, rfl, ?_⟩
    cases ev : valV cvs (ky3 c a b) with
    | some v =>
      obtain ⟨r, A', B', D', T, rfl, h1, h2, h3, h4, h5⟩ := hco _ _ _ _ ev
      have e1 := h1.fn hA
      have e2' := h2.fn hB
      have e3' := h3.fn hD
      subst e1 e2' e3'
      refine iteF ⟨_, rfl, s.p, C, dx, _, _, rfl, hp, G.cl, G.nM, sf_comb s, _, rfl, s.m, .int ((r : Nat) : Int), rfl, ?_, ?_⟩
      · have := DGet.t hm et
        rw [ev] at this
        exact this
      · refine ret H1 r T s1 h4 (ite_low (pre := pre) (by rw [← he]; exact st.es_nd) wA wB wD (by rw [← he]; exact h5))
    | none =>
      refine iteT ?_
      refine ⟨_, rfl, st1.go (by decide +kernel) (by decide +kernel) (by decide +kernel) ⟨_, rfl, ?_⟩⟩
      refine ⟨s, N, es, L, pre, es', tp, [(c, A), (a, B), (b, D)], rfl, st1, .of et, he, Nat.le_refl _, ?_, ⟨(c, A), List.mem_cons_self, hc2⟩, fun H2 pre2 x es2 s2 ee hw => ?_⟩
      · intro y hy
        simp only [List.mem_cons, List.not_mem_nil, or_false] at hy
        rcases hy with rfl | rfl | rfl
        · exact ⟨hA, wA⟩
        · exact ⟨hB, wB⟩
        · exact ⟨hD, wD⟩
      have st2 := st1.ext s2
      have vA := hw (c, A) (by simp)
      have vB := hw (a, B) (by simp)
      have vD := hw (b, D) (by simp)
      have hx : x ∉ es2 := by
        have := st.es_nd
        rw [he, ee] at this
        exact (List.nodup_cons.mp (List.nodup_append.mp (List.nodup_append.mp this).2.1).2.1).1
      refine ⟨_, rfl, st2.go (by decide +kernel) (by decide +kernel) (by decide +kernel) ⟨_, rfl, _, rfl, ?_⟩⟩
      refine ⟨s, N, es, L, x, es2, c, A, rfl, st2, hA, vA, hx, fun H3 q3 w1 t1 s3 e3 hw1 ht1 => ?_⟩
      refine ⟨q3, _, rfl, .of e3, rfl, _, _, rfl, _, _, rfl, rfl, ?_⟩
      have st3 := st2.ext s3
      refine ⟨_, rfl, st3.go (by decide +kernel) (by decide +kernel) (by decide +kernel) ⟨_, rfl, _, rfl, ?_⟩⟩
      refine ⟨s, N, es, L, x, es2, a, B, rfl, st3, hB, vB, hx, fun H4 q4 w2 t2 s4 e4 hw2 ht2 => ?_⟩
      refine ⟨q4, _, rfl, .of e4, rfl, _, _, rfl, _, _, rfl, rfl, ?_⟩
      have st4 := st3.ext s4
      refine ⟨_, rfl, st4.go (by decide +kernel) (by decide +kernel) (by decide +kernel) ⟨_, rfl, _, rfl, ?_⟩⟩
      refine ⟨s, N, es, L, x, es2, b, D, rfl, st4, hD, vD, hx, fun H5 q5 w3 t3 s5 e5 hw3 ht3 => ?_⟩
      refine ⟨q5, _, rfl, .of e5, rfl, _, _, rfl, _, _, rfl, rfl, ?_⟩
      have st5 := st4.ext s5
      have s25 := ((s2.trans s3).trans s4).trans s5
      have et5 := s25 _ _ et
      have lee : es'.length = pre2.length + (es2.length + 1) := by rw [ee, List.length_append, List.length_cons]
      have hpow : 2 ^ es2.length + 2 ^ es2.length ≤ 2 ^ es'.length := by
        have : 2 ^ (es2.length + 1) ≤ 2 ^ es'.length := Nat.pow_le_pow_right (by decide) (by omega)
        rw [Nat.pow_succ] at this
        omega
      have hp2 : 1 ≤ 2 ^ es2.length := Nat.one_le_two_pow
      have he2 : es = (pre ++ pre2 ++ [x]) ++ es2 := by rw [he, ee]; simp
      refine ⟨_, rfl, st5.go (by decide +kernel) (by decide +kernel) (by decide +kernel) ⟨_, rfl, ?_⟩⟩
      refine ⟨_, rfl, st5.go (by decide +kernel) (by decide +kernel) (by decide +kernel) ⟨_, rfl, _, rfl, _, rfl, ?_⟩⟩
      refine ⟨s, N, es, L, pre ++ pre2 ++ [x], es2, w1, w2, w3, A.cw x, B.cw x, D.cw x, rfl, st5, he2, by omega, hw1, hw2, hw3, (vA.cw hx).1, (vB.cw hx).1, (vD.cw hx).1, by omega, by omega, fun H6 M1 r1 T1 f6 l1 st6 a1 i1 => ?_⟩
      refine ⟨_, rfl, st6.go (by decide +kernel) (by decide +kernel) (by decide +kernel) ⟨_, rfl, _, rfl, _, rfl, ?_⟩⟩
      refine ⟨s, N ++ M1, es, _, pre ++ pre2 ++ [x], es2, t1, t2, t3, A.ct x, B.ct x, D.ct x, rfl, st6, he2, by omega, ht1.mono, ht2.mono, ht3.mono, (vA.ct hx).1, (vB.ct hx).1, (vD.ct hx).1, by rw [List.length_append]; omega, by omega, fun H7 M2 r2 T2 f7 l2 st7 a2 i2 => ?_⟩
      refine ⟨s, (N ++ M1) ++ M2, es, _, x, r1, r2, T1, T2, rfl, st7, a1.mono, a2, by rw [List.length_append, List.length_append]; omega, fun H8 M3 r f8 l3 st8 a3 => ?_⟩
      have f58 := (f6.trans f7).trans f8
      have et8 := st5.tup f58 _ _ (.inl ⟨_, rfl⟩) et5
      have eN : N ++ M1 ++ M2 ++ M3 = N ++ (M1 ++ M2 ++ M3) := by simp only [List.append_assoc]
      rw [eN] at st8 a3
      have hI : IsIte es' A B D (mkB x T1 T2) := by
        rw [ee]
        exact (ite_step hx vA vB vD i1 i2).skips pre2
      obtain ⟨cv8, hm8, hl8, st9, f9⟩ := st8.put (hA.mono (M := M1 ++ M2 ++ M3)) (hB.mono (M := M1 ++ M2 ++ M3)) (hD.mono (M := M1 ++ M2 ++ M3)) a3 (by rw [he]; exact hI.skips pre)
      obtain ⟨dx8, hp8⟩ := st8.ins
      refine ⟨_, rfl, s.p, C, dx8, _, _, rfl, hp8, G.cl, G.nM, sf_comb s, _, rfl, s.m, _, rfl, DPut.t hm8 et8 (by omega), ?_⟩
      obtain ⟨dx9, hp9⟩ := st9.ins
      have et9 := st8.tup f9 _ _ (.inl ⟨_, rfl⟩) et8
      have em9 : (upd H8 s.m (.dT (putK cv8 (ky3 c a b) (.int ((r : Nat) : Int))))) s.m = some (.dT (putK cv8 (ky3 c a b) (.int ((r : Nat) : Int)))) := upd_same
      refine ⟨_, rfl, s.p, C, dx9, _, _, rfl, hp9, G.cl, G.nM, sf_comb s, _, rfl, s.m, .int ((r : Nat) : Int), rfl, ?_, ?_⟩
      · have := DGet.t em9 et9
        rw [valV_put, if_pos rfl] at this
        exact this
      · refine q _ (M1 ++ M2 ++ M3) r _ (((FdS.of (s1.trans s25)).trans f58).trans f9) ?_ (st9.more ?_) a3 hI
        · rw [List.length_append, List.length_append]
          omega
        · omega
end

/-! ### the operations, and what is said of a condition -/
theorem inV_int (e : Int) (ps : List Int) : inV (.int e) (ps.map V.int) = decide (e ∈ ps) := by
  unfold inV
  rw [List.any_map]
  by_cases h : e ∈ ps
  · rw [decide_eq_true h, List.any_eq_true]
    exact ⟨e, h, beq_self_eq_true e⟩
  · rw [decide_eq_false h]
    cases h2 : ps.any ((fun y => eqV y (.int e)) ∘ V.int) with
    | false => rfl
    | true =>
      exfalso
      obtain ⟨y, hy, hb⟩ := List.any_eq_true.mp h2
      have : y = e := eq_of_beq hb
      exact h (this ▸ hy)
theorem ints_flat (ps : List Int) : (ps.map V.int).all flatV = true := by
  rw [List.all_map]
  exact List.all_eq_true.mpr fun _ _ => rfl
def Bd.ht : Bd → Nat
  | .lf _ => 0
  | .nd _ w t => max w.ht t.ht + 1
def sp_there (C : Addr) (K : PySem.W.Frag) : Sp := fun vs H Q _ => ∃ s N es L x, vs = [.ref s.p, .int x] ∧ Sto C K H s N es L ∧ N.length + 1 < sizeLine ∧
  ∀ H' M r, FdS s H H' → M.length ≤ 1 → Sto C K H' s (N ++ M) es L → At (N ++ M) r (.nd x (.lf false) (.lf true)) → Q (.int ((r : Nat) : Int)) H'
def opB (es : List Int) : Nat := 2 * 2 ^ es.length
def sp_op2 (C : Addr) (K : PySem.W.Frag) (n : Nat) (f : Bool → Bool → Bool) : Sp := fun vs H Q _ => ∃ s N es L a b A B, vs = [.ref s.p, .int ((a : Nat) : Int), .int ((b : Nat) : Int)] ∧ Sto C K H s N es L ∧ es.length < n ∧ At N a A ∧ At N b B ∧ Wf es A ∧ Wf es B ∧ N.length + opB es < sizeLine ∧ L + opB es < sizeLine ∧
  ∀ H' M r T, FdS s H H' → M.length ≤ opB es → Sto C K H' s (N ++ M) es (L + opB es) → At (N ++ M) r T → Wf es T → (∀ ρ, T.ev ρ = f (A.ev ρ) (B.ev ρ)) → Q (.int ((r : Nat) : Int)) H'
def sp_neg (C : Addr) (K : PySem.W.Frag) (n : Nat) : Sp := fun vs H Q _ => ∃ s N es L a A, vs = [.ref s.p, .int ((a : Nat) : Int)] ∧ Sto C K H s N es L ∧ es.length < n ∧ At N a A ∧ Wf es A ∧ N.length + 2 ^ es.length < sizeLine ∧ L + 2 ^ es.length < sizeLine ∧
  ∀ H' M r T, FdS s H H' → M.length ≤ 2 ^ es.length → Sto C K H' s (N ++ M) es (L + 2 ^ es.length) → At (N ++ M) r T → Wf es T → (∀ ρ, T.ev ρ = !(A.ev ρ)) → Q (.int ((r : Nat) : Int)) H'
def sp_holds (C : Addr) (K : PySem.W.Frag) : Sp := fun vs H Q _ => ∃ s N es L c A a, ∃ ps : List Int, vs = [.ref s.p, .int ((c : Nat) : Int), .ref a] ∧ Sto C K H s N es L ∧ At N c A ∧ SqL K H a (ps.map V.int) ∧ Q (.bl (A.ev fun e => decide (e ∈ ps))) H
def sp_dinit (C : Addr) (K : PySem.W.Frag) : Sp := fun vs H Q _ => ∃ p dx, vs = [.ref p] ∧ H p = some (.ins C dx []) ∧ ∀ H' s, s.p = p → Fd p H H' → H s.k = none → H s.u = none → H s.m = none → (∀ es : List Int, es.Pairwise (· < ·) → Sto C K H' s [] es 0) → Q .non H'
theorem dk1 : ¬ (("kept" : Str) = "numbers") := by decide +kernel
theorem dk2 : ¬ (("kept" : Str) = "combined") := by decide +kernel
theorem dk3 : ¬ (("numbers" : Str) = "combined") := by decide +kernel
theorem sf_mk (s : SA) : putF "combined" (.ref s.m) (putF "numbers" (.ref s.u) (putF "kept" (.ref s.k) [])) = sfl s := by
  unfold sfl
  simp only [putF, if_neg dk1, if_neg dk2, if_neg dk3]
section
variable {P : Program} {w : World} {K : PySem.W.Frag} {mg : Str → Option Value} {base : Heap}
theorem bu_ne {C : Addr} {sa : SA} {N : Nds} {es : List Int} {L : Nat} {H : Hp} {B : Addr} (st : Sto C K H sa N es L) (nB : H B = none) : B ≠ sa.k ∧ B ≠ sa.u ∧ B ≠ sa.m := by
  obtain ⟨_, ⟨_, g1, _⟩, ⟨_, g2, _⟩, ⟨_, g3, _⟩, _⟩ := st
  exact ⟨(ne_of_none g1 nB).symm, (ne_of_none g2 nB).symm, (ne_of_none g3 nB).symm⟩
theorem cl_comb {f C : Addr} {fd : FuncData} (F : Fun K "combine" "Diagrams.combine" s_Diagrams_combine f fd) (M : Mg mg) (G : DgC K C mg) (mt : Meth K C "combine" f) (bi : Binds K fd ["self", "condition", "first", "second"] []) (c_Diagrams_node : ClM P w K mg base 1 C "node" (sp_node C K)) (c_Diagrams_top : ClM P w K mg base 2 C "top" (sp_top C K)) (c_Diagrams_branches : ClM P w K mg base 2 C "branches" (sp_bra C K)) :
    ∀ n, ClM P w K mg base (n + 2) C "combine" (sp_comb C K n)
  | 0 => FnOk.clm (P := P) (w := w) (base := base) (mg := mg) (F.ok sc_Diagrams_combine (fun vs H Q E h => by obtain ⟨s, N, es, L, pre, es', c, a, b, A, B, D, rfl, _⟩ := h; rfl) (fun cdv A outer s H vs Q E hr h => by obtain ⟨s, N, es, L, pre, es', c, a, b, A, B, D, rfl, st, he, hn, _⟩ := h; omega)) mt G.cl bi
  | n + 1 => FnOk.clm (ok_comb n F M G c_Diagrams_node c_Diagrams_top c_Diagrams_branches (cl_comb F M G mt bi c_Diagrams_node c_Diagrams_top c_Diagrams_branches n)) mt G.cl bi
theorem ok_there {f C : Addr} {fd : FuncData} (F : Fun K "there" "Diagrams.there" s_Diagrams_there f fd) (M : Mg mg) (G : DgC K C mg) (c_Diagrams_node : ClM P w K mg base 1 C "node" (sp_node C K)) : FnOk P w K mg base CX0 2 f fd ["self", "entry"] (sp_there C K) := by
  refine F.ok sc_Diagrams_there (fun vs H Q E h => ?_) (fun cdv A outer s H vs Q E hr h => ?_)
  · obtain ⟨s, N, es, L, x, rfl, _⟩ := h
    rfl
  · obtain ⟨s, N, es, L, x, rfl, st, hz, q⟩ := h
    refine ⟨_, (pss_one (ps_ret (pe_mt c_Diagrams_node hr (by first | decide | omega) (pv 0) (pa_cons (pv 1) (pa_cons (C8.pe_gc (by rfl) G.NEVER) (pa_cons (C8.pe_gc (by rfl) G.ALWAYS) pa_nil)))))), ?_⟩
    refine ⟨_, rfl, st.go (by decide +kernel) (by decide +kernel) (by decide +kernel) ⟨_, rfl, ?_⟩⟩
    exact ⟨s, N, es, L, x, 0, 1, _, _, rfl, st, .f, .t, hz, fun H' M r f l st' a => q H' M r f l st' a⟩
theorem opB_ge (es : List Int) : 2 ^ es.length + 2 ^ es.length = opB es := by unfold opB; omega
theorem ok_conj {n : Nat} {f C : Addr} {fd : FuncData} (F : Fun K "conjunction" "Diagrams.conjunction" s_Diagrams_conjunction f fd) (M : Mg mg) (G : DgC K C mg) (c_Diagrams_combine : ClM P w K mg base (n + 2) C "combine" (sp_comb C K n)) : FnOk P w K mg base CX0 (n + 3) f fd ["self", "first", "second"] (sp_op2 C K n and) := by
  refine F.ok sc_Diagrams_conjunction (fun vs H Q E h => ?_) (fun cdv A outer s H vs Q E hr h => ?_)
  · obtain ⟨s, N, es, L, a, b, A, B, rfl, _⟩ := h
    rfl
  · obtain ⟨s, N, es, L, a, b, A, B, rfl, st, hn, hA, hB, wA, wB, z1, z2, q⟩ := h
    have ob := opB_ge es
    refine ⟨_, (pss_one (ps_ret (pe_mt c_Diagrams_combine hr (by first | decide | omega) (pv 0) (pa_cons (pv 1) (pa_cons (pv 2) (pa_cons (C8.pe_gc (by rfl) G.NEVER) pa_nil)))))), ?_⟩
    refine ⟨_, rfl, st.go (by decide +kernel) (by decide +kernel) (by decide +kernel) ⟨_, rfl, _, rfl, ?_⟩⟩
    refine ⟨s, N, es, L, [], es, a, b, 0, A, B, _, rfl, st, rfl, hn, hA, hB, .f, wA, wB, .lf, by omega, by omega, fun H' M r T f l st' a i => q H' M r T f (by omega) (st'.more (by omega)) a i.1 fun ρ => ?_⟩
    rw [i.2]
    cases A.ev ρ <;> rfl
theorem ok_disj {n : Nat} {f C : Addr} {fd : FuncData} (F : Fun K "disjunction" "Diagrams.disjunction" s_Diagrams_disjunction f fd) (M : Mg mg) (G : DgC K C mg) (c_Diagrams_combine : ClM P w K mg base (n + 2) C "combine" (sp_comb C K n)) : FnOk P w K mg base CX0 (n + 3) f fd ["self", "first", "second"] (sp_op2 C K n or) := by
  refine F.ok sc_Diagrams_disjunction (fun vs H Q E h => ?_) (fun cdv A outer s H vs Q E hr h => ?_)
  · obtain ⟨s, N, es, L, a, b, A, B, rfl, _⟩ := h
    rfl
  · obtain ⟨s, N, es, L, a, b, A, B, rfl, st, hn, hA, hB, wA, wB, z1, z2, q⟩ := h
    have ob := opB_ge es
    refine ⟨_, (pss_one (ps_ret (pe_mt c_Diagrams_combine hr (by first | decide | omega) (pv 0) (pa_cons (pv 1) (pa_cons (C8.pe_gc (by rfl) G.ALWAYS) (pa_cons (pv 2) pa_nil)))))), ?_⟩
    refine ⟨_, rfl, st.go (by decide +kernel) (by decide +kernel) (by decide +kernel) ⟨_, rfl, _, rfl, ?_⟩⟩
    refine ⟨s, N, es, L, [], es, a, 1, b, A, _, B, rfl, st, rfl, hn, hA, .t, hB, wA, .lf, wB, by omega, by omega, fun H' M r T f l st' a i => q H' M r T f (by omega) (st'.more (by omega)) a i.1 fun ρ => ?_⟩
    rw [i.2]
    cases A.ev ρ <;> rfl
theorem ok_neg {n : Nat} {f C : Addr} {fd : FuncData} (F : Fun K "negation" "Diagrams.negation" s_Diagrams_negation f fd) (M : Mg mg) (G : DgC K C mg) (c_Diagrams_combine : ClM P w K mg base (n + 2) C "combine" (sp_comb C K n)) : FnOk P w K mg base CX0 (n + 3) f fd ["self", "condition"] (sp_neg C K n) := by
  refine F.ok sc_Diagrams_negation (fun vs H Q E h => ?_) (fun cdv A outer s H vs Q E hr h => ?_)
  · obtain ⟨s, N, es, L, a, A, rfl, _⟩ := h
    rfl
  · obtain ⟨s, N, es, L, a, A, rfl, st, hn, hA, wA, z1, z2, q⟩ := h
    refine ⟨_, (pss_one (ps_ret (pe_mt c_Diagrams_combine hr (by first | decide | omega) (pv 0) (pa_cons (pv 1) (pa_cons (C8.pe_gc (by rfl) G.NEVER) (pa_cons (C8.pe_gc (by rfl) G.ALWAYS) pa_nil)))))), ?_⟩
    refine ⟨_, rfl, st.go (by decide +kernel) (by decide +kernel) (by decide +kernel) ⟨_, rfl, ?_⟩⟩
    refine ⟨s, N, es, L, [], es, a, 0, 1, A, _, _, rfl, st, rfl, hn, hA, .f, .t, wA, .lf, .lf, by omega, by omega, fun H' M r T f l st' a i => q H' M r T f (by omega) (st'.more (by omega)) a i.1 fun ρ => ?_⟩
    rw [i.2]
    cases A.ev ρ <;> rfl
theorem ok_diff {n : Nat} {f C : Addr} {fd : FuncData} (F : Fun K "differs" "Diagrams.differs" s_Diagrams_differs f fd) (M : Mg mg) (G : DgC K C mg) (c_Diagrams_combine : ClM P w K mg base (n + 2) C "combine" (sp_comb C K n)) (c_Diagrams_negation : ClM P w K mg base (n + 3) C "negation" (sp_neg C K n)) : FnOk P w K mg base CX0 (n + 4) f fd ["self", "first", "second"] (sp_op2 C K n bne) := by
  refine F.ok sc_Diagrams_differs (fun vs H Q E h => ?_) (fun cdv A outer s H vs Q E hr h => ?_)
  · obtain ⟨s, N, es, L, a, b, A, B, rfl, _⟩ := h
    rfl
  · obtain ⟨s, N, es, L, a, b, A, B, rfl, st, hn, hA, hB, wA, wB, z1, z2, q⟩ := h
    have ob := opB_ge es
    refine ⟨_, (pss_one (ps_ret (pe_mt c_Diagrams_combine hr (by first | decide | omega) (pv 0) (pa_cons (pv 1) (pa_cons (pe_mt c_Diagrams_negation hr (by first | decide | omega) (pv 0) (pa_cons (pv 2) pa_nil)) (pa_cons (pv 2) pa_nil)))))), ?_⟩
    refine ⟨_, rfl, st.go (by decide +kernel) (by decide +kernel) (by decide +kernel) ⟨_, rfl, ?_⟩⟩
    refine ⟨_, rfl, st.go (by decide +kernel) (by decide +kernel) (by decide +kernel) ⟨_, rfl, ?_⟩⟩
    refine ⟨s, N, es, L, b, B, rfl, st, hn, hB, wB, by omega, by omega, fun H1 M1 r1 T1 f1 l1 st1 a1 w1 v1 => ?_⟩
    refine ⟨_, rfl, ?_⟩
    refine ⟨s, N ++ M1, es, _, [], es, a, r1, b, A, T1, B, rfl, st1, rfl, hn, hA.mono, a1, hB.mono, wA, w1, wB, by rw [List.length_append]; omega, by omega, fun H2 M2 r2 T2 f2 l2 st2 a2 i2 => ?_⟩
    rw [List.append_assoc] at st2 a2
    refine q H2 (M1 ++ M2) r2 T2 (f1.trans f2) (by rw [List.length_append]; omega) (st2.more (by omega)) a2 i2.1 fun ρ => ?_
    rw [i2.2, v1]
    cases A.ev ρ <;> cases B.ev ρ <;> rfl
theorem ok_dinit {f C : Addr} {fd : FuncData} (F : Fun K "__init__" "Diagrams.__init__" s_Diagrams___init__ f fd) (G : DgC K C mg) : FnOk P w K mg base CX0 1 f fd ["self"] (sp_dinit C K) := by
  refine F.ok sc_Diagrams___init__ (fun vs H Q E h => ?_) (fun cdv A outer s H vs Q E hr h => ?_)
  · obtain ⟨p, dx, rfl, _⟩ := h
    rfl
  · obtain ⟨p, dx, rfl, hp, q⟩ := h
    refine ⟨_, (pss_cons (ps_fld (pv 0) (pe_lst pa_nil) rfl)
      (pss_cons (ps_fld (pv 0) pe_dnewT rfl)
      (pss_one (ps_fld (pv 0) pe_dnewT rfl)))), ?_⟩
    refine ⟨by show 0 ≤ sizeLine; decide, fun k nk => ?_⟩
    have npk : p ≠ k := ne_of_none hp nk
    have e1 : (upd H k (.lst [])) p = some (.ins C dx []) := by rw [upd_ne npk]; exact hp
    refine ⟨_, rfl, p, C, dx, [], rfl, e1, G.cl, G.nK, by show 0 < 1000; decide, ?_⟩
    have f1 : Fd p H (upd (upd H k (.lst [])) p (.ins C dx (putF "kept" (.ref k) []))) := Fd.trans (Fd.new nk) Fd.at
    have ek1 : (upd (upd H k (.lst [])) p (.ins C dx (putF "kept" (.ref k) []))) k = some (.lst []) := by rw [upd_ne npk.symm, upd_same]
    have ep1 : (upd (upd H k (.lst [])) p (.ins C dx (putF "kept" (.ref k) []))) p = some (.ins C dx (putF "kept" (.ref k) [])) := upd_same
    generalize upd (upd H k (.lst [])) p (.ins C dx (putF "kept" (.ref k) [])) = H1 at f1 ek1 ep1
    intro u nu
    have npu : p ≠ u := ne_of_none ep1 nu
    have hu0 : H u = none := by
      cases e : H u with
      | none => rfl
      | some o => exact absurd (f1 u o npu.symm e) (by rw [nu]; exact fun z => nomatch z)
    have nku : k ≠ u := ne_of_none ek1 nu
    have e2 : (upd H1 u (.dT [])) p = some (.ins C dx (putF "kept" (.ref k) [])) := by rw [upd_ne npu]; exact ep1
    refine ⟨_, rfl, p, C, dx, _, rfl, e2, G.cl, G.nN, by show 1 < 1000; decide, ?_⟩
    have f2 : Fd p H1 (upd (upd H1 u (.dT [])) p (.ins C dx (putF "numbers" (.ref u) (putF "kept" (.ref k) [])))) := Fd.trans (Fd.new nu) Fd.at
    have eu2 : (upd (upd H1 u (.dT [])) p (.ins C dx (putF "numbers" (.ref u) (putF "kept" (.ref k) [])))) u = some (.dT []) := by rw [upd_ne npu.symm, upd_same]
    have ep2 : (upd (upd H1 u (.dT [])) p (.ins C dx (putF "numbers" (.ref u) (putF "kept" (.ref k) [])))) p = some (.ins C dx (putF "numbers" (.ref u) (putF "kept" (.ref k) []))) := upd_same
    generalize upd (upd H1 u (.dT [])) p (.ins C dx (putF "numbers" (.ref u) (putF "kept" (.ref k) []))) = H2 at f2 eu2 ep2
    intro m nm
    have npm : p ≠ m := ne_of_none ep2 nm
    have f12 := f1.trans f2
    have hm0 : H m = none := by
      cases e : H m with
      | none => rfl
      | some o => exact absurd (f12 m o npm.symm e) (by rw [nm]; exact fun z => nomatch z)
    have num : u ≠ m := ne_of_none eu2 nm
    have ek2 := f2 k _ npk.symm ek1
    have e3 : (upd H2 m (.dT [])) p = some (.ins C dx (putF "numbers" (.ref u) (putF "kept" (.ref k) []))) := by rw [upd_ne npm]; exact ep2
    refine ⟨_, rfl, p, C, dx, _, rfl, e3, G.cl, G.nM, by show 2 < 1000; decide, ?_⟩
    have f3 : Fd p H2 (upd (upd H2 m (.dT [])) p (.ins C dx (putF "combined" (.ref m) (putF "numbers" (.ref u) (putF "kept" (.ref k) []))))) := Fd.trans (Fd.new nm) Fd.at
    have em3 : (upd (upd H2 m (.dT [])) p (.ins C dx (putF "combined" (.ref m) (putF "numbers" (.ref u) (putF "kept" (.ref k) []))))) m = some (.dT []) := by rw [upd_ne npm.symm, upd_same]
    refine q _ ⟨p, k, u, m⟩ rfl (f12.trans f3) nk hu0 hm0 fun es hes => ⟨⟨dx, ?_⟩, ⟨[], f3 _ _ npk.symm ek2, .nil⟩, ⟨[], f3 _ _ npu.symm eu2, Nat.le_refl _, ⟨fun _ _ _ _ => List.not_mem_nil, fun _ _ _ _ h => nomatch (show none = some _ from h)⟩⟩, ⟨[], em3, Nat.le_refl _, fun _ _ _ _ h => nomatch (show none = some _ from h)⟩, List.nodup_nil, num, hes⟩
    rw [upd_same]
    exact congrArg (fun z => some (HO.ins C dx z)) (sf_mk ⟨p, k, u, m⟩)
end

theorem wne (a b : String) (h : (Str.ofString a == Str.ofString b) = false) : decide (V.str (Str.ofString a) = V.str (Str.ofString b)) = false := by
  refine decide_eq_false fun e => ?_
  rw [V.str.inj e] at h
  have : (Str.ofString b == Str.ofString b) = true := beq_self_eq_true _
  rw [this] at h
  cases h
theorem weq (a : Str) : decide (V.str a = V.str a) = true := decide_eq_true rfl
section
variable {K : PySem.W.Frag}
/-- a tuple's word and the rest -/
theorem dp_tup {H : Hp} {p : V} {ds : List PyData} (h : Dp K H p (.tuple ds)) : ∃ a xs, p = .ref a ∧ SqT K H a xs ∧ DpAll K H xs ds := by
  cases h with
  | tup hs ha => exact ⟨_, _, rfl, hs, ha⟩
theorem dp_two {H : Hp} {xs : List V} {s : Str} {d : PyData} (h : DpAll K H xs [.str s, d]) : ∃ v, xs = [.str s, v] ∧ Dp K H v d := by
  cases h with
  | cons h1 h2 =>
    cases h1
    cases h2 with
    | cons h3 h4 =>
      cases h4
      exact ⟨_, rfl, h3⟩
theorem dp_three {H : Hp} {xs : List V} {s : Str} {d e : PyData} (h : DpAll K H xs [.str s, d, e]) : ∃ v u, xs = [.str s, v, u] ∧ Dp K H v d ∧ Dp K H u e := by
  cases h with
  | cons h1 h2 =>
    cases h1
    cases h2 with
    | cons h3 h4 =>
      cases h4 with
      | cons h5 h6 =>
        cases h6
        exact ⟨_, _, rfl, h3, h5⟩
end

/-! ### data in which lists stand, and what may change beside them -/
mutual
inductive DpL (L : Addr → Prop) (K : PySem.W.Frag) (H : Hp) : V → PyData → Prop
  | non : DpL L K H .non .none
  | bl (b : Bool) : DpL L K H (.bl b) (.bool b)
  | int (i : Int) : DpL L K H (.int i) (.int i)
  | str (x : Str) : DpL L K H (.str x) (.str x)
  | lst {a : Addr} {xs : List V} {ds : List PyData} : L a → H a = some (.lst xs) → DpLs L K H xs ds → DpL L K H (.ref a) (.list ds)
  | tup {a : Addr} {xs : List V} {ds : List PyData} : SqT K H a xs → DpLs L K H xs ds → DpL L K H (.ref a) (.tuple ds)
inductive DpLs (L : Addr → Prop) (K : PySem.W.Frag) (H : Hp) : List V → List PyData → Prop
  | nil : DpLs L K H [] []
  | cons {v : V} {vs : List V} {d : PyData} {ds : List PyData} : DpL L K H v d → DpLs L K H vs ds → DpLs L K H (v :: vs) (d :: ds)
end
def Chg (L : Addr → Prop) (H H' : Hp) : Prop := ∀ b o, H b = some o → (∃ xs, o = .lst xs ∧ ¬ L b) ∨ (∃ C dx fs, o = .ins C dx fs) ∨ H' b = some o
section
variable {L L' : Addr → Prop} {K : PySem.W.Frag} {H H' : Hp}
theorem Chg.of (h : Same H H') : Chg L H H' := fun b o e => .inr (.inr (h b o e))
theorem Chg.fd {p : Addr} (hp : ∃ C dx fs, H p = some (.ins C dx fs)) (h : Fd p H H') : Chg L H H' := fun b o e => by
  by_cases n : b = p
  · subst n
    obtain ⟨C, dx, fs, hz⟩ := hp
    rw [hz] at e
    cases e
    exact .inr (.inl ⟨_, _, _, rfl⟩)
  · exact .inr (.inr (h b o n e))
theorem Chg.at {D : Addr} {zs : List V} {o : HO} (hD : H D = some (.lst zs)) (n : ¬ L D) : Chg L H (upd H D o) := fun b x e => by
  by_cases nb : b = D
  · subst nb
    rw [hD] at e
    cases e
    exact .inl ⟨_, rfl, n⟩
  · exact .inr (.inr (by rw [upd_ne nb]; exact e))
theorem Chg.tup {a : Addr} {xs : List V} (c : Chg L H H') (h : SqT K H a xs) : SqT K H' a xs := by
  rcases h with (h | ⟨o, h⟩) | h
  · rcases c _ _ h with ⟨_, z, _⟩ | ⟨_, _, _, z⟩ | h
    · cases z
    · cases z
    · exact .inl (.inl h)
  · rcases c _ _ h with ⟨_, z, _⟩ | ⟨_, _, _, z⟩ | h
    · cases z
    · cases z
    · exact .inl (.inr ⟨o, h⟩)
  · exact .inr h
mutual
theorem DpL.chg (c : Chg L H H') : ∀ (d : PyData) (v : V), DpL L K H v d → DpL L K H' v d
  | .none, _, h => by cases h; exact .non
  | .bool b, _, h => by cases h; exact .bl b
  | .int i, _, h => by cases h; exact .int i
  | .str x, _, h => by cases h; exact .str x
  | .list ds, _, h => by
    cases h with
    | lst hl hs ha =>
      refine .lst hl ?_ (DpLs.chg c ds _ ha)
      rcases c _ _ hs with ⟨_, _, z⟩ | ⟨_, _, _, z⟩ | h
      · exact absurd hl z
      · cases z
      · exact h
  | .tuple ds, _, h => by
    cases h with
    | tup hs ha => exact .tup (c.tup hs) (DpLs.chg c ds _ ha)
  | .dict _, _, h => by cases h
theorem DpLs.chg (c : Chg L H H') : ∀ (ds : List PyData) (vs : List V), DpLs L K H vs ds → DpLs L K H' vs ds
  | [], _, h => by cases h; exact .nil
  | d :: ds, _, h => by
    cases h with
    | cons h1 h2 => exact .cons (DpL.chg c d _ h1) (DpLs.chg c ds _ h2)
end
mutual
/-- the same under another L, as far as lists stand -/
theorem DpL.wide (w : ∀ a xs, H a = some (.lst xs) → L a → L' a) : ∀ (d : PyData) (v : V), DpL L K H v d → DpL L' K H v d
  | .none, _, h => by cases h; exact .non
  | .bool b, _, h => by cases h; exact .bl b
  | .int i, _, h => by cases h; exact .int i
  | .str x, _, h => by cases h; exact .str x
  | .list ds, _, h => by
    cases h with
    | lst hl hs ha => exact .lst (w _ _ hs hl) hs (DpLs.wide w ds _ ha)
  | .tuple ds, _, h => by
    cases h with
    | tup hs ha => exact .tup hs (DpLs.wide w ds _ ha)
  | .dict _, _, h => by cases h
theorem DpLs.wide (w : ∀ a xs, H a = some (.lst xs) → L a → L' a) : ∀ (ds : List PyData) (vs : List V), DpLs L K H vs ds → DpLs L' K H vs ds
  | [], _, h => by cases h; exact .nil
  | d :: ds, _, h => by
    cases h with
    | cons h1 h2 => exact .cons (DpL.wide w d _ h1) (DpLs.wide w ds _ h2)
end
mutual
theorem DpL.dp : ∀ (d : PyData) (v : V), DpL L K H v d → Dp K H v d
  | .none, _, h => by cases h; exact .non
  | .bool b, _, h => by cases h; exact .bl b
  | .int i, _, h => by cases h; exact .int i
  | .str x, _, h => by cases h; exact .str x
  | .list ds, _, h => by
    cases h with
    | lst _ hs ha => exact .lst (.of hs) (DpLs.dp ds _ ha)
  | .tuple ds, _, h => by
    cases h with
    | tup hs ha => exact .tup hs (DpLs.dp ds _ ha)
  | .dict _, _, h => by cases h
theorem DpLs.dp : ∀ (ds : List PyData) (vs : List V), DpLs L K H vs ds → DpAll K H vs ds
  | [], _, h => by cases h; exact .nil
  | d :: ds, _, h => by
    cases h with
    | cons h1 h2 => exact .cons (DpL.dp d _ h1) (DpLs.dp ds _ h2)
end
mutual
theorem Dp.toL : ∀ (d : PyData) (v : V), tupOnly d = true → Dp K H v d → DpL L K H v d
  | .none, _, _, h => by cases h; exact .non
  | .bool b, _, _, h => by cases h; exact .bl b
  | .int i, _, _, h => by cases h; exact .int i
  | .str x, _, _, h => by cases h; exact .str x
  | .list ds, _, e, _ => by unfold tupOnly at e; cases e
  | .tuple ds, _, e, h => by
    unfold tupOnly at e
    cases h with
    | tup hs ha => exact .tup hs (DpAll.toL ds _ e ha)
  | .dict _, _, _, h => by cases h
theorem DpAll.toL : ∀ (ds : List PyData) (vs : List V), tupOnlys ds = true → DpAll K H vs ds → DpLs L K H vs ds
  | [], _, _, h => by cases h; exact .nil
  | d :: ds, _, e, h => by
    unfold tupOnlys at e
    rw [Bool.and_eq_true] at e
    cases h with
    | cons h1 h2 => exact .cons (Dp.toL d _ e.1 h1) (DpAll.toL ds _ e.2 h2)
end
theorem DpLs.snoc : ∀ {ds : List PyData} {xs : List V} {v : V} {d : PyData}, DpLs L K H xs ds → DpL L K H v d → DpLs L K H (xs ++ [v]) (ds ++ [d])
  | [], _, _, _, h, h2 => by cases h; exact .cons h2 .nil
  | _ :: ds, _, _, _, h, h2 => by
    cases h with
    | cons a b => exact .cons a (DpLs.snoc b h2)
theorem DpLs.len : ∀ {ds : List PyData} {vs : List V}, DpLs L K H vs ds → vs.length = ds.length
  | [], _, h => by cases h; rfl
  | d :: ds, _, h => by
    cases h with
    | cons h1 h2 => exact congrArg (· + 1) (DpLs.len h2)
end

/-! ### the laws' input rows and conditions -/
inductive Bo where
  | and | or | df
def Bo.s : Bo → String
  | .and => "and" | .or => "or" | .df => "differ"
def Bo.f : Bo → Bool → Bool → Bool
  | .and => Bool.and | .or => Bool.or | .df => bne
inductive Tr where
  | con (b : Bool)
  | ther (e : Int)
  | nt (a : Tr)
  | bin (o : Bo) (a b : Tr)
def Tr.d : Tr → PyData
  | .con b => .tuple [.str "constant", .int (if b = true then 1 else 0)]
  | .ther e => .tuple [.str "there", .int e]
  | .nt a => .tuple [.str "not", a.d]
  | .bin o a b => .tuple [.str (Str.ofString o.s), a.d, b.d]
def Tr.ht : Tr → Nat
  | .nt a => a.ht + 1
  | .bin _ a b => max a.ht b.ht + 1
  | _ => 0
def Tr.sz : Tr → Nat
  | .nt a => a.sz + 1
  | .bin _ a b => a.sz + b.sz + 1
  | _ => 1
def Tr.ok (es : List Int) : Tr → Prop
  | .con _ => True
  | .ther e => e ∈ es
  | .nt a => a.ok es
  | .bin _ a b => a.ok es ∧ b.ok es
def Tr.ev : Tr → (Int → Bool) → Bool
  | .con b, _ => b
  | .ther e, r => r e
  | .nt a, r => !(a.ev r)
  | .bin o a b, r => o.f (a.ev r) (b.ev r)
theorem tr_only : ∀ t : Tr, tupOnly t.d = true
  | .con _ => rfl
  | .ther _ => rfl
  | .nt a => by simp [Tr.d, tupOnly, tupOnlys, tr_only a]
  | .bin _ a b => by simp [Tr.d, tupOnly, tupOnlys, tr_only a, tr_only b]
theorem tr_sz : ∀ t : Tr, t.sz + 1 ≤ 2 ^ (t.ht + 1)
  | .con _ => Nat.le_refl _
  | .ther _ => Nat.le_refl _
  | .nt a => by
    have := tr_sz a
    show a.sz + 1 + 1 ≤ 2 ^ (a.ht + 1 + 1)
    rw [Nat.pow_succ]
    have : 1 ≤ 2 ^ (a.ht + 1) := Nat.one_le_two_pow
    omega
  | .bin _ a b => by
    have h1 := Nat.le_trans (tr_sz a) (Nat.pow_le_pow_right (by decide) (show a.ht + 1 ≤ max a.ht b.ht + 1 by omega))
    have h2 := Nat.le_trans (tr_sz b) (Nat.pow_le_pow_right (by decide) (show b.ht + 1 ≤ max a.ht b.ht + 1 by omega))
    show a.sz + b.sz + 1 + 1 ≤ 2 ^ (max a.ht b.ht + 1 + 1)
    rw [Nat.pow_succ]
    omega
/-- it goes by the input rows of the list alone -/
theorem tr_agree {es : List Int} : ∀ {t : Tr} {r q : Int → Bool}, t.ok es → (∀ e ∈ es, r e = q e) → t.ev r = t.ev q
  | .con _, _, _, _, _ => rfl
  | .ther e, _, _, h, g => g e h
  | .nt a, r, q, h, g => congrArg not (tr_agree (t := a) h g)
  | .bin o a b, r, q, h, g => by
    show o.f _ _ = o.f _ _
    rw [tr_agree (t := a) h.1 g, tr_agree (t := b) h.2 g]
theorem wf_agree {es : List Int} {a : Bd} (h : Wf es a) : ∀ {r q : Int → Bool}, (∀ e ∈ es, r e = q e) → a.ev r = a.ev q := by
  induction h with
  | lf => intros; rfl
  | @here x es w t _ _ _ iw it =>
    intro r q g
    have gx := g x List.mem_cons_self
    have g' := fun e he => g e (List.mem_cons_of_mem _ he)
    show (if r x = true then t.ev r else w.ev r) = if q x = true then t.ev q else w.ev q
    rw [gx, iw g', it g']
  | skip _ ih =>
    intro r q g
    exact ih fun e he => g e (List.mem_cons_of_mem _ he)
/-- the input rows: a few, ascending -/
def EnA (H : Hp) (a d c : Addr) (es : List Int) (most : Nat) : Prop := a ≠ d ∧ a ≠ c ∧ H a = some (.lst (es.map V.int)) ∧ es.Pairwise (· < ·) ∧ 1 ≤ es.length ∧ es.length ≤ most ∧ ∀ e ∈ es, 0 ≤ e ∧ e < 1000
theorem EnA.fd {H H' : Hp} {a d c : Addr} {es : List Int} {most : Nat} (f : Fd d H H') (h : EnA H a d c es most) : EnA H' a d c es most := ⟨h.1, h.2.1, f _ _ h.1 h.2.2.1, h.2.2.2⟩
def sp_ents (most : Nat) : Sp := fun vs H Q _ => ∃ (d c : Addr), vs = [.ref d, .int (most : Nat)] ∧ 1 ≤ most ∧ most ≤ 8 ∧ Dr H d c ∧ ∀ H' a es, Fd d H H' → Dr H' d c → H a = none → EnA H' a d c es most → Q (.ref a) H'
def sp_ltr (K : PySem.W.Frag) (n : Nat) : Sp := fun vs H Q _ => ∃ (d c a : Addr) (es : List Int) (most m : Nat), vs = [.ref d, .ref a, .int (m : Nat)] ∧ m < n ∧ Dr H d c ∧ EnA H a d c es most ∧ most ≤ 8 ∧ ∀ H' p (t : Tr), Fd d H H' → Dr H' d c → t.ok es → t.ht ≤ m → Dp K H' p t.d → Q p H'
section
variable {P : Program} {w : World} {K : PySem.W.Frag} {mg : Str → Option Value} {base : Heap}
theorem ok_ents {f : Addr} {fd : FuncData} (most : Nat) (F : Fun K "_law_entries" "_law_entries" s__law_entries f fd) (M : Mg mg) (c__law_next : Cl P w K mg base 1 "_law_next" sp_next) : FnOk P w K mg base CX0 2 f fd ["draw", "most"] (sp_ents most) := by
  refine F.ok sc__law_entries (fun vs H Q E h => ?_) (fun cdv A outer s H vs Q E hr h => ?_)
  · obtain ⟨d, c, rfl, _⟩ := h
    rfl
  · obtain ⟨d, c, rfl, hm1, hm2, dr, q⟩ := h
    refine ⟨_, (pss_cons (ps_set (i := 2) sc__law_entries.nd rfl (.inl rfl) (pe_lst pa_nil))
      (pss_cons (ps_set (i := 3) sc__law_entries.nd rfl (.inl rfl) (pe_u c__law_next hr (by first | decide | omega) (by rfl) (pa_cons (pv 0) (pa_cons pe_int pa_nil))))
      (pss_cons (ps_for PassesOwn.never rfl (pi_range1 (by rfl) M.range (pa_cons (pe_op op_add pe_int (pe_u c__law_next hr (by first | decide | omega) (by rfl) (pa_cons (pv 0) (pa_cons (pv 1) pa_nil)))) pa_nil)) (pg_name (i := 4) sc__law_entries.nd rfl (.inl rfl)) (pss_cons (ps_expr (pe_bmK K PySem.F.plainAttrs_list PySem.F.slot_list_append PySem.F.type_list_append mt_append (pv 2) (pa_cons (pv 3) pa_nil)))
      (pss_one (ps_set (i := 3) sc__law_entries.nd rfl (.inl rfl) (pe_op op_add (pe_op op_add (pv 3) pe_int) (pe_op op_mul (pe_u c__law_next hr (by first | decide | omega) (by rfl) (pa_cons (pv 0) (pa_cons pe_int pa_nil))) (pe_u c__law_next hr (by first | decide | omega) (by rfl) (pa_cons (pv 0) (pa_cons pe_int pa_nil)))))))))
      (pss_one (ps_ret (pv 2)))))), ?_⟩
    refine ⟨by show 0 ≤ sizeLine; decide, fun a na => ?_⟩
    have nad := dr.nd na
    have nac := dr.nc na
    have dr1 := dr.ext (same_upd na (o := .lst []))
    refine ⟨_, rfl, d, c, 3, rfl, dr1, by decide, by decide, fun H2 r f2 _ dr2 r0 r1 => ?_⟩
    refine ⟨_, rfl, _, rfl, d, c, (most : Nat), rfl, dr2, by omega, by omega, fun H3 z f3 _ dr3 z0 z1 => ?_⟩
    refine ⟨_, _, rfl, rfl, _, rfl, by omega, by omega, ?_⟩
    have ea3 : H3 a = some (.lst (([] : List Int).map V.int)) := f3 _ _ nad (f2 _ _ nad upd_same)
    refine for_range (lo := 0) (n := (1 + z).toNat) (fun i σ Hi => Fd d H Hi ∧ Dr Hi d c ∧ ∃ (es : List Int) (last : Int) (y : Option V), σ = [some (.ref d), some (.int (most : Nat)), some (.ref a), some (.int last), y] ∧ Hi a = some (.lst (es.map V.int)) ∧ es.length = i ∧ es.Pairwise (· < ·) ∧ (∀ e ∈ es, 0 ≤ e ∧ e < last) ∧ 0 ≤ last ∧ last ≤ 2 + 100 * i) ⟨((Fd.new na).trans f2).trans f3, dr3, [], r, none, rfl, ea3, rfl, .nil, (fun _ h => by cases h), r0, by omega⟩ (fun i σ Hi hi hp => ?_) (fun σ Hn hp => ?_)
    · obtain ⟨fi, di, es, last, y, rfl, ea, el, ep, eb, l0, l1⟩ := hp
      refine ⟨_, rfl, .inl ⟨rfl, _, .inl (.inl ea)⟩, _, rfl, a, _, _, rfl, rfl, ea, by rw [List.length_map, el]; exact Nat.lt_of_lt_of_le (m := 100) (by omega) (by decide), ?_⟩
      have di2 := di.upd nad nac (o := .lst (es.map V.int ++ [.int last]))
      refine ⟨_, rfl, _, _, rfl, rfl, _, rfl, d, c, 2, rfl, di2, by decide, by decide, fun H5 r5 f5 _ dr5 r50 r51 => ?_⟩
      refine ⟨_, rfl, d, c, 90, rfl, dr5, by decide, by decide, fun H6 r6 f6 _ dr6 r60 r61 => ?_⟩
      refine ⟨_, _, rfl, rfl, .inl ⟨by omega, by omega⟩, _, _, rfl, rfl, ?_⟩
      have hmul : 0 ≤ r5 * r6 ∧ r5 * r6 ≤ 89 := by
        have : r5 = 0 ∨ r5 = 1 := by omega
        rcases this with rfl | rfl
        · simp
        · rw [Int.one_mul]; omega
      refine ⟨?_, dr6, es ++ [last], _, _, rfl, ?_, ?_, ?_, ?_, by omega, by omega⟩
      · intro b o nb e
        refine f6 _ _ nb (f5 _ _ nb ?_)
        rw [upd_ne (ne_of_none e na)]
        exact fi _ _ nb e
      · rw [f6 _ _ nad (f5 _ _ nad upd_same), List.map_append]
        rfl
      · rw [List.length_append, el]
        rfl
      · rw [List.pairwise_append]
        exact ⟨ep, List.pairwise_singleton _ _, fun x hx y hy => by rw [List.mem_singleton.mp hy]; exact (eb x hx).2⟩
      · intro e he
        rcases List.mem_append.mp he with he | he
        · have := eb e he
          omega
        · rw [List.mem_singleton.mp he]
          omega
    · obtain ⟨fi, di, es, last, y, rfl, ea, el, ep, eb, l0, l1⟩ := hp
      refine ⟨_, rfl, q Hn a es fi di na ⟨nad, nac, ea, ep, by omega, by omega, fun e he => ?_⟩⟩
      have := eb e he
      omega
theorem ok_ltr {f : Addr} {fd : FuncData} (n : Nat) (F : Fun K "_law_tree" "_law_tree" s__law_tree f fd) (M : Mg mg) (c__law_next : Cl P w K mg base 1 "_law_next" sp_next) (c__law_tree : Cl P w K mg base (n + 1) "_law_tree" (sp_ltr K n)) : FnOk P w K mg base CX0 (n + 2) f fd ["draw", "entries", "depth"] (sp_ltr K (n + 1)) := by
  refine F.ok sc__law_tree (fun vs H Q E h => ?_) (fun cdv A outer s H vs Q E hr h => ?_)
  · obtain ⟨d, c, a, es, most, m, rfl, _⟩ := h
    rfl
  · obtain ⟨d, c, a, es, most, m, rfl, hm, dr, en, hmo, q⟩ := h
    refine ⟨_, (pss_cons (ps_set (i := 3) sc__law_tree.nd rfl (.inl rfl) (pe_u c__law_next hr (by first | decide | omega) (by rfl) (pa_cons (pv 0) (pa_cons pe_int pa_nil))))
      (pss_cons (ps_if (PW.pt (pw_or (pt_cmpR op_eq (pv 2) pe_int (nomark _)) (pw_or1 (pt_cmpR op_lt (pv 3) pe_int (nomark _))))) (pss_cons (ps_if (pt_cmpR op_eq (pe_u c__law_next hr (by first | decide | omega) (by rfl) (pa_cons (pv 0) (pa_cons pe_int pa_nil))) pe_int (nomark _)) (pss_one (ps_ret (pe_tup (pa_cons pe_str (pa_cons (pe_u c__law_next hr (by first | decide | omega) (by rfl) (pa_cons (pv 0) (pa_cons pe_int pa_nil))) pa_nil))))) pss_nil)
      (pss_one (ps_ret (pe_tup (pa_cons pe_str (pa_cons (pe_ix (ix_listK K) (pv 1) (pe_u c__law_next hr (by first | decide | omega) (by rfl) (pa_cons (pv 0) (pa_cons (pe_callB (len_seqK K) (by rfl) M.len PySem.boot_len (pa_cons (pv 1) pa_nil)) pa_nil))) (fun _ _ => rfl)) pa_nil)))))) pss_nil)
      (pss_cons (ps_if (pt_cmpR op_eq (pv 3) pe_int (nomark _)) (pss_one (ps_ret (pe_tup (pa_cons pe_str (pa_cons (pe_u c__law_tree hr (by first | decide | omega) (by rfl) (pa_cons (pv 0) (pa_cons (pv 1) (pa_cons (pe_op op_sub (pv 2) pe_int) pa_nil)))) pa_nil))))) pss_nil)
      (pss_cons (ps_set (i := 4) sc__law_tree.nd rfl (.inl rfl) (pe_u c__law_tree hr (by first | decide | omega) (by rfl) (pa_cons (pv 0) (pa_cons (pv 1) (pa_cons (pe_op op_sub (pv 2) pe_int) pa_nil)))))
      (pss_one (ps_ret (pe_tup (pa_cons (pe_ix (ix_listK K) (pe_lst (pa_cons pe_str (pa_cons pe_str (pa_cons pe_str pa_nil)))) (pe_op op_mod (pv 3) pe_int) (fun _ _ => rfl)) (pa_cons (pv 4) (pa_cons (pe_u c__law_tree hr (by first | decide | omega) (by rfl) (pa_cons (pv 0) (pa_cons (pv 1) (pa_cons (pe_op op_sub (pv 2) pe_int) pa_nil)))) pa_nil)))))))))), ?_⟩
    refine ⟨_, rfl, d, c, 9, rfl, dr, by decide, by decide, fun H1 r f1 _ dr1 r0 r1 => ?_⟩
    have en1 := en.fd f1
    by_cases hd : m = 0 ∨ r < 2
    · refine ⟨_, rfl, rfl, _, rfl, ?_⟩
      refine ite2 (fun e => iteT ?_) (fun e => ⟨_, rfl, _, _, rfl, rfl, _, rfl, ?x⟩)
      case' x =>
        rw [decide_eq_true (show r < 2 by
          rcases hd with rfl | h
          · exact absurd (decide_eq_true rfl) e
          · exact h)]
        refine iteT ?_
      all_goals
        refine ⟨_, rfl, d, c, 12, rfl, dr1, by decide, by decide, fun H2 r2 f2 _ dr2 r20 r21 => ?_⟩
        have en2 := en1.fd f2
        refine ⟨rfl, _, rfl, ite2 (fun e => ?_) (fun e => ?_)⟩
        · refine ⟨_, rfl, d, c, 2, rfl, dr2, by decide, by decide, fun H3 r3 f3 _ dr3 r30 r31 => ?_⟩
          refine ⟨by show 2 ≤ sizeLine; decide, fun p np => ?_⟩
          obtain ⟨b, rfl⟩ : ∃ b : Bool, r3 = if b = true then 1 else 0 := by
            by_cases h : r3 = 1
            · exact ⟨true, h⟩
            · exact ⟨false, by show r3 = 0; omega⟩
          exact q _ _ (.con b) (((f1.trans f2).trans f3).trans (Fd.new np)) (dr3.ext (same_upd np)) trivial (Nat.zero_le _) (.tup (.inl (.inl upd_same)) (.cons (.str _) (.cons (.int _) .nil)))
        · refine ⟨_, rfl, _, rfl, _, rfl, a, _, rfl, .inl (.of en2.2.2.1), ?_⟩
          rw [List.length_map]
          have l1 := en2.2.2.2.2.1
          have l2 := en2.2.2.2.2.2.1
          refine ⟨d, c, _, rfl, dr2, by omega, by omega, fun H3 r3 f3 _ dr3 r30 r31 => ?_⟩
          obtain ⟨k3, rfl⟩ := Int.eq_ofNat_of_zero_le r30
          have hk3 : k3 < es.length := by omega
          have en3 := en2.fd f3
          refine ⟨a, _, _, .int es[k3], rfl, rfl, .of en3.2.2.1, atI_nat (by rw [List.getElem?_map, List.getElem?_eq_getElem hk3]; rfl), ?_⟩
          refine ⟨by show 2 ≤ sizeLine; decide, fun p np => ?_⟩
          exact q _ _ (.ther es[k3]) (((f1.trans f2).trans f3).trans (Fd.new np)) (dr3.ext (same_upd np)) (List.getElem_mem hk3) (Nat.zero_le _) (.tup (.inl (.inl upd_same)) (.cons (.str _) (.cons (.int _) .nil)))
    · obtain ⟨k, rfl⟩ : ∃ k, m = k + 1 := ⟨m - 1, by omega⟩
      have dec : [V.ref d, V.ref a, V.int (((k + 1 : Nat) : Int) - 1)] = [V.ref d, V.ref a, V.int (k : Nat)] := by rw [show (((k + 1 : Nat) : Int) - 1) = (k : Nat) by omega]
      refine ⟨_, rfl, rfl, _, rfl, ?_⟩
      rw [show decide (V.int ((k + 1 : Nat) : Int) = V.int 0) = false from decide_eq_false fun z => by have := V.int.inj z; omega]
      refine iteF ⟨_, rfl, _, _, rfl, rfl, _, rfl, ?_⟩
      rw [decide_eq_false (show ¬ r < 2 by omega)]
      refine iteF ?_
      refine ⟨_, rfl, rfl, _, rfl, ite2 (fun e => ?_) (fun e => ?_)⟩
      · refine ⟨_, rfl, _, rfl, _, rfl, _, _, rfl, rfl, d, c, a, es, most, k, dec, by omega, dr1, en1, hmo, fun H2 p1 t1 f2 dr2 ok1 ht1 dp1 => ?_⟩
        refine ⟨by show 2 ≤ sizeLine; decide, fun p np => ?_⟩
        exact q _ _ (.nt t1) ((f1.trans f2).trans (Fd.new np)) (dr2.ext (same_upd np)) ok1 (by show t1.ht + 1 ≤ k + 1; omega) (.tup (.inl (.inl upd_same)) (.cons (.str _) (.cons (Dp.ext (same_upd np) _ _ dp1) .nil)))
      · refine ⟨_, rfl, _, rfl, _, rfl, _, _, rfl, rfl, d, c, a, es, most, k, dec, by omega, dr1, en1, hmo, fun H2 p1 t1 f2 dr2 ok1 ht1 dp1 => ?_⟩
        refine ⟨by show 3 ≤ sizeLine; decide, fun wp nwp => ?_⟩
        have sw := same_upd nwp (o := .lst [.str "and", .str "or", .str "differ"])
        have ew : (upd H2 wp (.lst [.str "and", .str "or", .str "differ"])) wp = some (.lst [.str "and", .str "or", .str "differ"]) := upd_same
        generalize upd H2 wp (.lst [.str "and", .str "or", .str "differ"]) = H3 at sw ew
        have dr3 := dr2.ext sw
        have en3 := (en1.fd f2).fd (Fd.of sw)
        have dp3 := Dp.ext sw _ _ dp1
        have fin : ∀ (o : Bo), r % 3 = (match o with | .and => 0 | .or => 1 | .df => 2) → atI [V.str "and", V.str "or", V.str "differ"] (r % 3) = some (.str (Str.ofString o.s)) := fun o h => by
          rw [h]
          cases o with
          | and => exact atI_nat (j := 0) rfl
          | or => exact atI_nat (j := 1) rfl
          | df => exact atI_nat (j := 2) rfl
        obtain ⟨o, ho⟩ : ∃ o : Bo, r % 3 = (match o with | .and => 0 | .or => 1 | .df => 2) := by
          have : r % 3 = 0 ∨ r % 3 = 1 ∨ r % 3 = 2 := by omega
          rcases this with h | h | h
          · exact ⟨.and, h⟩
          · exact ⟨.or, h⟩
          · exact ⟨.df, h⟩
        refine ⟨_, rfl, _, _, rfl, rfl, by show (0 : Int) < 3; decide, wp, _, _, _, rfl, rfl, .of ew, fin o ho, ?_⟩
        refine ⟨_, rfl, ?_⟩
        refine ⟨_, rfl, _, rfl, _, rfl, _, _, rfl, rfl, d, c, a, es, most, k, dec, by omega, dr3, en3, hmo, fun H4 p2 t2 f4 dr4 ok2 ht2 dp2 => ?_⟩
        have dp4 := Dp.fd dr3.lst f4 _ _ (tr_only t1) dp3
        refine ⟨by show 3 ≤ sizeLine; decide, fun p np => ?_⟩
        exact q _ _ (.bin o t1 t2) ((((f1.trans f2).trans (Fd.of sw)).trans f4).trans (Fd.new np)) (dr4.ext (same_upd np)) ⟨ok1, ok2⟩ (by show max t1.ht t2.ht + 1 ≤ k + 1; omega) (.tup (.inl (.inl upd_same)) (.cons (.str _) (.cons (Dp.ext (same_upd np) _ _ dp4) (.cons (Dp.ext (same_upd np) _ _ dp2) .nil))))
theorem cl_ltr {f : Addr} {fd : FuncData} (F : Fun K "_law_tree" "_law_tree" s__law_tree f fd) (M : Mg mg) (g : mg "_law_tree" = some (.ref f)) (b : Binds K fd ["draw", "entries", "depth"] []) (c__law_next : Cl P w K mg base 1 "_law_next" sp_next) : ∀ n, Cl P w K mg base (n + 1) "_law_tree" (sp_ltr K n)
  | 0 => FnOk.cl (P := P) (w := w) (base := base) (F.ok sc__law_tree (fun vs H Q E h => by obtain ⟨d, c, a, es, most, m, rfl, _⟩ := h; rfl) (fun cdv A outer s H vs Q E hr h => by obtain ⟨d, c, a, es, most, m, rfl, hm, _⟩ := h; omega)) F g b
  | n + 1 => FnOk.cl (ok_ltr n F M c__law_next (cl_ltr F M g b c__law_next n)) F g b
end

/-! ### the laws' building of conditions, their truth, the sets -/
def sp_build (C : Addr) (K : PySem.W.Frag) (m n : Nat) : Sp := fun vs H Q _ => ∃ s N es L v t, vs = [.ref s.p, v] ∧ Sto C K H s N es L ∧ es.length < m ∧ Tr.ok es t ∧ Tr.ht t < n ∧ Dp K H v t.d ∧ N.length + t.sz * opB es < sizeLine ∧ L + t.sz * opB es < sizeLine ∧
  ∀ H' M r T, FdS s H H' → M.length ≤ t.sz * opB es → Sto C K H' s (N ++ M) es (L + t.sz * opB es) → At (N ++ M) r T → Wf es T → (∀ ρ, T.ev ρ = t.ev ρ) → Q (.int ((r : Nat) : Int)) H'
def sp_true (K : PySem.W.Frag) (n : Nat) : Sp := fun vs H Q _ => ∃ v a t, ∃ ps : List Int, vs = [v, .ref a] ∧ Dp K H v (Tr.d t) ∧ SqL K H a (ps.map V.int) ∧ t.ht < n ∧ Q (.bl (t.ev fun e => decide (e ∈ ps))) H
/-- all sets of input rows, in the law's order -/
def subs (es : List Int) : List (List Int) := es.foldl (fun f e => f ++ f.map (· ++ [e])) [[]]
theorem subs_snoc (es : List Int) (e : Int) : subs (es ++ [e]) = subs es ++ (subs es).map (· ++ [e]) := by
  unfold subs
  rw [List.foldl_append]
  rfl
theorem subs_len (es : List Int) : (subs es).length = 2 ^ es.length := by
  have h : ∀ (es : List Int) (f : List (List Int)), (es.foldl (fun f e => f ++ f.map (· ++ [e])) f).length = f.length * 2 ^ es.length := by
    intro es
    induction es with
    | nil => intro f; simp
    | cons e es ih =>
      intro f
      rw [List.foldl_cons, ih, List.length_append, List.length_map, List.length_cons, Nat.pow_succ, ← Nat.two_mul, Nat.mul_comm 2 f.length, Nat.mul_assoc, Nat.mul_comm 2]
  rw [subs, h]
  simp
theorem subs_le (es : List Int) : ∀ p ∈ subs es, p.length ≤ es.length ∧ ∀ e ∈ p, e ∈ es := by
  have h : ∀ (es all : List Int) (f : List (List Int)) (k : Nat), (∀ e ∈ es, e ∈ all) → (∀ p ∈ f, p.length ≤ k ∧ ∀ e ∈ p, e ∈ all) → ∀ p ∈ es.foldl (fun f e => f ++ f.map (· ++ [e])) f, p.length ≤ k + es.length ∧ ∀ e ∈ p, e ∈ all := by
    intro es all
    induction es with
    | nil => intro f k _ h; exact h
    | cons e es ih =>
      intro f k ha h p hp
      rw [List.foldl_cons] at hp
      have := ih _ (k + 1) (fun x hx => ha x (List.mem_cons_of_mem _ hx)) (fun q hq => by
        rcases List.mem_append.mp hq with hq | hq
        · have := h q hq
          exact ⟨by omega, this.2⟩
        · obtain ⟨q', hq', rfl⟩ := List.mem_map.mp hq
          have := h q' hq'
          refine ⟨by rw [List.length_append]; exact Nat.add_le_add_right this.1 1, fun x hx => ?_⟩
          rcases List.mem_append.mp hx with hx | hx
          · exact this.2 x hx
          · rw [List.mem_singleton.mp hx]
            exact ha e List.mem_cons_self) p hp
      rw [List.length_cons]
      exact ⟨by omega, this.2⟩
  intro p hp
  have := h es es [[]] 0 (fun _ h => h) (fun p hp => by rw [List.mem_singleton.mp hp]; exact ⟨Nat.le_refl _, fun _ h => by cases h⟩) p hp
  rw [Nat.zero_add] at this
  exact this
/-- a list of lists of numbers -/
def LL (H : Hp) (p : Addr) (ls : List (List Int)) : Prop := ∃ as : List Addr, H p = some (.lst (as.map V.ref)) ∧ as.length = ls.length ∧ ∀ (i : Nat) b l, as[i]? = some b → ls[i]? = some l → H b = some (.lst (l.map V.int))
theorem LL.ext {H H' : Hp} {p : Addr} {ls : List (List Int)} (e : Same H H') (h : LL H p ls) : LL H' p ls := by
  obtain ⟨as, h1, h2, h3⟩ := h
  exact ⟨as, e _ _ h1, h2, fun i b l g1 g2 => e _ _ (h3 i b l g1 g2)⟩
theorem LL.get {H : Hp} {p : Addr} {ls : List (List Int)} (h : LL H p ls) : ∃ as : List Addr, H p = some (.lst (as.map V.ref)) ∧ as.length = ls.length ∧ ∀ (i : Nat) v, (as.map V.ref)[i]? = some v → ∃ b l, v = .ref b ∧ ls[i]? = some l ∧ H b = some (.lst (l.map V.int)) := by
  obtain ⟨as, h1, h2, h3⟩ := h
  refine ⟨as, h1, h2, fun i v hv => ?_⟩
  rw [List.getElem?_map] at hv
  obtain ⟨b, hb, rfl⟩ := Option.map_eq_some_iff.mp hv
  have hi : i < ls.length := by rw [← h2]; exact (List.getElem?_eq_some_iff.mp hb).1
  exact ⟨b, ls[i], rfl, List.getElem?_eq_getElem hi, h3 i b _ hb (List.getElem?_eq_getElem hi)⟩
def sp_subs : Sp := fun vs H Q _ => ∃ a, ∃ es : List Int, vs = [.ref a] ∧ H a = some (.lst (es.map V.int)) ∧ es.length ≤ 10 ∧ ∀ H' p, Same H H' → H p = none → LL H' p (subs es) → Q (.ref p) H'
theorem LL.app {H : Hp} {p q a b : Addr} {ls ms : List (List Int)} {xs ys : List V} (np : H p = none) (h1 : LL H a ls) (h2 : LL H b ms) (e1 : H a = some (.lst xs)) (e2 : H b = some (.lst ys)) : LL (upd H p (.lst (xs ++ ys))) p (ls ++ ms) := by
  obtain ⟨as, g1, g2, g3⟩ := h1
  obtain ⟨bs, k1, k2, k3⟩ := h2
  have ex : xs = as.map V.ref := by rw [g1] at e1; exact (HO.lst.inj (Option.some.inj e1)).symm
  have ey : ys = bs.map V.ref := by rw [k1] at e2; exact (HO.lst.inj (Option.some.inj e2)).symm
  refine ⟨as ++ bs, by rw [upd_same, ex, ey, List.map_append], by rw [List.length_append, List.length_append, g2, k2], fun i c l hc hl => ?_⟩
  refine same_upd np _ _ ?_
  by_cases hi : i < as.length
  · rw [List.getElem?_append_left hi] at hc
    rw [List.getElem?_append_left (by omega)] at hl
    exact g3 i c l hc hl
  · rw [List.getElem?_append_right (by omega)] at hc
    rw [List.getElem?_append_right (by omega), ← g2] at hl
    exact k3 _ c l hc hl
theorem Wf.one {es : List Int} {x : Int} (h : x ∈ es) : Wf es (.nd x (.lf false) (.lf true)) := by
  obtain ⟨pre, post, rfl⟩ := List.append_of_mem h
  exact (Wf.here .lf .lf (fun z => by cases z)).skips pre
section
variable {P : Program} {w : World} {K : PySem.W.Frag} {mg : Str → Option Value} {base : Heap}
theorem ok_true (n : Nat) {f : Addr} {fd : FuncData} (F : Fun K "_law_true" "_law_true" s__law_true f fd) (M : Mg mg) (c__law_true : Cl P w K mg base (n + 1) "_law_true" (sp_true K n)) : FnOk P w K mg base CX0 (n + 2) f fd ["tree", "present"] (sp_true K (n + 1)) := by
  refine F.ok sc__law_true (fun vs H Q E h => ?_) (fun cdv A outer s H vs Q E hr h => ?_)
  · obtain ⟨v, a, t, ps, rfl, _⟩ := h
    rfl
  · obtain ⟨v, a, t, ps, rfl, dp, ha, hn, q⟩ := h
    refine ⟨_, (pss_cons (ps_if (pt_cmpR op_eq (pe_ix (ix_tupK K) (pv 0) pe_int (fun _ _ => rfl)) pe_str (nomark _)) (pss_one (ps_ret (pe_cmpR op_eq (pe_ix (ix_tupK K) (pv 0) pe_int (fun _ _ => rfl)) pe_int (nomark _)))) pss_nil)
      (pss_cons (ps_if (pt_cmpR op_eq (pe_ix (ix_tupK K) (pv 0) pe_int (fun _ _ => rfl)) pe_str (nomark _)) (pss_one (ps_ret (pe_cmpR (inK K) (pe_ix (ix_tupK K) (pv 0) pe_int (fun _ _ => rfl)) (pv 1) (by rfl)))) pss_nil)
      (pss_cons (ps_set (i := 2) sc__law_true.nd rfl (.inl rfl) (pe_u c__law_true hr (by first | decide | omega) (by rfl) (pa_cons (pe_ix (ix_tupK K) (pv 0) pe_int (fun _ _ => rfl)) (pa_cons (pv 1) pa_nil))))
      (pss_cons (ps_if (pt_cmpR op_eq (pe_ix (ix_tupK K) (pv 0) pe_int (fun _ _ => rfl)) pe_str (nomark _)) (pss_one (ps_ret (pe_not (pv 2)))) pss_nil)
      (pss_cons (ps_set (i := 3) sc__law_true.nd rfl (.inl rfl) (pe_u c__law_true hr (by first | decide | omega) (by rfl) (pa_cons (pe_ix (ix_tupK K) (pv 0) pe_int (fun _ _ => rfl)) (pa_cons (pv 1) pa_nil))))
      (pss_cons (ps_if (pt_cmpR op_eq (pe_ix (ix_tupK K) (pv 0) pe_int (fun _ _ => rfl)) pe_str (nomark _)) (pss_one (ps_ret (pe_and (pv 2) (pe_one (pv 3))))) pss_nil)
      (pss_one (ps_ret (pe_ifExp (pt_cmpR op_eq (pe_ix (ix_tupK K) (pv 0) pe_int (fun _ _ => rfl)) pe_str (nomark _)) (pe_or (pv 2) (pe_one (pv 3))) (pe_cmpR op_ne (pv 2) (pv 3) (nomark _))))))))))), ?_⟩
    cases t with
    | con b =>
      obtain ⟨p, xs, rfl, hs, hx⟩ := dp_tup dp
      obtain ⟨u, rfl, hu⟩ := dp_two hx
      cases hu
      refine ⟨_, rfl, p, _, _, _, rfl, rfl, hs, atI_nat (j := 0) rfl, rfl, _, rfl, ?_⟩
      rw [weq]
      refine iteT ⟨_, rfl, p, _, _, _, rfl, rfl, hs, atI_nat (j := 1) rfl, rfl, ?_⟩
      cases b with
      | true => exact q
      | false => exact q
    | ther e =>
      obtain ⟨p, xs, rfl, hs, hx⟩ := dp_tup dp
      obtain ⟨u, rfl, hu⟩ := dp_two hx
      cases hu
      refine ⟨_, rfl, p, _, _, _, rfl, rfl, hs, atI_nat (j := 0) rfl, rfl, _, rfl, ?_⟩
      rw [wne "there" "constant" (by decide +kernel)]
      refine iteF ⟨_, rfl, p, _, _, _, rfl, rfl, hs, atI_nat (j := 0) rfl, rfl, _, rfl, ?_⟩
      rw [weq]
      refine iteT ⟨_, rfl, p, _, _, _, rfl, rfl, hs, atI_nat (j := 1) rfl, _, rfl, a, _, rfl, .inl ha, rfl, ints_flat ps, ?_⟩
      rw [if_neg Bool.false_ne_true, inV_int]
      exact q
    | nt t1 =>
      obtain ⟨p, xs, rfl, hs, hx⟩ := dp_tup dp
      obtain ⟨u, rfl, hu⟩ := dp_two hx
      have hn : t1.ht + 1 < n + 1 := hn
      refine ⟨_, rfl, p, _, _, _, rfl, rfl, hs, atI_nat (j := 0) rfl, rfl, _, rfl, ?_⟩
      rw [wne "not" "constant" (by decide +kernel)]
      refine iteF ⟨_, rfl, p, _, _, _, rfl, rfl, hs, atI_nat (j := 0) rfl, rfl, _, rfl, ?_⟩
      rw [wne "not" "there" (by decide +kernel)]
      refine iteF ⟨_, rfl, p, _, _, _, rfl, rfl, hs, atI_nat (j := 1) rfl, _, rfl, u, a, t1, ps, rfl, hu, ha, by omega, ?_⟩
      refine ⟨_, rfl, p, _, _, _, rfl, rfl, hs, atI_nat (j := 0) rfl, rfl, _, rfl, ?_⟩
      rw [weq]
      exact iteT ⟨_, rfl, _, rfl, q⟩
    | bin o t1 t2 =>
      obtain ⟨p, xs, rfl, hs, hx⟩ := dp_tup dp
      obtain ⟨u, u2, rfl, hu, hu2⟩ := dp_three hx
      have hn : max t1.ht t2.ht + 1 < n + 1 := hn
      refine ⟨_, rfl, p, _, _, _, rfl, rfl, hs, atI_nat (j := 0) rfl, rfl, _, rfl, ?_⟩
      rw [wne o.s "constant" (by cases o <;> decide +kernel)]
      refine iteF ⟨_, rfl, p, _, _, _, rfl, rfl, hs, atI_nat (j := 0) rfl, rfl, _, rfl, ?_⟩
      rw [wne o.s "there" (by cases o <;> decide +kernel)]
      refine iteF ⟨_, rfl, p, _, _, _, rfl, rfl, hs, atI_nat (j := 1) rfl, _, rfl, u, a, t1, ps, rfl, hu, ha, by omega, ?_⟩
      refine ⟨_, rfl, p, _, _, _, rfl, rfl, hs, atI_nat (j := 0) rfl, rfl, _, rfl, ?_⟩
      rw [wne o.s "not" (by cases o <;> decide +kernel)]
      refine iteF ⟨_, rfl, p, _, _, _, rfl, rfl, hs, atI_nat (j := 2) rfl, _, rfl, u2, a, t2, ps, rfl, hu2, ha, by omega, ?_⟩
      refine ⟨_, rfl, p, _, _, _, rfl, rfl, hs, atI_nat (j := 0) rfl, rfl, _, rfl, ?_⟩
      cases o with
      | and =>
        rw [show decide (V.str (Str.ofString Bo.and.s) = V.str "and") = true from weq "and"]
        refine iteT ⟨_, rfl, _, rfl, ?_⟩
        have q : Q (.bl ((t1.ev fun e => decide (e ∈ ps)) && (t2.ev fun e => decide (e ∈ ps)))) H := q
        cases e : t1.ev fun e => decide (e ∈ ps) with
        | true =>
          rw [e] at q
          exact iteT ⟨_, rfl, q⟩
        | false =>
          rw [e] at q
          exact iteF q
      | or =>
        rw [show decide (V.str (Str.ofString Bo.or.s) = V.str "and") = false from wne "or" "and" (by decide +kernel)]
        refine iteF ⟨_, rfl, p, _, _, _, rfl, rfl, hs, atI_nat (j := 0) rfl, rfl, _, rfl, ?_⟩
        rw [show decide (V.str (Str.ofString Bo.or.s) = V.str "or") = true from weq "or"]
        refine iteT ⟨_, rfl, _, rfl, ?_⟩
        have q : Q (.bl ((t1.ev fun e => decide (e ∈ ps)) || (t2.ev fun e => decide (e ∈ ps)))) H := q
        cases e : t1.ev fun e => decide (e ∈ ps) with
        | true =>
          rw [e] at q
          exact iteT q
        | false =>
          rw [e] at q
          exact iteF ⟨_, rfl, q⟩
      | df =>
        rw [show decide (V.str (Str.ofString Bo.df.s) = V.str "and") = false from wne "differ" "and" (by decide +kernel)]
        refine iteF ⟨_, rfl, p, _, _, _, rfl, rfl, hs, atI_nat (j := 0) rfl, rfl, _, rfl, ?_⟩
        rw [show decide (V.str (Str.ofString Bo.df.s) = V.str "or") = false from wne "differ" "or" (by decide +kernel)]
        refine iteF ⟨_, rfl, _, rfl, rfl, ?_⟩
        have q : Q (.bl (bne (t1.ev fun e => decide (e ∈ ps)) (t2.ev fun e => decide (e ∈ ps)))) H := q
        cases e : t1.ev fun e => decide (e ∈ ps) <;> cases e2 : t2.ev fun e => decide (e ∈ ps) <;> rw [e, e2] at q <;> exact q
theorem cl_true {f : Addr} {fd : FuncData} (F : Fun K "_law_true" "_law_true" s__law_true f fd) (M : Mg mg) (g : mg "_law_true" = some (.ref f)) (b : Binds K fd ["tree", "present"] []) : ∀ n, Cl P w K mg base (n + 1) "_law_true" (sp_true K n)
  | 0 => FnOk.cl (P := P) (w := w) (base := base) (F.ok sc__law_true (fun vs H Q E h => by obtain ⟨v, a, t, ps, rfl, _⟩ := h; rfl) (fun cdv A outer s H vs Q E hr h => by obtain ⟨v, a, t, ps, rfl, _, _, hm, _⟩ := h; omega)) F g b
  | n + 1 => FnOk.cl (ok_true n F M (cl_true F M g b n)) F g b
set_option maxHeartbeats 4000000 in
theorem ok_build (m n : Nat) {f C : Addr} {fd : FuncData} (F : Fun K "_law_build" "_law_build" s__law_build f fd) (M : Mg mg) (c_Diagrams_there : ClM P w K mg base 2 C "there" (sp_there C K)) (c_Diagrams_conjunction : ClM P w K mg base (m + 3) C "conjunction" (sp_op2 C K m and)) (c_Diagrams_disjunction : ClM P w K mg base (m + 3) C "disjunction" (sp_op2 C K m or)) (c_Diagrams_negation : ClM P w K mg base (m + 3) C "negation" (sp_neg C K m)) (c_Diagrams_differs : ClM P w K mg base (m + 4) C "differs" (sp_op2 C K m bne))
    (c__law_build : Cl P w K mg base (m + 4 + n) "_law_build" (sp_build C K m n)) : FnOk P w K mg base CX0 (m + 4 + n + 1) f fd ["store", "tree"] (sp_build C K m (n + 1)) := by
  refine F.ok sc__law_build (fun vs H Q E h => ?_) (fun cdv A outer s H vs Q E hr h => ?_)
  · obtain ⟨s, N, es, L, v, t, rfl, _⟩ := h
    rfl
  · obtain ⟨s, N, es, L, v, t, rfl, st, hm, ok, hn, dp, z1, z2, q⟩ := h
    have o1 := opB_ge es
    have o2 : 1 ≤ 2 ^ es.length := Nat.one_le_two_pow
    refine ⟨_, (pss_cons (ps_if (pt_cmpR op_eq (pe_ix (ix_tupK K) (pv 1) pe_int (fun _ _ => rfl)) pe_str (nomark _)) (pss_one (ps_ret (pe_ix (ix_tupK K) (pv 1) pe_int (fun _ _ => rfl)))) pss_nil)
      (pss_cons (ps_if (pt_cmpR op_eq (pe_ix (ix_tupK K) (pv 1) pe_int (fun _ _ => rfl)) pe_str (nomark _)) (pss_one (ps_ret (pe_mt c_Diagrams_there hr (by first | decide | omega) (pv 0) (pa_cons (pe_ix (ix_tupK K) (pv 1) pe_int (fun _ _ => rfl)) pa_nil)))) pss_nil)
      (pss_cons (ps_set (i := 2) sc__law_build.nd rfl (.inl rfl) (pe_u c__law_build hr (by first | decide | omega) (by rfl) (pa_cons (pv 0) (pa_cons (pe_ix (ix_tupK K) (pv 1) pe_int (fun _ _ => rfl)) pa_nil))))
      (pss_cons (ps_if (pt_cmpR op_eq (pe_ix (ix_tupK K) (pv 1) pe_int (fun _ _ => rfl)) pe_str (nomark _)) (pss_one (ps_ret (pe_mt c_Diagrams_negation hr (by first | decide | omega) (pv 0) (pa_cons (pv 2) pa_nil)))) pss_nil)
      (pss_cons (ps_set (i := 3) sc__law_build.nd rfl (.inl rfl) (pe_u c__law_build hr (by first | decide | omega) (by rfl) (pa_cons (pv 0) (pa_cons (pe_ix (ix_tupK K) (pv 1) pe_int (fun _ _ => rfl)) pa_nil))))
      (pss_cons (ps_if (pt_cmpR op_eq (pe_ix (ix_tupK K) (pv 1) pe_int (fun _ _ => rfl)) pe_str (nomark _)) (pss_one (ps_ret (pe_mt c_Diagrams_conjunction hr (by first | decide | omega) (pv 0) (pa_cons (pv 2) (pa_cons (pv 3) pa_nil))))) pss_nil)
      (pss_one (ps_ret (pe_ifExp (pt_cmpR op_eq (pe_ix (ix_tupK K) (pv 1) pe_int (fun _ _ => rfl)) pe_str (nomark _)) (pe_mt c_Diagrams_disjunction hr (by first | decide | omega) (pv 0) (pa_cons (pv 2) (pa_cons (pv 3) pa_nil))) (pe_mt c_Diagrams_differs hr (by first | decide | omega) (pv 0) (pa_cons (pv 2) (pa_cons (pv 3) pa_nil)))))))))))), ?_⟩
    cases t with
    | con b =>
      obtain ⟨p, xs, rfl, hs, hx⟩ := dp_tup dp
      obtain ⟨u, rfl, hu⟩ := dp_two hx
      cases hu
      refine ⟨_, rfl, p, _, _, _, rfl, rfl, hs, atI_nat (j := 0) rfl, rfl, _, rfl, ?_⟩
      rw [weq]
      refine iteT ⟨_, rfl, p, _, _, _, rfl, rfl, hs, atI_nat (j := 1) rfl, ?_⟩
      have q := fun r T => q H [] r T (FdS.refl s H) (Nat.zero_le _) (by rw [List.append_nil]; exact st.more (Nat.le_add_right _ _))
      cases b with
      | true => exact q 1 _ .t .lf (fun _ => rfl)
      | false => exact q 0 _ .f .lf (fun _ => rfl)
    | ther e =>
      obtain ⟨p, xs, rfl, hs, hx⟩ := dp_tup dp
      obtain ⟨u, rfl, hu⟩ := dp_two hx
      cases hu
      have e1 : Tr.sz (.ther e) * opB es = opB es := Nat.one_mul _
      rw [e1] at z1 z2 q
      refine ⟨_, rfl, p, _, _, _, rfl, rfl, hs, atI_nat (j := 0) rfl, rfl, _, rfl, ?_⟩
      rw [wne "there" "constant" (by decide +kernel)]
      refine iteF ⟨_, rfl, p, _, _, _, rfl, rfl, hs, atI_nat (j := 0) rfl, rfl, _, rfl, ?_⟩
      rw [weq]
      refine iteT ⟨_, rfl, st.go (by decide +kernel) (by decide +kernel) (by decide +kernel) ⟨_, rfl, p, _, _, _, rfl, rfl, hs, atI_nat (j := 1) rfl, ?_⟩⟩
      refine ⟨s, N, es, L, e, rfl, st, by omega, fun H' M r f l st' a => q H' M r _ f (by omega) (st'.more (by omega)) a (Wf.one ok) fun ρ => ?_⟩
      show (if ρ e = true then true else false) = ρ e
      cases ρ e <;> rfl
    | nt t1 =>
      obtain ⟨p, xs, rfl, hs, hx⟩ := dp_tup dp
      obtain ⟨u, rfl, hu⟩ := dp_two hx
      have hn : t1.ht + 1 < n + 1 := hn
      have e1 : Tr.sz (.nt t1) * opB es = t1.sz * opB es + opB es := Nat.succ_mul _ _
      rw [e1] at z1 z2 q
      refine ⟨_, rfl, p, _, _, _, rfl, rfl, hs, atI_nat (j := 0) rfl, rfl, _, rfl, ?_⟩
      rw [wne "not" "constant" (by decide +kernel)]
      refine iteF ⟨_, rfl, p, _, _, _, rfl, rfl, hs, atI_nat (j := 0) rfl, rfl, _, rfl, ?_⟩
      rw [wne "not" "there" (by decide +kernel)]
      refine iteF ⟨_, rfl, _, rfl, p, _, _, _, rfl, rfl, hs, atI_nat (j := 1) rfl, ?_⟩
      refine ⟨s, N, es, L, u, t1, rfl, st, hm, ok, by omega, hu, by omega, by omega, fun H1 M1 r1 T1 f1 l1 st1 a1 w1 v1 => ?_⟩
      have hs1 := SqT.tsn (st.tup f1) hs
      refine ⟨_, rfl, p, _, _, _, rfl, rfl, hs1, atI_nat (j := 0) rfl, rfl, _, rfl, ?_⟩
      rw [weq]
      refine iteT ⟨_, rfl, st1.go (by decide +kernel) (by decide +kernel) (by decide +kernel) ⟨_, rfl, ?_⟩⟩
      refine ⟨s, N ++ M1, es, _, r1, T1, rfl, st1, hm, a1, w1, by rw [List.length_append]; omega, by omega, fun H2 M2 r2 T2 f2 l2 st2 a2 w2 v2 => ?_⟩
      rw [List.append_assoc] at st2 a2
      refine q H2 (M1 ++ M2) r2 T2 (f1.trans f2) (by rw [List.length_append]; omega) (st2.more (by omega)) a2 w2 fun ρ => ?_
      rw [v2, v1]
      rfl
    | bin o t1 t2 =>
      obtain ⟨p, xs, rfl, hs, hx⟩ := dp_tup dp
      obtain ⟨u, u2, rfl, hu, hu2⟩ := dp_three hx
      have hn : max t1.ht t2.ht + 1 < n + 1 := hn
      have e1 : Tr.sz (.bin o t1 t2) * opB es = t1.sz * opB es + t2.sz * opB es + opB es := by
        show (t1.sz + t2.sz + 1) * opB es = _
        rw [Nat.succ_mul, Nat.add_mul]
      rw [e1] at z1 z2 q
      refine ⟨_, rfl, p, _, _, _, rfl, rfl, hs, atI_nat (j := 0) rfl, rfl, _, rfl, ?_⟩
      rw [wne o.s "constant" (by cases o <;> decide +kernel)]
      refine iteF ⟨_, rfl, p, _, _, _, rfl, rfl, hs, atI_nat (j := 0) rfl, rfl, _, rfl, ?_⟩
      rw [wne o.s "there" (by cases o <;> decide +kernel)]
      refine iteF ⟨_, rfl, _, rfl, p, _, _, _, rfl, rfl, hs, atI_nat (j := 1) rfl, ?_⟩
      refine ⟨s, N, es, L, u, t1, rfl, st, hm, ok.1, by omega, hu, by omega, by omega, fun H1 M1 r1 T1 f1 l1 st1 a1 w1 v1 => ?_⟩
      have hs1 := SqT.tsn (st.tup f1) hs
      have hu21 := st.dp f1 (tr_only t2) hu2
      refine ⟨_, rfl, p, _, _, _, rfl, rfl, hs1, atI_nat (j := 0) rfl, rfl, _, rfl, ?_⟩
      rw [wne o.s "not" (by cases o <;> decide +kernel)]
      refine iteF ⟨_, rfl, _, rfl, p, _, _, _, rfl, rfl, hs1, atI_nat (j := 2) rfl, ?_⟩
      refine ⟨s, N ++ M1, es, _, u2, t2, rfl, st1, hm, ok.2, by omega, hu21, by rw [List.length_append]; omega, by omega, fun H2 M2 r2 T2 f2 l2 st2 a2 w2 v2 => ?_⟩
      have hs2 := SqT.tsn (st1.tup f2) hs1
      have fin : ∀ (g : Bool → Bool → Bool), g = o.f → sp_op2 C K m g [.ref s.p, .int ((r1 : Nat) : Int), .int ((r2 : Nat) : Int)] H2 Q E0 := fun g hg => by
        refine ⟨s, (N ++ M1) ++ M2, es, _, r1, r2, T1, T2, rfl, st2, hm, a1.mono, a2, w1, w2, by rw [List.length_append, List.length_append]; omega, by omega, fun H3 M3 r3 T3 f3 l3 st3 a3 w3 v3 => ?_⟩
        have eN : N ++ M1 ++ M2 ++ M3 = N ++ (M1 ++ M2 ++ M3) := by simp only [List.append_assoc]
        rw [eN] at st3 a3
        refine q H3 (M1 ++ M2 ++ M3) r3 T3 ((f1.trans f2).trans f3) (by rw [List.length_append, List.length_append]; omega) (st3.more (by omega)) a3 w3 fun ρ => ?_
        rw [v3, v1, v2, hg]
        rfl
      refine ⟨_, rfl, p, _, _, _, rfl, rfl, hs2, atI_nat (j := 0) rfl, rfl, _, rfl, ?_⟩
      cases o with
      | and =>
        rw [show decide (V.str (Str.ofString Bo.and.s) = V.str "and") = true from weq "and"]
        exact iteT ⟨_, rfl, st2.go (by decide +kernel) (by decide +kernel) (by decide +kernel) ⟨_, rfl, _, rfl, fin and rfl⟩⟩
      | or =>
        rw [show decide (V.str (Str.ofString Bo.or.s) = V.str "and") = false from wne "or" "and" (by decide +kernel)]
        refine iteF ⟨_, rfl, p, _, _, _, rfl, rfl, hs2, atI_nat (j := 0) rfl, rfl, _, rfl, ?_⟩
        rw [show decide (V.str (Str.ofString Bo.or.s) = V.str "or") = true from weq "or"]
        exact iteT ⟨_, rfl, st2.go (by decide +kernel) (by decide +kernel) (by decide +kernel) ⟨_, rfl, _, rfl, fin or rfl⟩⟩
      | df =>
        rw [show decide (V.str (Str.ofString Bo.df.s) = V.str "and") = false from wne "differ" "and" (by decide +kernel)]
        refine iteF ⟨_, rfl, p, _, _, _, rfl, rfl, hs2, atI_nat (j := 0) rfl, rfl, _, rfl, ?_⟩
        rw [show decide (V.str (Str.ofString Bo.df.s) = V.str "or") = false from wne "differ" "or" (by decide +kernel)]
        exact iteF ⟨_, rfl, st2.go (by decide +kernel) (by decide +kernel) (by decide +kernel) ⟨_, rfl, _, rfl, fin bne rfl⟩⟩
theorem cl_build (m : Nat) {f C : Addr} {fd : FuncData} (F : Fun K "_law_build" "_law_build" s__law_build f fd) (M : Mg mg) (g : mg "_law_build" = some (.ref f)) (b : Binds K fd ["store", "tree"] []) (c_Diagrams_there : ClM P w K mg base 2 C "there" (sp_there C K)) (c_Diagrams_conjunction : ClM P w K mg base (m + 3) C "conjunction" (sp_op2 C K m and)) (c_Diagrams_disjunction : ClM P w K mg base (m + 3) C "disjunction" (sp_op2 C K m or)) (c_Diagrams_negation : ClM P w K mg base (m + 3) C "negation" (sp_neg C K m)) (c_Diagrams_differs : ClM P w K mg base (m + 4) C "differs" (sp_op2 C K m bne)) :
    ∀ n, Cl P w K mg base (m + 4 + n) "_law_build" (sp_build C K m n)
  | 0 => FnOk.cl (P := P) (w := w) (base := base) (F.ok sc__law_build (fun vs H Q E h => by obtain ⟨s, N, es, L, v, t, rfl, _⟩ := h; rfl) (fun cdv A outer s H vs Q E hr h => by obtain ⟨s, N, es, L, v, t, rfl, st, hm, ok, hn, _⟩ := h; omega)) F g b
  | n + 1 => FnOk.cl (ok_build m n F M c_Diagrams_there c_Diagrams_conjunction c_Diagrams_disjunction c_Diagrams_negation c_Diagrams_differs (cl_build m F M g b c_Diagrams_there c_Diagrams_conjunction c_Diagrams_disjunction c_Diagrams_negation c_Diagrams_differs n)) F g b
end

section
variable {P : Program} {w : World} {K : PySem.W.Frag} {mg : Str → Option Value} {base : Heap}
theorem ok_subs {f : Addr} {fd : FuncData} (F : Fun K "_law_subsets" "_law_subsets" s__law_subsets f fd) (M : Mg mg) : FnOk P w K mg base CX0 1 f fd ["entries"] sp_subs := by
  refine F.ok sc__law_subsets (fun vs H Q E h => ?_) (fun cdv A outer s H vs Q E hr h => ?_)
  · obtain ⟨a, es, rfl, _⟩ := h
    rfl
  · obtain ⟨a, es, rfl, ha, hl, q⟩ := h
    refine ⟨_, (pss_cons (ps_set (i := 1) sc__law_subsets.nd rfl (.inl rfl) (pe_lst (pa_cons (pe_lst pa_nil) pa_nil)))
      (pss_cons (ps_for PassesOwn.never rfl (pi_list (pv 0)) (pg_name (i := 2) sc__law_subsets.nd rfl (.inr rfl)) (pss_one (ps_set (i := 1) sc__law_subsets.nd rfl (.inl rfl) (pe_op op_cat (pv 1) (pe_lc (own := [("part", 3)]) (g := gName 3) (tt := tYes) rfl sc__law_subsets.nd (pi_list (pv 1)) (blkOk_by (N := N__law_subsets) (sc := defScope s__law_subsets) (by decide +kernel)) (fun _ _ _ _ _ => (pg_name (i := 3) sc__law_subsets.nd rfl (.inl rfl))) (fun _ _ _ _ _ => pts_nil) (fun _ _ _ _ _ => (pe_op op_cat (pv 3) (pe_lst (pa_cons (pv 2) pa_nil)))))))))
      (pss_one (ps_ret (pv 1))))), ?_⟩
    refine ⟨by show 0 ≤ sizeLine; decide, fun p1 n1 => ?_⟩
    have s1 := same_upd n1 (o := .lst [])
    have e1 : (upd H p1 (.lst [])) p1 = some (.lst (([] : List Int).map V.int)) := upd_same
    generalize upd H p1 (.lst []) = H1 at s1 e1
    refine ⟨by show 1 ≤ sizeLine; decide, fun p2 n2 => ?_⟩
    have s2 := same_upd n2 (o := .lst [.ref p1])
    have e2 : (upd H1 p2 (.lst [.ref p1])) p2 = some (.lst ([p1].map V.ref)) := upd_same
    generalize upd H1 p2 (.lst [.ref p1]) = H2 at s2 e2
    refine ⟨_, rfl, a, rfl, ⟨_, .of ((s1.trans s2) _ _ ha)⟩, ?_⟩
    refine for_list (K := K) (a := a) (xs := es.map V.int) (fun i σ Hi => ∃ (p : Addr) (z y : Option V), σ = [some (.ref a), some (.ref p), z, y] ∧ Same H Hi ∧ H p = none ∧ LL Hi p (subs (es.take i))) ⟨p2, none, none, rfl, s1.trans s2, s1.free n2, [p1], e2, rfl, fun i b l hb hl => ?_⟩ (fun i σ Hi _ hp => by obtain ⟨p, z, y, rfl, si, _⟩ := hp; exact .of (si _ _ ha)) (fun i x σ Hi hx hp => ?_) (fun σ Hn hp => ?_)
    · match i, hb, hl with
      | 0, hb, hl =>
        cases hb
        cases hl
        exact s2 _ _ e1
      | i + 1, hb, _ => simp at hb
    · obtain ⟨p, z, y, rfl, si, np, ll⟩ := hp
      rw [List.getElem?_map] at hx
      obtain ⟨e, he, rfl⟩ := Option.map_eq_some_iff.mp hx
      have hi : i < es.length := (List.getElem?_eq_some_iff.mp he).1
      have et : es.take (i + 1) = es.take i ++ [e] := by rw [List.take_add_one, he]; rfl
      have lsub : (subs (es.take i)).length ≤ 1024 := by
        rw [subs_len, List.length_take]
        exact Nat.le_trans (Nat.pow_le_pow_right (by decide) (show min i es.length ≤ 10 by omega)) (by decide)
      obtain ⟨as, g1, g2, g3⟩ := id ll
      obtain ⟨as', k1, k2, k3⟩ := ll.get
      refine ⟨_, rfl, _, rfl, p, rfl, ⟨_, .of k1⟩, fun D nD => ?_⟩
      refine lc_list (K := K) (a := p) (xs := as'.map V.ref) (fun j Hj => Same Hi Hj ∧ LL Hj D ((subs (es.take i)).take j |>.map (· ++ [e]))) ⟨same_upd nD, [], upd_same, rfl, fun i b l hb _ => by simp at hb⟩ (fun j Hj _ hp => .of (hp.1 _ _ k1)) (fun j x Hj hx hp => ?_) (fun Hn hp => ?_)
      · obtain ⟨sj, cs, c1, c2, c3⟩ := hp
        obtain ⟨b, l, rfl, hl, hb⟩ := k3 j x hx
        have hj : j < (subs (es.take i)).length := (List.getElem?_eq_some_iff.mp hl).1
        refine ⟨rfl, ?_⟩
        refine ⟨_, rfl, _, rfl, by show 1 ≤ sizeLine; decide, fun q1 nq1 => ?_⟩
        have t1 := same_upd nq1 (o := .lst [.int e])
        have eq1 : (upd Hj q1 (.lst [.int e])) q1 = some (.lst [.int e]) := upd_same
        generalize upd Hj q1 (.lst [.int e]) = Hj1 at t1 eq1
        have ll1 : l.length ≤ 10 := by
          have := subs_le _ l (List.mem_of_getElem? hl)
          have h2 := this.1
          rw [List.length_take] at h2
          omega
        refine ⟨b, q1, _, _, rfl, rfl, (sj.trans t1) _ _ hb, eq1, by rw [List.length_map]; exact Nat.le_trans (m := 100) (by show _ + 1 ≤ 100; omega) (by decide), fun q2 nq2 => ?_⟩
        have t2 := same_upd nq2 (o := .lst (l.map V.int ++ [.int e]))
        have eq2 : (upd Hj1 q2 (.lst (l.map V.int ++ [.int e]))) q2 = some (.lst ((l ++ [e]).map V.int)) := by rw [upd_same, List.map_append]; rfl
        generalize upd Hj1 q2 (.lst (l.map V.int ++ [.int e])) = Hj2 at t2 eq2
        have sj2 := (sj.trans t1).trans t2
        have cD := (t1.trans t2) _ _ c1
        refine ⟨_, cD, ?_, ?_, ?_⟩
        · rw [List.length_map, c2, List.length_map, List.length_take]
          exact Nat.lt_of_le_of_lt (m := 1024) (by omega) (by decide)
        · intro x o hx'
          rw [upd_ne (ne_of_none hx' nD)]
          exact sj2 _ _ hx'
        · refine ⟨cs ++ [q2], by rw [upd_same, List.map_append]; rfl, ?_, fun i' b' l' hb' hl' => ?_⟩
          · rw [List.length_append, c2, List.take_add_one, hl, List.map_append, List.length_append]
            rfl
          · have lc : cs.length = j := by rw [c2, List.length_map, List.length_take]; omega
            have nbD : b' ≠ D := by
              by_cases hi' : i' < cs.length
              · rw [List.getElem?_append_left hi'] at hb'
                intro z
                subst z
                -- the new list's own address is not one of its items
                have := c3 i' b' _ hb' (List.getElem?_eq_getElem (by rw [← c2]; exact hi'))
                rw [c1] at this
                have e := HO.lst.inj (Option.some.inj this)
                cases cs with
                | nil => simp at hi'
                | cons c cs =>
                  rw [List.map_cons] at e
                  generalize (List.map (fun x => x ++ [_]) _)[i'] = w at e
                  cases w with
                  | nil => cases e
                  | cons w1 w2 => rw [List.map_cons] at e; exact nomatch (List.cons.inj e).1
              · rw [List.getElem?_append_right (by omega)] at hb'
                have : b' = q2 := by
                  cases h : i' - cs.length with
                  | zero => rw [h] at hb'; exact (Option.some.inj hb').symm
                  | succ k => rw [h] at hb'; simp at hb'
                subst this
                exact (ne_of_none (t1 _ _ c1) nq2).symm
            rw [upd_ne nbD]
            rw [List.take_add_one, hl, List.map_append] at hl'
            by_cases hi' : i' < cs.length
            · rw [List.getElem?_append_left hi'] at hb'
              rw [List.getElem?_append_left (by rw [← c2]; exact hi')] at hl'
              exact (t1.trans t2) _ _ (c3 i' b' l' hb' hl')
            · rw [List.getElem?_append_right (by omega)] at hb'
              rw [List.getElem?_append_right (by rw [← c2]; omega), ← c2] at hl'
              cases h : i' - cs.length with
              | zero =>
                rw [h] at hb' hl'
                have e1 : q2 = b' := Option.some.inj hb'
                have e2 : l ++ [e] = l' := Option.some.inj hl'
                subst e1 e2
                exact eq2
              | succ k => rw [h] at hb'; simp at hb'
      · obtain ⟨sn, ll2⟩ := hp
        have el : (as'.map V.ref).length = (subs (es.take i)).length := by rw [List.length_map, k2]
        rw [el, List.take_of_length_le (Nat.le_refl _)] at ll2
        obtain ⟨bs, b1, b2, b3⟩ := id ll2
        refine ⟨p, D, _, _, rfl, rfl, sn _ _ k1, b1, ?_, fun q' nq' => ?_⟩
        · rw [List.length_map, List.length_map, k2, b2, List.length_map]
          exact Nat.le_trans (m := 2048) (by omega) (by decide)
        · refine ⟨q', _, _, rfl, (si.trans sn).trans (same_upd nq'), (si.trans sn).free nq', ?_⟩
          rw [et, subs_snoc]
          exact LL.app (q := q') nq' (ll.ext sn) ll2 (sn _ _ k1) b1
    · obtain ⟨p, z, y, rfl, si, np, ll⟩ := hp
      rw [List.length_map, List.take_of_length_le (Nat.le_refl _)] at ll
      exact ⟨_, rfl, q Hn p si np ll⟩
end

/-! ### lists of numbers and of truth values as data -/
theorem dpa_map {K : PySem.W.Frag} {H : Hp} {α : Type} (f : α → V) (g : α → PyData) (h : ∀ a, Dp K H (f a) (g a)) : ∀ l : List α, DpAll K H (l.map f) (l.map g)
  | [] => .nil
  | a :: l => .cons (h a) (dpa_map f g h l)
theorem dp_ints {K : PySem.W.Frag} {H : Hp} {a : Addr} {ps : List Int} (h : SqL K H a (ps.map V.int)) : Dp K H (.ref a) (.list (ps.map PyData.int)) := .lst h (dpa_map _ _ (fun i => .int i) ps)
theorem dp_bls {K : PySem.W.Frag} {H : Hp} {a : Addr} {ps : List Bool} (h : SqL K H a (ps.map V.bl)) : Dp K H (.ref a) (.list (ps.map PyData.bool)) := .lst h (dpa_map _ _ (fun i => .bl i) ps)
theorem flat_shaped {α : Type} (g : α → PyData) (h1 : ∀ a, PyData.canLay0 (g a) = true) (h2 : ∀ a, PyData.depth (g a) = 0) (l : List α) : SeqAt.shaped (.list (l.map g)) = true := by
  have e1 : PyData.canLayAll0 (l.map g) = true := by
    induction l with
    | nil => rfl
    | cons x xs ih =>
      rw [List.map_cons]
      unfold PyData.canLayAll0
      rw [ih, h1]
      rfl
  have e2 : PyData.depthAll (l.map g) = 0 := by
    clear e1
    induction l with
    | nil => rfl
    | cons x xs ih =>
      rw [List.map_cons]
      unfold PyData.depthAll
      rw [ih, h2]
      rfl
  unfold SeqAt.shaped
  rw [Bool.and_eq_true]
  refine ⟨by unfold PyData.canLay0; exact e1, decide_eq_true ?_⟩
  unfold PyData.depth
  omega
theorem ints_shaped (l : List Int) : SeqAt.shaped (.list (l.map PyData.int)) = true := flat_shaped _ (fun _ => rfl) (fun _ => rfl) l
theorem bls_shaped (l : List Bool) : SeqAt.shaped (.list (l.map PyData.bool)) = true := flat_shaped _ (fun _ => rfl) (fun _ => rfl) l
theorem ints_eqv (l : List Int) : PyData.eqv (.list (l.map PyData.int)) (.list (l.map PyData.int)) = true := SeqAt.eqv_refl _ (SeqAt.canLay_of_shaped (ints_shaped l))
theorem Sto.fd {C : Addr} {K : PySem.W.Frag} {H H' : Hp} {s : SA} {N : Nds} {es : List Int} {L : Nat} {d : Addr} (st : Sto C K H s N es L) (hd : ∃ zs, H d = some (.lst zs)) (n : d ≠ s.k) (f : Fd d H H') : Sto C K H' s N es L := by
  obtain ⟨⟨dx, h1⟩, ⟨xs, h2, h3⟩, ⟨kvs, h4, h5⟩, ⟨cvs, h6, h7⟩, h8⟩ := st
  obtain ⟨zs, hz⟩ := hd
  exact ⟨⟨dx, f _ _ (ne_of h1 hz (fun z => nomatch z)) h1⟩, ⟨xs, f _ _ n.symm h2, DpAll.fd ⟨zs, hz⟩ f _ _ (nD_only _) h3⟩, ⟨kvs, f _ _ (ne_of h4 hz (fun z => nomatch z)) h4, h5⟩, ⟨cvs, f _ _ (ne_of h6 hz (fun z => nomatch z)) h6, h7⟩, h8⟩
theorem andV {c b : Bool} {i : Nat} {σ : L2.St} {H : Hp} {Q : VK} (hs : σ[i]? = some (some (.bl b))) (h : Q (.bl (c && b)) H) : if c = true then tVar i σ H Q else Q (.bl false) H := by
  cases c with
  | true => exact iteT ⟨_, hs, h⟩
  | false => exact iteF h
theorem orV {c b : Bool} {i : Nat} {σ : L2.St} {H : Hp} {Q : VK} (hs : σ[i]? = some (some (.bl b))) (h : Q (.bl (c || b)) H) : if c = true then Q (.bl true) H else tVar i σ H Q := by
  cases c with
  | true => exact iteT h
  | false => exact iteF ⟨_, hs, h⟩
theorem bne_dec (a b : Bool) : (!decide (V.bl a = V.bl b)) = bne a b := by cases a <;> cases b <;> rfl
/-- the store made, beside what was there -/
theorem made_same {p dx C : Addr} {H H' : Hp} (np : H p = none) (nd : H dx = none) (f : Fd p (upd (upd H dx (.own p)) p (.ins C dx [])) H') : Same H H' := fun b o e => by
  have h1 : b ≠ p := ne_of_none e np
  have h2 : b ≠ dx := ne_of_none e nd
  refine f b o h1 ?_
  rw [upd_ne h1, upd_ne h2]
  exact e
theorem made_free {p dx C k : Addr} {H : Hp} (h : (upd (upd H dx (.own p)) p (.ins C dx [])) k = none) : H k = none := by
  by_cases h1 : k = p
  · subst h1
    rw [upd_same] at h
    cases h
  by_cases h2 : k = dx
  · subst h2
    rw [upd_ne h1, upd_same] at h
    cases h
  rw [upd_ne h1, upd_ne h2] at h
  exact h
/-- what stood before the store was made stands behind all its operations -/
theorem FdS.same {s : SA} {H0 H H' : Hp} (h : Same H0 H) (nk : H0 s.k = none) (nu : H0 s.u = none) (nm : H0 s.m = none) (f : FdS s H H') : Same H0 H' := fun b o e => f b o (ne_of_none e nk) (ne_of_none e nu) (ne_of_none e nm) (h b o e)

/-! ### two data that are the same -/
/-- data of some depth, their lists not too long -/
inductive Sh : Nat → PyData → Prop
  | non {n : Nat} : Sh n .none
  | bl {n : Nat} (b : Bool) : Sh n (.bool b)
  | int {n : Nat} (i : Int) : Sh n (.int i)
  | str {n : Nat} (x : Str) : Sh n (.str x)
  | lst {n : Nat} {ds : List PyData} (l : ds.length ≤ 100000) (h : ∀ d ∈ ds, Sh n d) : Sh (n + 1) (.list ds)
  | tup {n : Nat} {ds : List PyData} (l : ds.length ≤ 100000) (h : ∀ d ∈ ds, Sh n d) : Sh (n + 1) (.tuple ds)
def tnm : PyData → String
  | .none => "NoneType"
  | .bool _ => "bool"
  | .int _ => "int"
  | .str _ => "str"
  | .list _ => "list"
  | .tuple _ => "tuple"
  | .dict _ => "dict"
theorem tyD {K : PySem.W.Frag} {H : Hp} {v : V} {d : PyData} (h : Dp K H v d) : TyX K H v (.type (tnm d)) := by
  cases h with
  | non => exact .base .non
  | bl b => exact .base (.bl b)
  | int i => exact .base (.int i)
  | str x => exact .base (.str x)
  | lst hs _ => exact tyL hs
  | tup hs _ => exact tyT hs
theorem k_any2 {K : PySem.W.Frag} {tn c1 c2 : String} {r1 r2 : Bool} (h1 : kitB tn c1 = some r1) (h2 : kitB tn c2 = some r2) : PySem.W.kitAny K (.type tn) [.type c1, .type c2] = some (r1 || r2) :=
  kitAny_cons (kit_ty h1) (fun e => by
    rw [e, Bool.false_or]
    exact kitAny_cons (b := r2) (kit_ty h2) (fun e2 => by rw [e2]; exact kitAny_nil) (fun e2 => e2)) (fun e => by rw [e, Bool.true_or])
theorem rep_bl (n : Nat) : (List.replicate n true).all id = true := by
  rw [List.all_replicate]
  simp
def sp_same (K : PySem.W.Frag) (n : Nat) : Sp := fun vs H Q _ => ∃ (x y : V) (D : PyData) (m : Nat), n = m + 1 ∧ vs = [x, y] ∧ Sh m D ∧ Dp K H x D ∧ Dp K H y D ∧ ∀ H', Same H H' → Q (.bl true) H'
section
variable {P : Program} {w : World} {K : PySem.W.Frag} {mg : Str → Option Value} {base : Heap}
theorem ok_same {f : Addr} {fd : FuncData} {n l : Nat} (F : Fun K "_law_same" "_law_same" s__law_same f fd) (M : Mg mg) (c__law_same : Cl P w K mg base l "_law_same" (sp_same K n)) : FnOk P w K mg base CX0 (l + 1) f fd ["actual", "due"] (sp_same K (n + 1)) := by
  refine F.ok sc__law_same (fun vs H Q E h => ?_) (fun cdv A outer s H vs Q E hr h => ?_)
  · obtain ⟨x, y, D, m, _, rfl, _⟩ := h
    rfl
  · obtain ⟨x, y, D, m, em, rfl, sh, hx, hy, q⟩ := h
    refine ⟨_, (pss_cons (ps_if (pt_val (pe_callB (isiTK K) (by rfl) M.isinstance (by decide +kernel) (pa_cons (pv 1) (pa_cons (pe_tup (pa_cons (pe_bltn (v := .ty "list") (by rfl) M.list (by decide +kernel) rfl) (pa_cons (pe_bltn (v := .ty "tuple") (by rfl) M.tuple (by decide +kernel) rfl) pa_nil))) pa_nil)))) (pss_cons (ps_if (PW.pt (pw_or (pt_cmpR op_ne (pe_callB (isiK K) (by rfl) M.isinstance (by decide +kernel) (pa_cons (pv 1) (pa_cons (pe_bltn (v := .ty "list") (by rfl) M.list (by decide +kernel) rfl) pa_nil))) (pe_callB (isiK K) (by rfl) M.isinstance (by decide +kernel) (pa_cons (pv 0) (pa_cons (pe_bltn (v := .ty "list") (by rfl) M.list (by decide +kernel) rfl) pa_nil))) (nomark _)) (pw_or1 (pt_cmpR op_ne (pe_callB (isiK K) (by rfl) M.isinstance (by decide +kernel) (pa_cons (pv 1) (pa_cons (pe_bltn (v := .ty "tuple") (by rfl) M.tuple (by decide +kernel) rfl) pa_nil))) (pe_callB (isiK K) (by rfl) M.isinstance (by decide +kernel) (pa_cons (pv 0) (pa_cons (pe_bltn (v := .ty "tuple") (by rfl) M.tuple (by decide +kernel) rfl) pa_nil))) (nomark _))))) (pss_one (ps_ret pe_bl)) pss_nil)
      (pss_cons (ps_if (pt_cmpR op_ne (pe_callB (len_seqK K) (by rfl) M.len PySem.boot_len (pa_cons (pv 0) pa_nil)) (pe_callB (len_seqK K) (by rfl) M.len PySem.boot_len (pa_cons (pv 1) pa_nil)) (nomark _)) (pss_one (ps_ret pe_bl)) pss_nil)
      (pss_one (ps_ret (pe_callB (allK K rfl) (by rfl) M.all (by decide +kernel) (pa_cons (pe_lc (own := [("k", 2)]) (g := gName 2) (tt := tYes) rfl sc__law_same.nd (pi_range1 (by rfl) M.range (pa_cons (pe_callB (len_seqK K) (by rfl) M.len PySem.boot_len (pa_cons (pv 1) pa_nil)) pa_nil)) (blkOk_by (N := N__law_same) (sc := defScope s__law_same) (by decide +kernel)) (fun _ _ _ _ _ => (pg_name (i := 2) sc__law_same.nd rfl (.inl rfl))) (fun _ _ _ _ _ => pts_nil) (fun _ _ _ _ _ => (pe_u c__law_same hr (by first | decide | omega) (by rfl) (pa_cons (pe_ix (ix_seqK K) (pv 0) (pv 2) (fun _ _ => rfl)) (pa_cons (pe_ix (ix_seqK K) (pv 1) (pv 2) (fun _ _ => rfl)) pa_nil))))) pa_nil)))))) pss_nil)
      (pss_cons (ps_if (pt_cmpR op_isN (pv 1) pe_non (nomark _)) (pss_one (ps_ret (pe_cmpR op_isN (pv 0) pe_non (nomark _)))) pss_nil)
      (pss_cons (ps_if (pt_cmpR op_ne (pe_callB (isiK K) (by rfl) M.isinstance (by decide +kernel) (pa_cons (pv 1) (pa_cons (pe_bltn (v := .ty "bool") (by rfl) M.bool (by decide +kernel) rfl) pa_nil))) (pe_callB (isiK K) (by rfl) M.isinstance (by decide +kernel) (pa_cons (pv 0) (pa_cons (pe_bltn (v := .ty "bool") (by rfl) M.bool (by decide +kernel) rfl) pa_nil))) (nomark _)) (pss_one (ps_ret pe_bl)) pss_nil)
      (pss_cons (ps_if (pt_val (pe_callB (isiK K) (by rfl) M.isinstance (by decide +kernel) (pa_cons (pv 1) (pa_cons (pe_bltn (v := .ty "str") (by rfl) M.str (by decide +kernel) rfl) pa_nil)))) (pss_one (ps_ret (pe_and (pe_callB (isiK K) (by rfl) M.isinstance (by decide +kernel) (pa_cons (pv 0) (pa_cons (pe_bltn (v := .ty "str") (by rfl) M.str (by decide +kernel) rfl) pa_nil))) (pe_one (pe_cmpR op_eq (pv 0) (pv 1) (nomark _)))))) pss_nil)
      (pss_one (ps_ret (pe_and (pe_callB (isiK K) (by rfl) M.isinstance (by decide +kernel) (pa_cons (pv 0) (pa_cons (pe_bltn (v := .ty "int") (by rfl) M.int (by decide +kernel) rfl) pa_nil))) (pe_one (pe_cmpR op_eq (pv 0) (pv 1) (nomark _)))))))))), ?_⟩
    refine ⟨_, rfl, by show 2 ≤ sizeLine; decide, fun p np => ?_⟩
    have s1 : Same H (upd H p (.tup [.ty "list", .ty "tuple"])) := same_upd np
    have h1 : (upd H p (.tup [.ty "list", .ty "tuple"])) p = some (.tup [.ty "list", .ty "tuple"]) := upd_same
    generalize upd H p (.tup [.ty "list", .ty "tuple"]) = H1 at s1 h1
    have hx1 := Dp.ext s1 D x hx
    have hy1 := Dp.ext s1 D y hy
    have key : (∃ (a b : Addr) (xs ys : List V) (ds : List PyData) (k : Nat) (tn : String) (r1 r2 : Bool), x = .ref a ∧ y = .ref b ∧ (SqL K H1 a xs ∧ SqL K H1 b ys ∨ SqT K H1 a xs ∧ SqT K H1 b ys) ∧ DpAll K H1 xs ds ∧ DpAll K H1 ys ds ∧ ds.length ≤ 100000 ∧ m = k + 1 ∧ (∀ d ∈ ds, Sh k d) ∧
        TyX K H1 x (.type tn) ∧ TyX K H1 y (.type tn) ∧ kitB tn "list" = some r1 ∧ kitB tn "tuple" = some r2 ∧ (r1 || r2) = true) ∨
        (∃ (tn : String), TyX K H1 x (.type tn) ∧ TyX K H1 y (.type tn) ∧ kitB tn "list" = some false ∧ kitB tn "tuple" = some false ∧ (x = .non ∧ y = .non ∨ (∃ b, x = .bl b ∧ y = .bl b ∧ tn = "bool") ∨ (∃ i, x = .int i ∧ y = .int i ∧ tn = "int") ∨ (∃ z, x = .str z ∧ y = .str z ∧ tn = "str"))) := by
      cases sh with
      | non => cases hx1; cases hy1; exact .inr ⟨"NoneType", .base .non, .base .non, by decide +kernel, by decide +kernel, .inl ⟨rfl, rfl⟩⟩
      | bl b => cases hx1; cases hy1; exact .inr ⟨"bool", .base (.bl b), .base (.bl b), by decide +kernel, by decide +kernel, .inr (.inl ⟨b, rfl, rfl, rfl⟩)⟩
      | int i => cases hx1; cases hy1; exact .inr ⟨"int", .base (.int i), .base (.int i), by decide +kernel, by decide +kernel, .inr (.inr (.inl ⟨i, rfl, rfl, rfl⟩))⟩
      | str z => cases hx1; cases hy1; exact .inr ⟨"str", .base (.str z), .base (.str z), by decide +kernel, by decide +kernel, .inr (.inr (.inr ⟨z, rfl, rfl, rfl⟩))⟩
      | lst l h =>
        cases hx1 with
        | lst hs ha =>
          cases hy1 with
          | lst hs' ha' => exact .inl ⟨_, _, _, _, _, _, "list", true, false, rfl, rfl, .inl ⟨hs, hs'⟩, ha, ha', l, rfl, h, tyL hs, tyL hs', by decide +kernel, by decide +kernel, rfl⟩
      | tup l h =>
        cases hx1 with
        | tup hs ha =>
          cases hy1 with
          | tup hs' ha' => exact .inl ⟨_, _, _, _, _, _, "tuple", false, true, rfl, rfl, .inr ⟨hs, hs'⟩, ha, ha', l, rfl, h, tyT hs, tyT hs', by decide +kernel, by decide +kernel, rfl⟩
    rcases key with ⟨a, b, xs, ys, ds, k, tn, r1, r2, rfl, rfl, hq, ha, hb, hl, ek, hk, tx, ty, k1, k2, kr⟩ | ⟨tn, tx, ty, k1, k2, hs⟩
    · -- a list or a tuple
      have ex := DpAll.len ha
      have ey := DpAll.len hb
      have hqa : SqL K H1 a xs ∨ SqT K H1 a xs := hq.elim (fun z => .inl z.1) (fun z => .inr z.1)
      have hqb : SqL K H1 b ys ∨ SqT K H1 b ys := hq.elim (fun z => .inl z.2) (fun z => .inr z.2)
      refine ⟨_, _, _, _, _, _, rfl, h1, .cons (.ty _) (.cons (.ty _) .nil), ty, k_any2 k1 k2, ?_⟩
      refine ⟨_, rfl, ?_⟩
      rw [kr]
      refine iteT ?_
      -- the kinds
      refine ⟨_, rfl, ⟨_, _, _, _, _, rfl, .ty _, ty, kit_ty k1, _, rfl, ⟨_, _, _, _, _, rfl, .ty _, tx, kit_ty k1, rfl, _, rfl, ?_⟩⟩⟩
      rw [decide_eq_true (rfl : V.bl r1 = V.bl r1)]
      refine iteF ?_
      refine ⟨_, rfl, ⟨_, _, _, _, _, rfl, .ty _, ty, kit_ty k2, _, rfl, ⟨_, _, _, _, _, rfl, .ty _, tx, kit_ty k2, rfl, _, rfl, ?_⟩⟩⟩
      rw [decide_eq_true (rfl : V.bl r2 = V.bl r2)]
      refine iteF ?_
      -- the lengths
      refine ⟨_, rfl, a, xs, rfl, hqa, ⟨_, rfl, b, ys, rfl, hqb, rfl, _, rfl, ?_⟩⟩
      rw [ex, ey, decide_eq_true (rfl : V.int (ds.length : Int) = V.int (ds.length : Int))]
      refine iteF ?_
      -- by places
      refine ⟨_, rfl, b, ys, rfl, hqb, _, rfl, by omega, by omega, fun D nD => ?_⟩
      rw [ey]
      refine lc_range (lo := 0) (n := ((ds.length : Nat) : Int).toNat) (fun i Hi => Same H1 Hi ∧ Hi D = some (.lst ((List.replicate i true).map V.bl))) ⟨same_upd nD, upd_same⟩ (fun i Hi hi hp => ?_) (fun Hn hp => ?_)
      · obtain ⟨si, eD⟩ := hp
        have hi2 : i < ds.length := by omega
        obtain ⟨va, hva, da⟩ := DpAll.get (DpAll.ext si ds xs ha) (List.getElem?_eq_getElem hi2)
        obtain ⟨vb, hvb, db⟩ := DpAll.get (DpAll.ext si ds ys hb) (List.getElem?_eq_getElem hi2)
        have ia : rIx K (.ref a) (.int (0 + (i : Int))) Hi = rIx K (.ref a) (.int (0 + (i : Int))) Hi := rfl
        refine ⟨rfl, ?_⟩
        have go : ∀ (c : Addr) (zs : List V) (v : V) (Q : VK), (SqL K H1 c zs ∨ SqT K H1 c zs) → zs[i]? = some v → Q v Hi → rIx K (.ref c) (.int (0 + (i : Int))) Hi Q := fun c zs v Q hz hv hQ => by
          rcases hz with hz | hz
          · exact .inl ⟨c, zs, _, v, rfl, rfl, si.seq hz, at_0 hv, hQ⟩
          · exact .inr (.inl ⟨c, zs, _, v, rfl, rfl, SqT.ext si hz, at_0 hv, hQ⟩)
        refine ⟨_, rfl, _, rfl, go a xs va _ hqa hva ⟨_, rfl, _, rfl, go b ys vb _ hqb hvb ?_⟩⟩
        refine ⟨va, vb, ds[i], k, by omega, rfl, hk _ (List.getElem_mem hi2), da, db, fun H' s' => ?_⟩
        refine ⟨_, s' _ _ eD, ?_, fun b o e => ?_, ?_⟩
        · rw [List.length_map, List.length_replicate]
          exact Nat.lt_of_lt_of_le (m := 100000) (by omega) (by decide)
        · have nb : b ≠ D := ne_of_none e nD
          rw [upd_ne nb]
          exact s' _ _ (si _ _ e)
        · rw [upd_same, List.replicate_succ', List.map_append]
          rfl
      · obtain ⟨si, eD⟩ := hp
        refine ⟨D, _, rfl, .of eD, ?_⟩
        rw [rep_bl]
        exact q _ (s1.trans si)
    · -- neither
      refine ⟨_, _, _, _, _, _, rfl, h1, .cons (.ty _) (.cons (.ty _) .nil), ty, k_any2 k1 k2, ?_⟩
      refine ⟨_, rfl, iteF ?_⟩
      rcases hs with ⟨rfl, rfl⟩ | ⟨b, rfl, rfl, rfl⟩ | ⟨i, rfl, rfl, rfl⟩ | ⟨z, rfl, rfl, rfl⟩
      · -- None
        refine ⟨_, rfl, rfl, _, rfl, iteT ?_⟩
        refine ⟨_, rfl, rfl, ?_⟩
        exact q _ s1
      · refine ⟨_, rfl, rfl, _, rfl, iteF ?_⟩
        refine ⟨_, rfl, ⟨_, _, _, _, _, rfl, .ty _, ty, kit_ty (show kitB _ _ = some true by decide +kernel), _, rfl, ⟨_, _, _, _, _, rfl, .ty _, tx, kit_ty (show kitB _ _ = some true by decide +kernel), rfl, _, rfl, iteF ?_⟩⟩⟩
        refine ⟨_, rfl, ⟨_, _, _, _, _, rfl, .ty _, ty, kit_ty (show kitB _ _ = some false by decide +kernel), _, rfl, iteF ?_⟩⟩
        refine ⟨_, rfl, ⟨_, _, _, _, _, rfl, .ty _, tx, kit_ty (show kitB _ _ = some true by decide +kernel), _, rfl, iteT ?_⟩⟩
        refine ⟨_, rfl, _, rfl, by cases b <;> rfl, ?_⟩
        rw [decide_eq_true (rfl : V.bl b = V.bl b)]
        exact q _ s1
      · refine ⟨_, rfl, rfl, _, rfl, iteF ?_⟩
        refine ⟨_, rfl, ⟨_, _, _, _, _, rfl, .ty _, ty, kit_ty (show kitB _ _ = some false by decide +kernel), _, rfl, ⟨_, _, _, _, _, rfl, .ty _, tx, kit_ty (show kitB _ _ = some false by decide +kernel), rfl, _, rfl, iteF ?_⟩⟩⟩
        refine ⟨_, rfl, ⟨_, _, _, _, _, rfl, .ty _, ty, kit_ty (show kitB _ _ = some false by decide +kernel), _, rfl, iteF ?_⟩⟩
        refine ⟨_, rfl, ⟨_, _, _, _, _, rfl, .ty _, tx, kit_ty (show kitB _ _ = some true by decide +kernel), _, rfl, iteT ?_⟩⟩
        refine ⟨_, rfl, _, rfl, rfl, ?_⟩
        rw [decide_eq_true (rfl : V.int i = V.int i)]
        exact q _ s1
      · refine ⟨_, rfl, rfl, _, rfl, iteF ?_⟩
        refine ⟨_, rfl, ⟨_, _, _, _, _, rfl, .ty _, ty, kit_ty (show kitB _ _ = some false by decide +kernel), _, rfl, ⟨_, _, _, _, _, rfl, .ty _, tx, kit_ty (show kitB _ _ = some false by decide +kernel), rfl, _, rfl, iteF ?_⟩⟩⟩
        refine ⟨_, rfl, ⟨_, _, _, _, _, rfl, .ty _, ty, kit_ty (show kitB _ _ = some true by decide +kernel), _, rfl, iteT ?_⟩⟩
        refine ⟨_, rfl, ⟨_, _, _, _, _, rfl, .ty _, tx, kit_ty (show kitB _ _ = some true by decide +kernel), _, rfl, iteT ?_⟩⟩
        refine ⟨_, rfl, _, rfl, rfl, ?_⟩
        rw [decide_eq_true (rfl : V.str z = V.str z)]
        exact q _ s1
/-- no data at all: where the recursion ends -/
theorem ok_same0 {f : Addr} {fd : FuncData} (F : Fun K "_law_same" "_law_same" s__law_same f fd) : FnOk P w K mg base CX0 1 f fd ["actual", "due"] (sp_same K 0) := by
  refine F.ok sc__law_same (fun vs H Q E h => ?_) (fun cdv A outer s H vs Q E hr h => ?_)
  · obtain ⟨x, y, D, m, e, _⟩ := h
    exact absurd e (by omega)
  · obtain ⟨x, y, D, m, e, _⟩ := h
    exact absurd e (by omega)
/-- of any depth -/
theorem cl_same {f : Addr} {fd : FuncData} (F : Fun K "_law_same" "_law_same" s__law_same f fd) (M : Mg mg) (g : mg "_law_same" = some (.ref f)) (b : Binds K fd ["actual", "due"] []) : ∀ n : Nat, Cl P w K mg base (n + 1) "_law_same" (sp_same K n)
  | 0 => FnOk.cl (ok_same0 F) F g b
  | n + 1 => FnOk.cl (ok_same F M (cl_same F M g b n)) F g b
end

/-! ### t < u of tuples whose first different place alone can be compared -/
section
open PySem.SeqAt AutoSeq1 MeetsSeq MeetsSeq2 MeetsSeq3 SeqRoads2
/-- what the first different place says; fin where there is none -/
def fstLt (e r : Nat → Bool) (fin : Bool) (n : Nat) : Bool := SeqAt.firstLt e r fin (List.range n)
theorem ltFirst (p q : Addr) (xs ys : Array Value) (n1 n2 : Nat) (d1 d2 : Option Addr) (z1 z2 : Array (Option Value)) (e r : Nat → Bool) :
    Meets (Builtin.«tuple.__lt__» ⟨[.ref p, .ref q], []⟩) (fun A R s =>
      s.heap.get? p = some { cls := .type "tuple", dict := d1, data := .seq xs n1, slots := z1 } ∧
      s.heap.get? q = some { cls := .type "tuple", dict := d2, data := .seq ys n2, slots := z2 } ∧
      (∀ j (a : j < xs.size) (b : j < ys.size), (∀ i < j, e i = true) → EqAt A.in1 s xs[j] ys[j] (e j)) ∧
      (∀ j (a : j < xs.size) (b : j < ys.size), (∀ i < j, e i = true) → e j = false → RcLt A.in1 s xs[j] ys[j] (r j)) ∧
      R (.ok (.ret (.bool (fstLt e r (decide (xs.size < ys.size)) (min xs.size ys.size))))) s) :=
  .of_wp fun prog w A R s h => by
    obtain ⟨h0, g, d, tk, os⟩ := s
    obtain ⟨hp, hq, he, hr, h⟩ := h
    have sub := AutoSeq1.sub_tuple_tuple
    have len : (xs.toList.zip ys.toList).length = min xs.size ys.size := by simp
    unfold fstLt at h
    wp_walk using wpAny_loadPart' hp, wpAny_loadPart' hq,
      wpAny_forIn_list _ (fun rest b s' => b.1 = none ∧ s' = ⟨h0, g, d, tk, os⟩ ∧ ∃ i, rest = (xs.toList.zip ys.toList).drop i ∧ (∀ k < i, e k = true) ∧
        R (.ok (.ret (.bool (firstLt e r (decide (xs.size < ys.size)) ((List.range (min xs.size ys.size)).drop i))))) ⟨h0, g, d, tk, os⟩) _
    case turn =>
      rintro ⟨y, x⟩ rest b s' ⟨eb, rfl, i, ez, ei, hR⟩
      have lt : i < (xs.toList.zip ys.toList).length := by
        refine Nat.lt_of_not_le fun z => ?_
        rw [List.drop_of_length_le z] at ez
        cases ez
      have lm : i < min xs.size ys.size := len ▸ lt
      have l1 : i < xs.size := by omega
      have l2 : i < ys.size := by omega
      rw [List.drop_eq_getElem_cons lt] at ez
      injection ez with e1 e2
      have ey : y = xs[i] := by simpa using congrArg Prod.fst e1
      have ex : x = ys[i] := by simpa using congrArg Prod.snd e1
      subst ey ex
      have er : (List.range (min xs.size ys.size)).drop i = i :: (List.range (min xs.size ys.size)).drop (i + 1) := by
        rw [List.drop_eq_getElem_cons (by simpa using lm)]
        simp
      rw [er] at hR
      have hq : e i = false → ∀ (E : Value → Shared → Prop) (Q : Value → Shared → Prop), Q (.bool (r i)) ⟨h0, g, d, tk, os⟩ → wpAny (model prog w) A.in1 (PySem.richCompare .Lt xs[i] ys[i]) Q E ⟨h0, g, d, tk, os⟩ := fun ee E Q z => hr i l1 l2 ei ee prog w E Q z
      have hb : ∀ (E : Value → Shared → Prop) (Q : Bool → Shared → Prop), Q (e i) ⟨h0, g, d, tk, os⟩ → wpAny (model prog w) A.in1 (PySem.eqBool xs[i] ys[i]) Q E ⟨h0, g, d, tk, os⟩ := fun E Q z => he i l1 l2 ei prog w E Q z
      refine wpAny_bind (hb _ _ ?_)
      cases ee : e i with
      | true =>
        rw [firstLt_yes ee] at hR
        wp_walk
        refine ⟨rfl, rfl, i + 1, e2, fun k hk => ?_, hR⟩
        by_cases z : k = i
        · exact z ▸ ee
        · exact ei k (by omega)
      | false =>
        rw [firstLt_no ee] at hR
        generalize PySem.richCompare .Lt xs[i] ys[i] = less at hq ⊢
        wp_walk
        refine hq ee _ _ ?_
        wp_walk
        exact ⟨_, rfl, hR⟩
    case fin =>
      rintro ⟨b1, b2⟩ s' ⟨eb, rfl, i, ez, ei, hR⟩
      simp only at eb
      subst eb
      have ge : min xs.size ys.size ≤ i := by
        refine Nat.le_of_not_lt fun z => ?_
        rw [List.drop_eq_getElem_cons (by rw [len]; exact z)] at ez
        cases ez
      rw [List.drop_of_length_le (by simpa using ge)] at hR
      wp_walk
      exact ⟨_, rfl, by simpa [Builtin.Tuple.tupleCompareSizes, firstLt] using hR⟩
    case h => exact ⟨rfl, rfl, 0, rfl, (fun k hk => absurd hk (Nat.not_lt_zero k)), by simpa using h⟩
theorem rcLt_first {A : Around} {s : Shared} {p q : Addr} {xs ys : Array Value} {e r : Nat → Bool} (hp : s.heap.IsTuple p xs) (hq : s.heap.IsTuple q ys) (hu : A.units < cLine)
    (he : ∀ j (a : j < xs.size) (b : j < ys.size), (∀ i < j, e i = true) → EqAt A.in1 s xs[j] ys[j] (e j)) (hr : ∀ j (a : j < xs.size) (b : j < ys.size), (∀ i < j, e i = true) → e j = false → RcLt A.in1 s xs[j] ys[j] (r j)) :
    RcLt A s (.ref p) (.ref q) (fstLt e r (decide (xs.size < ys.size)) (min xs.size ys.size)) := fun prog w E Q h => by
  obtain ⟨⟨c1, d1, t1, z1⟩, o1, k1, n1, m1⟩ := id hp
  obtain ⟨⟨c2, d2, t2, z2⟩, o2, k2, n2, m2⟩ := id hq
  simp only at k1 m1 k2 m2
  subst k1 m1 k2 m2
  exact richCompare_meets_room (op := .Lt) ⟨_, o1, rfl⟩ ⟨_, o2, rfl⟩ F.slot_tuple_lt F.entry_tuple_lt (F.args_tuple_lt_2 _ _) (ltFirst p q xs ys n1 n2 d1 d2 z1 z2 e r)
    ⟨o1, o2, he, hr, show Value.bool (fstLt e r (decide (xs.size < ys.size)) (min xs.size ys.size)) ≠ Value.notImplemented ∧ Q (.bool (fstLt e r (decide (xs.size < ys.size)) (min xs.size ys.size))) s from ⟨(fun z => nomatch z), h⟩⟩ hu
end
/-! the order of data, and where it may be asked -/
mutual
def ltD : PyData → PyData → Bool
  | .int a, .int b => decide (a < b)
  | .str a, .str b => decide (a.cps.toList < b.cps.toList)
  | .tuple xs, .tuple ys => ltDs xs ys
  | .list xs, .list ys => PySem.W.dataLt (.list xs) (.list ys)
  | _, _ => false
def ltDs : List PyData → List PyData → Bool
  | [], [] => false
  | [], _ :: _ => true
  | _ :: _, [] => false
  | x :: xs, y :: ys => if PyData.eqv x y = true then ltDs xs ys else ltD x y
end
mutual
def okD : PyData → PyData → Bool
  | .int _, .int _ => true
  | .str _, .str _ => true
  | .tuple xs, .tuple ys => okDs xs ys
  | .list xs, .list ys => PySem.W.alike (.list xs) (.list ys)
  | _, _ => false
def okDs : List PyData → List PyData → Bool
  | x :: xs, y :: ys => if PyData.eqv x y = true then okDs xs ys else okD x y
  | [], _ => true
  | _ :: _, [] => true
end
theorem fst_all (f : Nat → Nat → Bool) (e r e' r' : Nat → Bool) (fin : Bool) : ∀ l : List Nat, (∀ j, e (j + 1) = e' j) → (∀ j, r (j + 1) = r' j) → SeqAt.firstLt e r fin (l.map (· + 1)) = SeqAt.firstLt e' r' fin l
  | [], _, _ => rfl
  | j :: l, he, hr => by
    rw [List.map_cons]
    unfold SeqAt.firstLt
    rw [he, hr, fst_all f e r e' r' fin l he hr]
theorem fst_cons (e r : Nat → Bool) (fin : Bool) (n : Nat) : fstLt e r fin (n + 1) = if e 0 = true then fstLt (fun j => e (j + 1)) (fun j => r (j + 1)) fin n else r 0 := by
  unfold fstLt
  rw [List.range_succ_eq_map]
  show (if e 0 = true then SeqAt.firstLt e r fin ((List.range n).map Nat.succ) else r 0) = _
  rw [show (List.range n).map Nat.succ = (List.range n).map (· + 1) from rfl, fst_all (fun _ _ => true) e r (fun j => e (j + 1)) (fun j => r (j + 1)) fin _ (fun _ => rfl) (fun _ => rfl)]
/-- what the places of two lists say -/
def eqP (xs ys : List PyData) (j : Nat) : Bool := PyData.eqv (xs.getD j .none) (ys.getD j .none)
def ltP (xs ys : List PyData) (j : Nat) : Bool := ltD (xs.getD j .none) (ys.getD j .none)
theorem ltDs_first : ∀ xs ys : List PyData, ltDs xs ys = fstLt (eqP xs ys) (ltP xs ys) (decide (xs.length < ys.length)) (min xs.length ys.length)
  | [], [] => by unfold ltDs; rfl
  | [], y :: ys => by
    unfold ltDs
    rw [List.length_nil, Nat.zero_min]
    rfl
  | x :: xs, [] => by
    unfold ltDs
    rw [List.length_nil, Nat.min_zero]
    rfl
  | x :: xs, y :: ys => by
    unfold ltDs
    rw [List.length_cons, List.length_cons, Nat.succ_min_succ, fst_cons, ltDs_first xs ys]
    have e : decide (xs.length + 1 < ys.length + 1) = decide (xs.length < ys.length) := by
      rw [decide_eq_decide]
      omega
    rw [e]
    rfl
theorem okDs_at : ∀ (xs ys : List PyData) (j : Nat), okDs xs ys = true → j < xs.length → j < ys.length → (∀ i < j, eqP xs ys i = true) → eqP xs ys j = false → okD (xs.getD j .none) (ys.getD j .none) = true
  | [], _, j, _, h, _, _, _ => absurd h (Nat.not_lt_zero _)
  | _ :: _, [], j, _, _, h, _, _ => absurd h (Nat.not_lt_zero _)
  | x :: xs, y :: ys, 0, h, _, _, _, e => by
    have e' : PyData.eqv x y = false := e
    unfold okDs at h
    rw [e', if_neg Bool.false_ne_true] at h
    exact h
  | x :: xs, y :: ys, j + 1, h, h1, h2, ei, e => by
    have e0 : PyData.eqv x y = true := ei 0 (Nat.succ_pos j)
    unfold okDs at h
    rw [if_pos e0] at h
    exact okDs_at xs ys j h (Nat.lt_of_succ_lt_succ h1) (Nat.lt_of_succ_lt_succ h2) (fun i hi => ei (i + 1) (Nat.succ_lt_succ hi)) e
theorem pairEq_eqP : ∀ (xs ys : List PyData) (j : Nat), SeqAt.pairEq xs ys j = eqP xs ys j := fun xs ys j => rfl
section
open PySem.SeqAt
mutual
theorem rcLt_D : ∀ (x y : PyData) (A : Around) (s : Shared) (u v : Value) (as bs : List Addr), Reads s.heap u x as → Reads s.heap v y bs → x.canLay0 = true → y.canLay0 = true → okD x y = true → A.units + min x.depth y.depth < cLine → RcLt A s u v (ltD x y)
  | .none, _, _, _, _, _, _, _, _, _, _, _, h, _ => by unfold okD at h; cases h
  | .bool _, _, _, _, _, _, _, _, _, _, _, _, h, _ => by unfold okD at h; cases h
  | .list xs, y, A, s, u, v, as, bs, ra, rb, _, _, h, hu => by
    cases y with
    | list ys =>
      have ho : PySem.W.alike (.list xs) (.list ys) = true := by unfold okD at h; exact h
      have e : ltD (.list xs) (.list ys) = PySem.W.dataLt (.list xs) (.list ys) := by unfold ltD; rfl
      rw [e]
      exact PySem.W.rcLt_alike _ _ A s u v as bs ra rb ho (fun z => nomatch z) hu
    | _ => unfold okD at h; cases h
  | .dict _, _, _, _, _, _, _, _, _, _, _, _, h, _ => by unfold okD at h; cases h
  | .int a, y, A, s, u, v, as, bs, ra, rb, _, _, h, _ => by
    cases y with
    | int b =>
      cases ra
      cases rb
      intro prog w E Q hq
      exact P.lt_int (by unfold ltD at hq; exact hq)
    | _ => unfold okD at h; cases h
  | .str a, y, A, s, u, v, as, bs, ra, rb, _, _, h, _ => by
    cases y with
    | str b =>
      cases ra
      cases rb
      intro prog w E Q hq
      exact P.lt_str (by unfold ltD at hq; exact hq)
    | _ => unfold okD at h; cases h
  | .tuple xs, y, A, s, u, v, as, bs, ra, rb, ca, cb, h, hu => by
    cases y with
    | tuple ys =>
      have ho : okDs xs ys = true := by unfold okD at h; exact h
      have c1 : PyData.canLayAll0 xs = true := by simpa [PyData.canLay0] using ca
      have c2 : PyData.canLayAll0 ys = true := by simpa [PyData.canLay0] using cb
      cases ra with
      | @tuple p o vs n _ as1 a1 a2 a3 a4 =>
        cases rb with
        | @tuple q o' ws n' _ bs1 b1 b2 b3 b4 =>
          have l1 : vs.size = xs.length := by simpa using ReadsAll.length _ _ _ a4
          have l2 : ws.size = ys.length := by simpa using ReadsAll.length _ _ _ b4
          have e : ltD (.tuple xs) (.tuple ys) = ltDs xs ys := by unfold ltD; rfl
          rw [e, ltDs_first, ← l1, ← l2]
          refine rcLt_first ⟨_, a1, a2, _, a3⟩ ⟨_, b1, b2, _, b3⟩ (room_here hu) (fun j j1 j2 _ => ?_) (fun j j1 j2 hi hj => ?_)
          · have z : EqAt A.in1 s (vs.toList[j]'(by simpa using j1)) (ws.toList[j]'(by simpa using j2)) (eqP xs ys j) := eqAt_readsAll xs ys A.in1 s vs.toList ws.toList _ _ a4 b4 c1 c2 (room_in hu) j (by simpa using j1) (by simpa using j2)
            simpa using z
          · have := rcLt_Ds xs ys A.in1 s vs.toList ws.toList _ _ a4 b4 c1 c2 (room_in hu) j (by simpa using j1) (by simpa using j2) (okDs_at xs ys j ho (by omega) (by omega) hi hj)
            simpa using this
    | _ => unfold okD at h; cases h
theorem rcLt_Ds : ∀ (xs ys : List PyData) (A : Around) (s : Shared) (vs ws : List Value) (as bs : List Addr), ReadsAll s.heap vs xs as → ReadsAll s.heap ws ys bs → PyData.canLayAll0 xs = true → PyData.canLayAll0 ys = true →
    A.units + min (PyData.depthAll xs) (PyData.depthAll ys) < cLine → ∀ j (a : j < vs.length) (b : j < ws.length), okD (xs.getD j .none) (ys.getD j .none) = true → RcLt A s vs[j] ws[j] (ltP xs ys j)
  | [], _, _, _, _, _, _, _, ra, _, _, _, _, j, h, _, _ => by cases ra; exact absurd h (Nat.not_lt_zero _)
  | _ :: _, [], _, _, _, _, _, _, _, rb, _, _, _, j, _, h, _ => by cases rb; exact absurd h (Nat.not_lt_zero _)
  | x :: xs, y :: ys, A, s, _, _, _, _, ra, rb, ca, cb, hu, j, h1, h2, hk => by
    have c1 : x.canLay0 = true ∧ PyData.canLayAll0 xs = true := by simpa [PyData.canLayAll0] using ca
    have c2 : y.canLay0 = true ∧ PyData.canLayAll0 ys = true := by simpa [PyData.canLayAll0] using cb
    cases ra with
    | cons r rs =>
      cases rb with
      | cons r' rs' =>
        cases j with
        | zero => exact rcLt_D x y A s _ _ _ _ r r' c1.1 c2.1 hk (room_head hu)
        | succ j => exact rcLt_Ds xs ys A s _ _ _ _ rs rs' c1.2 c2.2 (room_tail hu) j (Nat.lt_of_succ_lt_succ h1) (Nat.lt_of_succ_lt_succ h2) hk
end
end
def rLtD (K : PySem.W.Frag) : R2 := fun x y H Q => ∃ d e, Dp K H x d ∧ Dp K H y e ∧ SeqAt.shaped d = true ∧ SeqAt.shaped e = true ∧ okD d e = true ∧ Q (.bl (ltD d e)) H
theorem ltDK {X : Cx} (K : PySem.W.Frag) (hu : X.A.units + 64 < cLine) (h : X.K = K := by rfl) : OpR X (compareOp .Lt) (rLtD K) := by
  subst h
  intro pins s σ H x y v u Q I rx ry h
  obtain ⟨d, e, hd, he, sd, se, ho, q⟩ := h
  obtain ⟨as, r1⟩ := Dp.reads I d x v hd rx
  obtain ⟨bs, r2⟩ := Dp.reads I e y u he ry
  have go := rcLt_D d e X.A s v u as bs r1 r2 (SeqAt.canLay_of_shaped sd) (SeqAt.canLay_of_shaped se) ho (SeqAt.room_of_shaped sd hu)
  exact go X.prog X.w X.xe _ ⟨.bl _, H, I, rfl, q⟩

/-! ### t > u of tuples whose first different place alone can be compared -/
section
open PySem.SeqAt AutoSeq1 MeetsSeq MeetsSeq2 MeetsSeq3 SeqRoads2
theorem gtFirst (p q : Addr) (xs ys : Array Value) (n1 n2 : Nat) (d1 d2 : Option Addr) (z1 z2 : Array (Option Value)) (e r : Nat → Bool) :
    Meets (Builtin.«tuple.__gt__» ⟨[.ref p, .ref q], []⟩) (fun A R s =>
      s.heap.get? p = some { cls := .type "tuple", dict := d1, data := .seq xs n1, slots := z1 } ∧
      s.heap.get? q = some { cls := .type "tuple", dict := d2, data := .seq ys n2, slots := z2 } ∧
      (∀ j (a : j < xs.size) (b : j < ys.size), (∀ i < j, e i = true) → EqAt A.in1 s xs[j] ys[j] (e j)) ∧
      (∀ j (a : j < xs.size) (b : j < ys.size), (∀ i < j, e i = true) → e j = false → RcOp .Gt A.in1 s xs[j] ys[j] (r j)) ∧
      R (.ok (.ret (.bool (fstLt e r (decide (ys.size < xs.size)) (min xs.size ys.size))))) s) :=
  .of_wp fun prog w A R s h => by
    obtain ⟨h0, g, d, tk, os⟩ := s
    obtain ⟨hp, hq, he, hr, h⟩ := h
    have sub := AutoSeq1.sub_tuple_tuple
    have len : (xs.toList.zip ys.toList).length = min xs.size ys.size := by simp
    unfold fstLt at h
    wp_walk using wpAny_loadPart' hp, wpAny_loadPart' hq,
      wpAny_forIn_list _ (fun rest b s' => b.1 = none ∧ s' = ⟨h0, g, d, tk, os⟩ ∧ ∃ i, rest = (xs.toList.zip ys.toList).drop i ∧ (∀ k < i, e k = true) ∧
        R (.ok (.ret (.bool (firstLt e r (decide (ys.size < xs.size)) ((List.range (min xs.size ys.size)).drop i))))) ⟨h0, g, d, tk, os⟩) _
    case turn =>
      rintro ⟨y, x⟩ rest b s' ⟨eb, rfl, i, ez, ei, hR⟩
      have lt : i < (xs.toList.zip ys.toList).length := by
        refine Nat.lt_of_not_le fun z => ?_
        rw [List.drop_of_length_le z] at ez
        cases ez
      have lm : i < min xs.size ys.size := len ▸ lt
      have l1 : i < xs.size := by omega
      have l2 : i < ys.size := by omega
      rw [List.drop_eq_getElem_cons lt] at ez
      injection ez with e1 e2
      have ey : y = xs[i] := by simpa using congrArg Prod.fst e1
      have ex : x = ys[i] := by simpa using congrArg Prod.snd e1
      subst ey ex
      have er : (List.range (min xs.size ys.size)).drop i = i :: (List.range (min xs.size ys.size)).drop (i + 1) := by
        rw [List.drop_eq_getElem_cons (by simpa using lm)]
        simp
      rw [er] at hR
      have hq : e i = false → ∀ (E : Value → Shared → Prop) (Q : Value → Shared → Prop), Q (.bool (r i)) ⟨h0, g, d, tk, os⟩ → wpAny (model prog w) A.in1 (PySem.richCompare .Gt xs[i] ys[i]) Q E ⟨h0, g, d, tk, os⟩ := fun ee E Q z => hr i l1 l2 ei ee prog w E Q z
      have hb : ∀ (E : Value → Shared → Prop) (Q : Bool → Shared → Prop), Q (e i) ⟨h0, g, d, tk, os⟩ → wpAny (model prog w) A.in1 (PySem.eqBool xs[i] ys[i]) Q E ⟨h0, g, d, tk, os⟩ := fun E Q z => he i l1 l2 ei prog w E Q z
      refine wpAny_bind (hb _ _ ?_)
      cases ee : e i with
      | true =>
        rw [firstLt_yes ee] at hR
        wp_walk
        refine ⟨rfl, rfl, i + 1, e2, fun k hk => ?_, hR⟩
        by_cases z : k = i
        · exact z ▸ ee
        · exact ei k (by omega)
      | false =>
        rw [firstLt_no ee] at hR
        generalize PySem.richCompare .Gt xs[i] ys[i] = less at hq ⊢
        wp_walk
        refine hq ee _ _ ?_
        wp_walk
        exact ⟨_, rfl, hR⟩
    case fin =>
      rintro ⟨b1, b2⟩ s' ⟨eb, rfl, i, ez, ei, hR⟩
      simp only at eb
      subst eb
      have ge : min xs.size ys.size ≤ i := by
        refine Nat.le_of_not_lt fun z => ?_
        rw [List.drop_eq_getElem_cons (by rw [len]; exact z)] at ez
        cases ez
      rw [List.drop_of_length_le (by simpa using ge)] at hR
      wp_walk
      exact ⟨_, rfl, by simpa [Builtin.Tuple.tupleCompareSizes, firstLt] using hR⟩
    case h => exact ⟨rfl, rfl, 0, rfl, (fun k hk => absurd hk (Nat.not_lt_zero k)), by simpa using h⟩
theorem rcGt_first {A : Around} {s : Shared} {p q : Addr} {xs ys : Array Value} {e r : Nat → Bool} (hp : s.heap.IsTuple p xs) (hq : s.heap.IsTuple q ys) (hu : A.units < cLine)
    (he : ∀ j (a : j < xs.size) (b : j < ys.size), (∀ i < j, e i = true) → EqAt A.in1 s xs[j] ys[j] (e j)) (hr : ∀ j (a : j < xs.size) (b : j < ys.size), (∀ i < j, e i = true) → e j = false → RcOp .Gt A.in1 s xs[j] ys[j] (r j)) :
    RcOp .Gt A s (.ref p) (.ref q) (fstLt e r (decide (ys.size < xs.size)) (min xs.size ys.size)) := fun prog w E Q h => by
  obtain ⟨⟨c1, d1, t1, z1⟩, o1, k1, n1, m1⟩ := id hp
  obtain ⟨⟨c2, d2, t2, z2⟩, o2, k2, n2, m2⟩ := id hq
  simp only at k1 m1 k2 m2
  subst k1 m1 k2 m2
  exact richCompare_meets_room (op := .Gt) ⟨_, o1, rfl⟩ ⟨_, o2, rfl⟩ F.slot_tuple_gt F.entry_tuple_gt (F.args_tuple_gt_2 _ _) (gtFirst p q xs ys n1 n2 d1 d2 z1 z2 e r)
    ⟨o1, o2, he, hr, show Value.bool (fstLt e r (decide (ys.size < xs.size)) (min xs.size ys.size)) ≠ Value.notImplemented ∧ Q (.bool (fstLt e r (decide (ys.size < xs.size)) (min xs.size ys.size))) s from ⟨(fun z => nomatch z), h⟩⟩ hu
end
mutual
def gtD : PyData → PyData → Bool
  | .int a, .int b => decide (b < a)
  | .str a, .str b => decide (b.cps.toList < a.cps.toList)
  | .tuple xs, .tuple ys => gtDs xs ys
  | .list xs, .list ys => PySem.W.dataLt (.list ys) (.list xs)
  | _, _ => false
def gtDs : List PyData → List PyData → Bool
  | [], [] => false
  | [], _ :: _ => false
  | _ :: _, [] => true
  | x :: xs, y :: ys => if PyData.eqv x y = true then gtDs xs ys else gtD x y
end
def gtP (xs ys : List PyData) (j : Nat) : Bool := gtD (xs.getD j .none) (ys.getD j .none)
theorem gtDs_first : ∀ xs ys : List PyData, gtDs xs ys = fstLt (eqP xs ys) (gtP xs ys) (decide (ys.length < xs.length)) (min xs.length ys.length)
  | [], [] => by unfold gtDs; rfl
  | [], y :: ys => by
    unfold gtDs
    rw [List.length_nil, Nat.zero_min]
    rfl
  | x :: xs, [] => by
    unfold gtDs
    rw [List.length_nil, Nat.min_zero]
    rfl
  | x :: xs, y :: ys => by
    unfold gtDs
    rw [List.length_cons, List.length_cons, Nat.succ_min_succ, fst_cons, gtDs_first xs ys]
    have e : decide (ys.length + 1 < xs.length + 1) = decide (ys.length < xs.length) := by
      rw [decide_eq_decide]
      omega
    rw [e]
    rfl
section
open PySem.SeqAt
mutual
theorem rcGt_D : ∀ (x y : PyData) (A : Around) (s : Shared) (u v : Value) (as bs : List Addr), Reads s.heap u x as → Reads s.heap v y bs → x.canLay0 = true → y.canLay0 = true → okD x y = true → A.units + min x.depth y.depth < cLine → RcOp .Gt A s u v (gtD x y)
  | .none, _, _, _, _, _, _, _, _, _, _, _, h, _ => by unfold okD at h; cases h
  | .bool _, _, _, _, _, _, _, _, _, _, _, _, h, _ => by unfold okD at h; cases h
  | .list xs, y, A, s, u, v, as, bs, ra, rb, _, _, h, hu => by
    cases y with
    | list ys =>
      have ho : PySem.W.alike (.list xs) (.list ys) = true := by unfold okD at h; exact h
      have e : gtD (.list xs) (.list ys) = PySem.W.dataLt (.list ys) (.list xs) := by unfold gtD; rfl
      rw [e]
      exact PySem.W.rcGt_alike _ _ A s u v as bs ra rb ho (fun z => nomatch z) hu
    | _ => unfold okD at h; cases h
  | .dict _, _, _, _, _, _, _, _, _, _, _, _, h, _ => by unfold okD at h; cases h
  | .int a, y, A, s, u, v, as, bs, ra, rb, _, _, h, _ => by
    cases y with
    | int b =>
      cases ra
      cases rb
      intro prog w E Q hq
      exact P.gt_int (by unfold gtD at hq; exact hq)
    | _ => unfold okD at h; cases h
  | .str a, y, A, s, u, v, as, bs, ra, rb, _, _, h, _ => by
    cases y with
    | str b =>
      cases ra
      cases rb
      intro prog w E Q hq
      exact P.gt_str (by unfold gtD at hq; exact hq)
    | _ => unfold okD at h; cases h
  | .tuple xs, y, A, s, u, v, as, bs, ra, rb, ca, cb, h, hu => by
    cases y with
    | tuple ys =>
      have ho : okDs xs ys = true := by unfold okD at h; exact h
      have c1 : PyData.canLayAll0 xs = true := by simpa [PyData.canLay0] using ca
      have c2 : PyData.canLayAll0 ys = true := by simpa [PyData.canLay0] using cb
      cases ra with
      | @tuple p o vs n _ as1 a1 a2 a3 a4 =>
        cases rb with
        | @tuple q o' ws n' _ bs1 b1 b2 b3 b4 =>
          have l1 : vs.size = xs.length := by simpa using ReadsAll.length _ _ _ a4
          have l2 : ws.size = ys.length := by simpa using ReadsAll.length _ _ _ b4
          have e : gtD (.tuple xs) (.tuple ys) = gtDs xs ys := by unfold gtD; rfl
          rw [e, gtDs_first, ← l1, ← l2]
          refine rcGt_first ⟨_, a1, a2, _, a3⟩ ⟨_, b1, b2, _, b3⟩ (room_here hu) (fun j j1 j2 _ => ?_) (fun j j1 j2 hi hj => ?_)
          · have z : EqAt A.in1 s (vs.toList[j]'(by simpa using j1)) (ws.toList[j]'(by simpa using j2)) (eqP xs ys j) := eqAt_readsAll xs ys A.in1 s vs.toList ws.toList _ _ a4 b4 c1 c2 (room_in hu) j (by simpa using j1) (by simpa using j2)
            simpa using z
          · have := rcGt_Ds xs ys A.in1 s vs.toList ws.toList _ _ a4 b4 c1 c2 (room_in hu) j (by simpa using j1) (by simpa using j2) (okDs_at xs ys j ho (by omega) (by omega) hi hj)
            simpa using this
    | _ => unfold okD at h; cases h
theorem rcGt_Ds : ∀ (xs ys : List PyData) (A : Around) (s : Shared) (vs ws : List Value) (as bs : List Addr), ReadsAll s.heap vs xs as → ReadsAll s.heap ws ys bs → PyData.canLayAll0 xs = true → PyData.canLayAll0 ys = true →
    A.units + min (PyData.depthAll xs) (PyData.depthAll ys) < cLine → ∀ j (a : j < vs.length) (b : j < ws.length), okD (xs.getD j .none) (ys.getD j .none) = true → RcOp .Gt A s vs[j] ws[j] (gtP xs ys j)
  | [], _, _, _, _, _, _, _, ra, _, _, _, _, j, h, _, _ => by cases ra; exact absurd h (Nat.not_lt_zero _)
  | _ :: _, [], _, _, _, _, _, _, _, rb, _, _, _, j, _, h, _ => by cases rb; exact absurd h (Nat.not_lt_zero _)
  | x :: xs, y :: ys, A, s, _, _, _, _, ra, rb, ca, cb, hu, j, h1, h2, hk => by
    have c1 : x.canLay0 = true ∧ PyData.canLayAll0 xs = true := by simpa [PyData.canLayAll0] using ca
    have c2 : y.canLay0 = true ∧ PyData.canLayAll0 ys = true := by simpa [PyData.canLayAll0] using cb
    cases ra with
    | cons r rs =>
      cases rb with
      | cons r' rs' =>
        cases j with
        | zero => exact rcGt_D x y A s _ _ _ _ r r' c1.1 c2.1 hk (room_head hu)
        | succ j => exact rcGt_Ds xs ys A s _ _ _ _ rs rs' c1.2 c2.2 (room_tail hu) j (Nat.lt_of_succ_lt_succ h1) (Nat.lt_of_succ_lt_succ h2) hk
end
end

/-- a def as a value, and its promise -/
structure Hd (P : Program) (w : World) (K : PySem.W.Frag) (mg : Str → Option Value) (base : Heap) (k : Nat) (f : Addr) (sp : Sp) : Prop where
  ex : ∃ (fd : FuncData) (ps : List Str), FnOk P w K mg base CX0 k f fd ps sp ∧ PySem.W.keepIn K (.ref f) = true ∧ Binds K fd ps []
theorem Cl.hd {P : Program} {w : World} {K : PySem.W.Frag} {mg : Str → Option Value} {base : Heap} {k : Nat} {x : Str} {sp : Sp} (c : Cl P w K mg base k x sp) : ∃ f, mg x = some (.ref f) ∧ Hd P w K mg base k f sp := by
  obtain ⟨f, fd, ps, F, hm, kp, b⟩ := c.ex
  exact ⟨f, hm, fd, ps, F, kp, b⟩

/-! ### sorted(xs, key=f): keys that are data, any number of them -/
/-- what the heap tells of a machine value -/
def bk : Value → V
  | .none => .non
  | .bool b => .bl b
  | .int i _ => .int i
  | .str x _ => .str x
  | .bytes b _ => .byt b
  | .float b _ => .flt b
  | .ref a => .ref a
  | .type n => .ty n
  | _ => .non
theorem bk_rel : ∀ {y : V} {v : Value}, RelV y v → bk v = y
  | .non, _, h => by cases h; rfl
  | .bl _, _, h => by cases h; rfl
  | .int _, _, h => by obtain ⟨t, rfl⟩ := h; rfl
  | .str _, _, h => by obtain ⟨t, rfl⟩ := h; rfl
  | .byt _, _, h => by obtain ⟨t, rfl⟩ := h; rfl
  | .flt _, _, h => by obtain ⟨t, rfl⟩ := h; rfl
  | .ref _, _, h => by cases h; rfl
  | .ty _, _, h => by cases h; rfl
/-- a tuple that begins with an int (b) or with a tuple -/
structure KeyD (b : Bool) (d : PyData) : Prop where
  hd : ∃ d0 ds, d = .tuple (d0 :: ds) ∧ (if b = true then ∃ n, d0 = .int n else ∃ es, d0 = .tuple es)
  lay : d.canLay0 = true
  dep : d.depth ≤ 40
section
open PySem.SeqAt PySem.W
theorem lex_D {prog : Program} {w : World} {A : Around} {s : Shared} (b : Bool) {Q : Bool → Shared → Prop} : ∀ (xs ys : List PyData) (vs ws : List Value) (as bs : List Addr) (i : Nat), ReadsAll s.heap vs xs as → ReadsAll s.heap ws ys bs → PyData.canLayAll0 xs = true → PyData.canLayAll0 ys = true →
    okDs xs ys = true → A.units + min (PyData.depthAll xs) (PyData.depthAll ys) < cLine → (b = true → i = 0 → ∀ x r y r', xs = x :: r → ys = y :: r' → ∃ m n, x = .int m ∧ y = .int n) → Q (ltDs xs ys) s →
    KatLex prog w A b (decide (xs.length < ys.length)) Q (vs.zip ws) i s
  | [], [], _, _, _, _, _, ra, rb, _, _, _, _, _, q => by
    cases ra
    unfold ltDs at q
    exact kat_nil q
  | [], _ :: _, _, _, _, _, _, ra, rb, _, _, _, _, _, q => by
    cases ra
    unfold ltDs at q
    exact kat_nil q
  | _ :: _, [], _, _, _, _, _, ra, rb, _, _, _, _, _, q => by
    cases ra
    cases rb
    unfold ltDs at q
    exact kat_nil q
  | x :: xs, y :: ys, _, _, _, _, i, ra, rb, ca, cb, ho, hu, hb, q => by
    have c1 : x.canLay0 = true ∧ PyData.canLayAll0 xs = true := by simpa [PyData.canLayAll0] using ca
    have c2 : y.canLay0 = true ∧ PyData.canLayAll0 ys = true := by simpa [PyData.canLayAll0] using cb
    cases ra with
    | cons r rs =>
      cases rb with
      | cons r' rs' =>
        have el : decide ((x :: xs).length < (y :: ys).length) = decide (xs.length < ys.length) := by
          rw [List.length_cons, List.length_cons, decide_eq_decide]
          omega
        rw [el]
        unfold okDs at ho
        unfold ltDs at q
        refine kat_cons (eqAt_reads x y A s _ _ _ _ r r' c1.1 c2.1 (room_head hu) prog w _ _ ?_)
        refine kat_go (fun e => kat_yes ?_) (fun e => kat_no ?_)
        · rw [if_pos e] at ho q
          exact lex_D b xs ys _ _ _ _ (i + 1) rs rs' c1.2 c2.2 ho (room_tail hu) (fun _ z => by omega) q
        · rw [if_neg (by rw [e]; exact Bool.false_ne_true)] at ho q
          generalize hc : (b && i == 0) = c
          cases c with
          | true =>
            rw [Bool.and_eq_true] at hc
            obtain ⟨m, n, rfl, rfl⟩ := hb hc.1 (by simpa using hc.2) _ _ _ _ rfl rfl
            cases r
            cases r'
            refine TS.oneLt_ints true ?_
            unfold ltD at q
            exact q
          | false => exact kat_one _ _ (rcLt_D x y A s _ _ _ _ r r' c1.1 c2.1 ho (room_head hu) prog w _ _ q)
theorem key_lt {prog : Program} {w : World} {A : Around} {s : Shared} {b : Bool} {x y : PyData} {u v : Value} {as bs : List Addr} (kx : KeyD b x) (ky : KeyD b y) (rx : Reads s.heap u x as) (ry : Reads s.heap v y bs) (ho : okD x y = true) (hu : A.units + 64 < cLine) :
    wpAny (model prog w) A (keyLt' (tuples' b) u v) (fun r s' => s' = s ∧ r = ltD x y) (fun _ _ => False) s := by
  obtain ⟨d0, ds, rfl, h0⟩ := kx.hd
  obtain ⟨e0, es, rfl, g0⟩ := ky.hd
  have c1 : PyData.canLayAll0 (d0 :: ds) = true := by have := kx.lay; unfold PyData.canLay0 at this; exact this
  have c2 : PyData.canLayAll0 (e0 :: es) = true := by have := ky.lay; unfold PyData.canLay0 at this; exact this
  have dd := kx.dep
  unfold PyData.depth at dd
  unfold okD at ho
  cases rx with
  | @tuple p o vs n _ as1 a1 a2 a3 a4 =>
    cases ry with
    | @tuple q o' ws n' _ bs1 b1 b2 b3 b4 =>
      have l1 : vs.size = (d0 :: ds).length := by simpa using ReadsAll.length _ _ _ a4
      have l2 : ws.size = (e0 :: es).length := by simpa using ReadsAll.length _ _ _ b4
      refine kat_lt a1 a3 b1 b3 ?_
      rw [l1, l2]
      refine lex_D b _ _ _ _ _ _ 0 a4 b4 c1 c2 ho ?_ (fun hb _ x r y r' e1 e2 => ?_) ⟨rfl, ?_⟩
      · have : min (PyData.depthAll (d0 :: ds)) (PyData.depthAll (e0 :: es)) ≤ PyData.depthAll (d0 :: ds) := Nat.min_le_left _ _
        omega
      · cases e1
        cases e2
        rw [if_pos hb] at h0 g0
        obtain ⟨m, rfl⟩ := h0
        obtain ⟨n, rfl⟩ := g0
        exact ⟨m, n, rfl, rfl⟩
      · unfold ltD
        rfl
theorem key_kind {prog : Program} {w : World} {A : Around} {E : Value → Shared → Prop} {s : Shared} {b : Bool} {us : List Value} {Q : SortKind → Shared → Prop} (h2 : 0 < us.length) (h : ∀ u ∈ us, ∃ d as, Reads s.heap u d as ∧ KeyD b d) (q : Q (tuples' b) s) : wpAny (model prog w) A (keyKind' us.toArray) Q E s := by
  have mk : ∀ us : List Value, (∀ u ∈ us, ∃ d as, Reads s.heap u d as ∧ KeyD b d) → ∃ fs, fs.length = us.length ∧ KatTups s.heap us fs ∧ ∀ f ∈ fs, Looks (model prog w) s.heap (typeOf f) (.type (if b = true then "int" else "tuple")) := by
    intro us
    induction us with
    | nil => exact fun _ => ⟨[], rfl, KatTups.nil, fun _ h => by cases h⟩
    | cons u us ih =>
      intro h
      obtain ⟨fs, l1, l2, l3⟩ := ih fun x hx => h x (List.mem_cons_of_mem _ hx)
      obtain ⟨d, as, rd, kd⟩ := h u List.mem_cons_self
      obtain ⟨d0, ds, rfl, h0⟩ := kd.hd
      cases rd with
      | @tuple p o vs n _ as1 a1 a2 a3 a4 =>
        obtain ⟨vs⟩ := vs
        cases vs with
        | nil => cases a4
        | cons v0 vs =>
          cases a4 with
          | cons r rs =>
            refine ⟨v0 :: fs, by rw [List.length_cons, List.length_cons, l1], KatTups.cons a1 a2 a3 rfl l2, fun f hf => ?_⟩
            rcases List.mem_cons.mp hf with rfl | hf
            · cases b with
              | true =>
                rw [if_pos rfl] at h0
                obtain ⟨n, rfl⟩ := h0
                cases r
                exact Looks.now
              | false =>
                rw [if_neg Bool.false_ne_true] at h0
                obtain ⟨es, rfl⟩ := h0
                cases r with
                | @tuple p' o' vs' n' _ as2 c1 c2 c3 c4 =>
                  have z : Looks (model prog w) s.heap (typeOf (.ref p')) o'.cls := (Looks.ld c1).andThen .now
                  rw [c2] at z
                  exact z
            · exact l3 f hf
  obtain ⟨fs, l1, l2, l3⟩ := mk us h
  refine kat_kind (T := .type (if b = true then "int" else "tuple")) l2 (by omega) l3 (by cases b <;> rfl) ?_
  have e : ((Value.type (if b = true then "int" else "tuple")) != Value.type "tuple") = b := by
    cases b <;> first | rfl | decide +kernel
  rw [e]
  exact q
end
/-- all that H has, and the tuples of H2 -/
def Kp3 (H H2 H3 : Hp) : Prop := Same H H3 ∧ ∀ b o, (∃ xs, o = HO.tup xs) ∨ (∃ q u, o = HO.frz q u) → H2 b = some o → H3 b = some o
def rSortF (P : Program) (w : World) (K : PySem.W.Frag) (mg : Str → Option Value) (base : Heap) (k : Nat) : List V → List V → Hp → VK → Prop := fun vs zs H Q => ∃ (a f : Addr) (sp : Sp) (ys : List V) (kd : V → PyData) (b : Bool), vs = [.ref a] ∧ zs = [.ref f] ∧ SqL K H a ys ∧ Hd P w K mg base k f sp ∧
  (∀ y ∈ ys, ∀ (H1 : Hp) (R : VK), Same H H1 → (∀ u H2, Same H1 H2 → (∀ H3, Kp3 H H2 H3 → Dp K H3 u (kd y)) → R u H2) → sp [y] H1 R E0) ∧ (∀ y ∈ ys, KeyD b (kd y)) ∧ (∀ y ∈ ys, ∀ z ∈ ys, okD (kd y) (kd z) = true) ∧ SrtO.Swo (fun y z : V => ltD (kd y) (kd z)) ∧
  ∀ zs H' p, Same H H' → H p = none → SrtO.Srtd (fun y z => ltD (kd y) (kd z)) zs → SrtO.Stb (fun y z => ltD (kd y) (kd z)) zs ys → H' p = some (.lst zs) → Q (.ref p) H'
section
open PySem.SeqAt PySem.W
theorem push_keep {h : Heap} {o : Obj} : ∀ b u, h.get? b = some u → (h.push o).get? b = some u := fun b u e => Heap.get?_push_of_some _ e
set_option maxHeartbeats 4000000 in
theorem cr_sortF {X : Cx} {k j : Nat} (hr : Room j X.A) (hk : k + 2 ≤ j) (hu : X.A.units + 70 < cLine) : CallRK X (.builtin "sorted") [Str.ofString "key"] (rSortF X.prog X.w X.K X.mg X.base k) := by
  intro pins s σ H vs zs us ws Q I r rz ask
  obtain ⟨a, f, sp, ys, kd, b, rfl, rfl, hs, ⟨fd, ps, F, kp, bnd⟩, prom, kok, cmp, O, q⟩ := ask
  obtain rfl := Vals.ref1 r
  obtain ⟨w1, rfl, e1⟩ := vals1 rz
  obtain rfl : w1 = Value.ref f := e1
  obtain ⟨its, rv, pl, hz⟩ := I.list hs
  have lz : its.length = ys.length := rv.length.symm
  -- the collected list, the list that is sorted, what is held, the keys
  generalize eh1 : (s.heap.push (seqObj "list" #[] 0)).update s.heap.objs.size (Obj.mapSeq (· ++ its.toArray)) = h1
  have sz1 : h1.objs.size = s.heap.objs.size + 1 := by
    rw [← eh1, Heap.size_update]
    exact size_push' _ _
  have k1 : ∀ b o, s.heap.get? b = some o → h1.get? b = some o := fun b o e => by
    rw [← eh1, Heap.get?_update_ne _ _ _ _ (Nat.ne_of_lt (Heap.lt_size e))]
    exact push_keep _ _ e
  generalize eD : h1.objs.size = D at sz1
  have oD : (h1.push (seqObj "list" its.toArray 0)).get? D = some (seqObj "list" its.toArray 0) := by
    rw [← eD]
    exact Heap.get?_push_size _ rfl
  refine (call_function_entry_kw kind_sorted plain_sorted entry_sorted (ksk_s1 _ _) ?_)
  unfold Builtin.«sorted»
  refine (wpAny_bind (m := checkCount "sorted" 1 1 _) (wpAny_pure ?_))
  refine (wpAny_bind (collect_list pl.isList ?_ (by rw [lz]; exact hz)))
  refine (wpAny_bind (wpAny_newList ?_ (by rw [lz]; exact hz)))
  show wpAny _ _ _ _ _ { s with heap := ((s.heap.push (seqObj "list" #[] 0)).update s.heap.objs.size (Obj.mapSeq (· ++ its.toArray))).push (seqObj "list" its.toArray 0) }
  rw [eh1, eD]
  refine (wpAny_bind (wpAny_holding (wpAny_call_entry_kw slot_list_sort ⟨_, oD, rfl⟩ entry_list_sort ?body (ksk_l1 _ _))))
  show wpAny (model X.prog X.w) X.A.in1.in1 (Builtin.«list.sort» ⟨[.ref D], [(Str.ofString "key", .ref f)]⟩) _ _ _
  rw [ksk_t1]
  -- the list emptied, its items held, the keys
  obtain ⟨ep, oD3⟩ : ∃ ep, ((h1.push (seqObj "list" its.toArray 0)).update D (Obj.mapSeq fun _ => #[])).get? D = some (seqObj "list" #[] ep) := ⟨_, get?_update_seq oD fun _ => #[]⟩
  have k3 : ∀ c o, s.heap.get? c = some o → ((h1.push (seqObj "list" its.toArray 0)).update D (Obj.mapSeq fun _ => #[])).get? c = some o := fun c o e => by
    have lt : c < s.heap.objs.size := Heap.lt_size e
    rw [Heap.get?_update_ne _ _ _ _ (Nat.ne_of_lt (by rw [sz1]; exact Nat.lt_succ_of_lt lt))]
    exact push_keep _ _ (k1 _ _ e)
  unfold ksk_tree
  refine (wpAny_bind (listItems_at oD rfl ?_))
  refine (wpAny_bind (listUpdate_at oD rfl ?_ (by rw [List.size_toArray, lz]; exact hz) (Nat.zero_le _)))
  refine (wpAny_bind (seqEpoch_at oD3 rfl ?_))
  refine (wpAny_bind (wpAny_newTuple ?_ (by show its.length ≤ _; rw [lz]; exact hz)))
  refine (wpAny_bind (wpAny_newList ?_ (Nat.zero_le _)))
  refine wpAny_holding ?_
  generalize (h1.push (seqObj "list" its.toArray 0)).update D (Obj.mapSeq fun _ => #[]) = h3 at oD3 k3 ⊢
  have lD : D < h3.objs.size := Heap.lt_size oD3
  show wpAny _ _ _ _ _ { s with heap := (h3.push (seqObj "tuple" its.toArray 0)).push (seqObj "list" #[] 0) }
  generalize e4 : h3.push (seqObj "tuple" its.toArray 0) = h4
  have oD4 : h4.get? D = some (seqObj "list" #[] ep) := by rw [← e4]; exact push_keep _ _ oD3
  have k4 : ∀ c o, s.heap.get? c = some o → h4.get? c = some o := fun c o e => by rw [← e4]; exact push_keep _ _ (k3 _ _ e)
  have lD4 : D < h4.objs.size := Heap.lt_size oD4
  let φ : Heap → Prop := fun h => h.get? D = some (seqObj "list" #[] ep)
  have nD : H D = none := I.hok.fresh (by omega)
  have I4 : Inv X pins σ (upd H D (.ext φ)) { s with heap := h4 } := I.laid (t' := s.toks) k4 (by omega) ⟨oD4, ⟨_, oD4⟩, fun h1 h2 z g => g _ z⟩
  have nK : (upd H D (.ext φ)) h4.objs.size = none := I4.hok.fresh (Nat.le_refl _)
  have oK : (h4.push (seqObj "list" #[] 0)).get? h4.objs.size = some (seqObj "list" #[] 0) := Heap.get?_push_size _ rfl
  have I5 : Inv X pins σ (upd (upd H D (.ext φ)) h4.objs.size (.lst [])) { s with heap := h4.push (seqObj "list" #[] 0) } := I4.laid (t' := s.toks) (h' := h4.push (seqObj "list" #[] 0)) push_keep (Nat.le_refl _) ⟨Nat.zero_le _, [], 0, .nil, oK⟩
  generalize h4.objs.size = kS at lD4 nK oK I5 ⊢
  have nDk : D ≠ kS := by omega
  have nHk : H kS = none := by
    rw [upd_ne (Ne.symm nDk)] at nK
    exact nK
  have sm5 : Same H (upd (upd H D (.ext φ)) kS (.lst [])) := (same_upd nD).trans (same_upd nK)
  unfold ksk_rest
  refine (wpAny_bind (wpAny_rule ?_))
  rw [List.forIn_toArray]
  refine (wpAny_bind (ksk_fold (fun i s' => ∃ (Hi : Hp) (kvs : List V), Inv X pins σ Hi s' ∧ Same H Hi ∧ Hi D = some (.ext φ) ∧ Hi kS = some (.lst kvs) ∧ kvs.length = i ∧ ∀ H3, Kp3 H Hi H3 → DpAll X.K H3 kvs ((ys.take i).map kd)) its 0 _ ⟨_, [], I5, sm5, by rw [upd_ne nDk]; exact upd_same, upd_same, rfl, fun _ _ => .nil⟩ (fun j x s' hx hI => ?turn) (fun s' hI => ?done)))
  case turn =>
    rw [Nat.zero_add] at hI ⊢
    obtain ⟨Hi, kvs, Ii, si, eDi, eKi, lk, dpi⟩ := hI
    have hj : j < ys.length := by
      rw [← lz]
      exact (List.getElem?_eq_some_iff.mp hx).1
    obtain ⟨u0, hu0, rel⟩ := Vals.get rv (List.getElem?_eq_getElem hj)
    obtain rfl : u0 = x := Option.some.inj (hu0.symm.trans hx)
    have hy : ys[j] ∈ ys := List.getElem_mem hj
    have hyj := List.getElem?_eq_getElem hj
    generalize ys[j] = y at rel hy hyj
    have spy := prom y hy Hi (fun u H2 => Same Hi H2 ∧ ∀ H3, Kp3 H H2 H3 → Dp X.K H3 u (kd y)) si fun u H2 g1 g2 => ⟨g1, g2⟩
    have called : wpAny (model X.prog X.w) X.A.in1.in1 (call (.ref f) [u0]) (fun u s2 => ∃ v H2, Inv X pins σ H2 s2 ∧ RelV v u ∧ Same Hi H2 ∧ ∀ H3, Kp3 H H2 H3 → Dp X.K H3 v (kd y)) (fun _ _ => False) s' := by
      refine wpAny_call (codeAny_mono (F.run X.A.in1.in1 X.stack s' Hi ⟨[u0], []⟩ [u0] [y] _ E0 ((hr.mono hk).in1.in1) Ii.env0.in1.in1 (bnd s' [u0] Ii.kIn (by rw [← F.len _ _ _ _ spy]; rfl)) (.cons rel .nil) spy) fun r s2 hq => ?_)
      match r, hq with
      | .error _, hq => exact False.elim hq
      | .ok .next, hq => exact False.elim hq
      | .ok .brk, hq => exact False.elim hq
      | .ok .cont, hq => exact False.elim hq
      | .ok (.ret u), hq =>
        obtain ⟨v, H2, J, rvv, g1, g2⟩ := Ii.after hq
        exact ⟨v, H2, J, rvv, g1, g2⟩
    refine wpAny_bind (wpAny_attempt (wpAny_mono called (fun u s2 hu => ?_) fun _ _ z => z.elim))
    obtain ⟨v, H2, J, rvv, g1, g2⟩ := hu
    have eK2 := g1 _ _ eKi
    obtain ⟨_, kits, n2, kr, ok2⟩ := J.hok kS _ eK2
    have lkk : kits.length = j := by rw [← kr.length]; exact lk
    obtain ⟨n3, ok3⟩ : ∃ n3, (s2.heap.update kS (Obj.mapSeq (·.push u))).get? kS = some (seqObj "list" (kits ++ [u]).toArray n3) := ⟨_, by
      rw [show (kits ++ [u]).toArray = kits.toArray.push u by simp]
      exact get?_update_seq ok2 (·.push u)⟩
    dsimp only
    refine (wpAny_bind (listUpdate_at ok2 rfl ?_ (by rw [List.size_toArray]; omega) (by rw [Array.size_push, List.size_toArray]; omega)))
    have J3 : Inv X pins σ (upd H2 kS (.lst (kvs ++ [v]))) { s2 with heap := s2.heap.update kS (Obj.mapSeq (·.push u)) } := J.write (e := kS) (t' := s2.toks) (by rw [eK2]; trivial) (.inl rfl) (fun c o nc e => by rw [Heap.get?_update_ne _ _ _ _ nc]; exact e) ⟨_, ok3⟩
      ⟨by rw [List.length_append, lk]; show j + 1 ≤ _; omega, kits ++ [u], n3, kr.append (.cons rvv .nil), ok3⟩
    refine wpAny_pure ⟨rfl, _, kvs ++ [v], J3, fun c o e => ?_, by rw [upd_ne nDk]; exact g1 _ _ eDi, upd_same, by rw [List.length_append, lk]; rfl, fun H3 kp3 => ?_⟩
    · rw [upd_ne (ne_of_none e nHk)]
      exact g1 _ _ (si _ _ e)
    · have k2 : Kp3 H H2 H3 := ⟨kp3.1, fun c o ho e => kp3.2 c o ho (by
        rw [upd_ne (fun z => ?_)]
        · exact e
        · subst z
          rw [eK2] at e
          cases e
          rcases ho with ⟨xs, z⟩ | ⟨q', u', z⟩ <;> cases z)⟩
      have ki : Kp3 H Hi H3 := ⟨kp3.1, fun c o ho e => k2.2 c o ho (g1 _ _ e)⟩
      rw [List.take_add_one, hyj, List.map_append]
      exact DpAll.snoc (dpi H3 ki) (g2 H3 k2)
  case done =>
    rw [Nat.zero_add] at hI
    obtain ⟨Hn, kvs, In, sn, eDn, eKn, lk, dpn⟩ := hI
    have dpn := dpn Hn ⟨sn, fun _ _ _ e => e⟩
    rw [lz, List.take_of_length_le (Nat.le_refl _)] at dpn
    obtain ⟨_, kits, n2, kr, okK⟩ := In.hok kS _ eKn
    obtain ⟨okD, _⟩ := In.hok D _ eDn
    have okD : s'.heap.get? D = some (seqObj "list" #[] ep) := okD
    have lkk : kits.length = its.length := by rw [← kr.length]; exact lk
    refine (wpAny_bind (listItems_at okK rfl ?_))
    have ez : (kits.toArray.zip its.toArray).toList = kits.zip its := by simp
    have lt2 : SrtO.Swo (fun p q : Keyed => ltD (kd (bk p.2)) (kd (bk q.2))) := ⟨fun x y h => O.asym _ _ h, fun x y z h g => O.tr _ _ _ h g⟩
    let P : Keyed → Prop := fun p => (∃ as, Reads s'.heap p.1 (kd (bk p.2)) as) ∧ bk p.2 ∈ ys ∧ RelV (bk p.2) p.2
    have hP : ∀ p ∈ kits.zip its, P p := fun p hp => by
      obtain ⟨i, hi⟩ := List.getElem?_of_mem hp
      rw [List.getElem?_zip_eq_some] at hi
      obtain ⟨i1, i2⟩ := hi
      have li : i < ys.length := by
        rw [← lz]
        exact (List.getElem?_eq_some_iff.mp i2).1
      obtain ⟨u0, hu0, rel⟩ := Vals.get rv (List.getElem?_eq_getElem li)
      obtain rfl : u0 = p.2 := Option.some.inj (hu0.symm.trans i2)
      obtain ⟨v0, hv0, dv⟩ := DpAll.get dpn (show (ys.map kd)[i]? = some (kd ys[i]) by rw [List.getElem?_map, List.getElem?_eq_getElem li]; rfl)
      obtain ⟨u1, hu1, rel1⟩ := Vals.get kr hv0
      obtain rfl : u1 = p.1 := Option.some.inj (hu1.symm.trans i1)
      have eb := bk_rel rel
      refine ⟨?_, by rw [eb]; exact List.getElem_mem li, by rw [eb]; exact rel⟩
      rw [eb]
      exact Dp.reads In _ _ _ dv rel1
    have emap : (kits.zip its).map (fun p => bk p.2) = ys := by
      have e1 : (kits.zip its).map (fun p => bk p.2) = its.map bk := by
        rw [show (fun p : Value × Value => bk p.2) = bk ∘ Prod.snd from rfl, ← List.map_map, List.map_snd_zip (by omega)]
      rw [e1]
      have : ∀ {ys : List V} {its : List Value}, Vals ys its → its.map bk = ys := by
        intro ys its h
        induction h with
        | nil => rfl
        | cons a _ ih => rw [List.map_cons, ih, bk_rel a]
      exact this rv
    have fin : ∀ st' : SortSt, SrtO.Srtd (fun p q : Keyed => ltD (kd (bk p.2)) (kd (bk q.2))) (arrOf st').toList → SrtO.Stb (fun p q : Keyed => ltD (kd (bk p.2)) (kd (bk q.2))) (arrOf st').toList (kits.zip its) → failedOf st' = none →
        wpAny (model X.prog X.w) X.A.in1.in1 (ksk_tail D false ep (.ref kS) st') (fun fin s' => ∃ v, fin = PySem.Fin.done (Flow.ret v) ∧ wpAny (model X.prog X.w) X.A.in1 (ret (Value.ref D)) (fun fin s' => ∃ v, fin = PySem.Fin.done (Flow.ret v) ∧ EP X pins σ Q v s') X.xe s') X.xe s' := fun st' a1 a2 a3 => by
      have lo : (arrOf st').toList.length = its.length := by
        rw [a2.len, List.length_zip, lkk, Nat.min_self]
      have lo2 : ((arrOf st').map (·.2)).size = its.length := by
        rw [Array.size_map, ← lo, Array.length_toList]
      obtain ⟨n4, ok4⟩ : ∃ n4, (s'.heap.update kS (Obj.mapSeq fun _ => (#[] : Array Value))).get? kS = some (seqObj "list" #[] n4) := ⟨_, get?_update_seq okK fun _ => #[]⟩
      have okD4 : (s'.heap.update kS (Obj.mapSeq fun _ => (#[] : Array Value))).get? D = some (seqObj "list" #[] ep) := by
        rw [Heap.get?_update_ne _ _ _ _ nDk]
        exact okD
      have J1 : Inv X pins σ (upd Hn kS (.lst [])) { s' with heap := s'.heap.update kS (Obj.mapSeq fun _ => (#[] : Array Value)) } := In.write (e := kS) (t' := s'.toks) (by rw [eKn]; trivial) (.inl rfl) (fun c o nc e => by rw [Heap.get?_update_ne _ _ _ _ nc]; exact e) ⟨_, ok4⟩ ⟨Nat.zero_le _, [], n4, .nil, ok4⟩
      obtain ⟨n5, ok5⟩ : ∃ n5, ((s'.heap.update kS (Obj.mapSeq fun _ => (#[] : Array Value))).update D (Obj.mapSeq fun _ => (arrOf st').map (·.2))).get? D = some (seqObj "list" ((arrOf st').map (·.2)) n5) := ⟨_, get?_update_seq okD4 fun _ => (arrOf st').map (·.2)⟩
      have vv : Vals ((arrOf st').toList.map fun p => bk p.2) ((arrOf st').map (·.2)).toList := by
        rw [Array.toList_map]
        have hall : ∀ p ∈ (arrOf st').toList, RelV (bk p.2) p.2 := fun p hp => (hP p (a2.perm.mem_iff.mp hp)).2.2
        generalize (arrOf st').toList = l at hall
        induction l with
        | nil => exact .nil
        | cons p l ih => exact .cons (hall p List.mem_cons_self) (ih fun x hx => hall x (List.mem_cons_of_mem _ hx))
      have eD1 : (upd Hn kS (.lst [])) D = some (.ext φ) := by
        rw [upd_ne nDk]
        exact eDn
      have J2 : Inv X pins σ (upd (upd Hn kS (.lst [])) D (.lst ((arrOf st').toList.map fun p => bk p.2))) { s' with heap := (s'.heap.update kS (Obj.mapSeq fun _ => (#[] : Array Value))).update D (Obj.mapSeq fun _ => (arrOf st').map (·.2)) } := J1.write (e := D) (t' := s'.toks) (by rw [eD1]; trivial) (.inl rfl) (fun c o nc e => by
        show ((s'.heap.update kS (Obj.mapSeq fun _ => (#[] : Array Value))).update D _).get? c = _
        rw [Heap.get?_update_ne _ _ _ _ nc]
        exact e) ⟨_, ok5⟩ ⟨by rw [List.length_map, lo, lz]; exact hz, _, n5, vv, by rw [Array.toArray_toList]; exact ok5⟩
      unfold ksk_tail
      dsimp only
      refine (wpAny_bind (listUpdate_at okK rfl ?_ (by rw [List.size_toArray, lkk, lz]; exact hz) (Nat.zero_le _)))
      refine (wpAny_bind (wpAny_letGo ?_))
      refine (wpAny_bind (seqEpoch_at okD4 rfl ?_))
      refine (wpAny_bind (listUpdate_at okD4 rfl ?_ (Nat.zero_le _) (by
        rw [if_neg Bool.false_ne_true, lo2, lz]
        omega)))
      rw [a3]
      simp only [bne_self_eq_false, Bool.false_eq_true, if_false]
      refine wpAny_pure ⟨_, rfl, wpAny_pure ⟨_, rfl, .ref D, _, J2, rfl, ?_⟩⟩
      refine q _ _ D (fun c o e => ?_) nD (SrtO.srtd_map a1) (by rw [← emap]; exact SrtO.Stb.map O (fun p : Keyed => bk p.2) a2) upd_same
      rw [upd_ne (ne_of_none e nD), upd_ne (ne_of_none e nHk)]
      exact sn _ _ e
    unfold ksk_end
    dsimp only
    rw [if_neg Bool.false_ne_true]
    by_cases h2 : its.toArray.size < 2
    · rw [if_pos h2, if_pos h2]
      refine (wpAny_bind (wpAny_pure ?_))
      rw [StateT.run_pure]
      refine (wpAny_bind (wpAny_pure ?_))
      refine fin (SortSt.mk' general' (kits.toArray.zip its.toArray) #[] 7 none) ?_ ?_ rfl
      · show SrtO.Srtd _ (kits.toArray.zip its.toArray).toList
        rw [ez]
        have l2 : (kits.zip its).length < 2 := by
          rw [List.length_zip]
          rw [List.size_toArray] at h2
          omega
        match kits.zip its, l2 with
        | [], _ => exact List.Pairwise.nil
        | [x], _ => exact List.pairwise_singleton _ _
        | _ :: _ :: _, l2 => simp only [List.length_cons] at l2; omega
      · show SrtO.Stb _ (kits.toArray.zip its.toArray).toList _
        rw [ez]
        exact SrtO.Stb.refl _
    · rw [if_neg h2, if_neg h2]
      rw [List.size_toArray] at h2
      refine (wpAny_bind (key_kind (b := b) (by omega) (fun u hu => ?_) ?_))
      · obtain ⟨i, hi⟩ := List.getElem?_of_mem hu
        have li : i < kits.length := (List.getElem?_eq_some_iff.mp hi).1
        have hp := hP (kits[i], its[i]) (by
          refine List.mem_of_getElem? (i := i) ?_
          rw [List.getElem?_zip_eq_some]
          exact ⟨List.getElem?_eq_getElem li, List.getElem?_eq_getElem _⟩)
        obtain ⟨⟨as, g1⟩, g2, _⟩ := hp
        rw [List.getElem?_eq_getElem li] at hi
        cases hi
        exact ⟨_, as, g1, kok _ g2⟩
      · refine (wpAny_bind (wpAny_mono (SrtO.wpS_sortO (P := P) (st0 := SortSt.mk' (tuples' b) (kits.toArray.zip its.toArray) #[] 7 none) (lt := fun p q : Keyed => ltD (kd (bk p.2)) (kd (bk q.2)))
          (Q := fun _ st' => SrtO.Srtd (fun p q : Keyed => ltD (kd (bk p.2)) (kd (bk q.2))) (arrOf st').toList ∧ SrtO.Stb (fun p q : Keyed => ltD (kd (bk p.2)) (kd (bk q.2))) (arrOf st').toList (kits.zip its) ∧ failedOf st' = none) lt2 (fun p q hp hq => ?_) rfl (fun p hp => hP p (by rw [← ez]; exact hp)) rfl rfl fun st' g1 g2 g3 => ⟨g1, by rw [← ez]; exact g2, g3⟩) ?_ fun _ _ e => e))
        · obtain ⟨⟨as, g1⟩, g2, _⟩ := hp
          obtain ⟨⟨bs, g3⟩, g4, _⟩ := hq
          exact key_lt (kok _ g2) (kok _ g4) g1 g3 (cmp _ g2 _ g4) (by show X.A.units + 1 + 1 + 64 < _; omega)
        · rintro ⟨⟨⟩, st'⟩ s2 ⟨rfl, g1, g2, g3⟩
          exact fin st' g1 g2 g3
end

/-! ### min(xs, key=f, default=d), max likewise: keys that are data, any number of them -/
/-- what the best of the items seen so far holds -/
def bestV (bt : V → V → Bool) (xs : List V) (y : V) : Prop := y ∈ xs ∧ ∀ z ∈ xs, bt z y = false
def rMmF (P : Program) (w : World) (K : PySem.W.Frag) (mg : Str → Option Value) (base : Heap) (k : Nat) (gt : Bool) : List V → List V → Hp → VK → Prop := fun vs zs H Q => ∃ (a f : Addr) (sp : Sp) (ys : List V) (kd : V → PyData) (bt : V → V → Bool) (df : V), vs = [.ref a] ∧ zs = [.ref f, df] ∧ SqL K H a ys ∧ Hd P w K mg base k f sp ∧
  (∀ y ∈ ys, ∀ (H1 : Hp) (R : VK), Same H H1 → (∀ u H2, Same H1 H2 → (∀ H3, Kp3 H H2 H3 → Dp K H3 u (kd y)) → R u H2) → sp [y] H1 R E0) ∧ (∀ y ∈ ys, SeqAt.shaped (kd y) = true) ∧ (∀ y ∈ ys, ∀ z ∈ ys, okD (kd y) (kd z) = true) ∧
  (∀ y z, bt y z = if gt = true then gtD (kd y) (kd z) else ltD (kd y) (kd z)) ∧ SrtO.Swo bt ∧
  ∀ H', Same H H' → (ys = [] → Q df H') ∧ (∀ y, bestV bt ys y → Q y H')
def stA (st : Option (V × Value × V × Value)) : Array Value := match st with
  | none => #[]
  | some (_, v, _, u) => #[v, u]
theorem SqL.same {K : PySem.W.Frag} {H H' : Hp} {a : Addr} {xs : List V} (e : Same H H') (h : SqL K H a xs) : SqL K H' a xs := by
  rcases h with (h | ⟨o, h⟩) | h
  · exact .inl (.inl (e _ _ h))
  · exact .inl (.inr ⟨o, e _ _ h⟩)
  · exact .inr h
section
open PySem.SeqAt PySem.W
theorem min_loopF {X : Cx} {k j : Nat} (hr : Room j X.A) (hk : k + 2 ≤ j) (hu : X.A.units + 70 < cLine) (hc : X.calm = true) {pins : List (Addr × Obj)} {σ : L2.St} {H : Hp} {Q : VK} {a f : Addr} {sp : Sp} {ys : List V} {kd : V → PyData} {bt : V → V → Bool} {df : V} {dv : Value} {E : Value → Shared → Prop}
    (HD : Hd X.prog X.w X.K X.mg X.base k f sp) (prom : ∀ y ∈ ys, ∀ (H1 : Hp) (R : VK), Same H H1 → (∀ u H2, Same H1 H2 → (∀ H3, Kp3 H H2 H3 → Dp X.K H3 u (kd y)) → R u H2) → sp [y] H1 R E0)
    (shp : ∀ y ∈ ys, SeqAt.shaped (kd y) = true) (cmp : ∀ y ∈ ys, ∀ z ∈ ys, okD (kd y) (kd z) = true) (hbt : ∀ y z, bt y z = ltD (kd y) (kd z)) (O : SrtO.Swo bt) (sq : SqL X.K H a ys) (rd : RelV df dv)
    (q : ∀ H', Same H H' → (ys = [] → Q df H') ∧ (∀ y, bestV bt ys y → Q y H')) {I S : Addr} (fp0 : FpOk X pins H I) (nS : H S = none) (nIS : I ≠ S) (naI : a ≠ I) (naS : a ≠ S) :
    ∀ (r i : Nat), i + r = ys.length → ∀ (s : Shared) (Hi : Hp) (c : Nat) (st : Option (V × Value × V × Value)), Inv X pins σ Hi s → Same H Hi → Hi I = none → s.heap.IsListIter I a i →
      Hi S = some (.ext fun h => h.get? S = some (seqObj "list" (stA st) c)) →
      (match st with | none => i = 0 | some (y, v, x, u) => RelV y v ∧ RelV x u ∧ y ∈ ys ∧ bestV bt (ys.take i) y ∧ ∀ H3, Kp3 H Hi H3 → Dp X.K H3 x (kd y)) →
      codeAny (model X.prog X.w) X.A (.builtin "min.loop" ⟨[.ref I, .ref f, .ref S], [(Str.ofString "default", dv)]⟩) (fun r s' => match r with | .ok (.ret v) => EP X pins σ Q v s' | .ok _ => False | .error e => E e s') s := by
  obtain ⟨fd, ps, F, kp, bnd⟩ := HD.ex
  have hname : (toString "min" ++ toString ".loop" : String) = "min.loop" := by decide
  intro r
  induction r with
  | zero =>
    intro i hi s Hi c st Ii si nIi hit eS hst
    obtain ⟨oS, _⟩ := Ii.hok S _ eS
    have oS : s.heap.get? S = some (seqObj "list" (stA st) c) := oS
    obtain ⟨its, rv, pl, hz⟩ := Ii.list (SqL.same si sq)
    have lz : its.length = ys.length := rv.length.symm
    have W := Walks.list (prog := X.prog) (w := X.w) (A := X.A.in1) (Ii.ok.hd hc) I a naI its.toArray
    refine codeAny_builtin PySem.F.entry_min_loop ?_
    rw [Around.under_plainId PySem.F.plain_min_loop _]
    show wpAny _ X.A.in1 (seqItems? (.ref S) >>= _) _ _ s
    refine (wpAny_bind (wpAny_seqItems oS rfl ?_))
    show wpAny _ X.A.in1 (tryCatch (pyNext (.ref I)) _ >>= _) _ _ s
    refine (wpAny_bind (wpAny_tryCatch (W.done s _ _ ⟨by rw [List.size_toArray, lz, ← hi, Nat.add_zero]; exact hit, pl.isList⟩ fun h' tk hk2 => ?_)))
    have I2 : Inv X pins σ Hi { s with heap := h', toks := tk } := Ii.turned (it := I) (t' := tk) (fun b o hb e => hk2 b o (fun z => hb (List.mem_singleton.mp z)) e) nIi fp0.2.1 fp0.2.2.2.1 fp0.2.2.2.2.1 fp0.2.2.2.2.2
    have oS2 := hk2 S _ (fun z => nIS (List.mem_singleton.mp z).symm) oS
    cases st with
    | none =>
      refine (wpAny_bind (wpAny_rule ?_))
      refine wpAny_pure ?_
      have e0 : ys = [] := by
        subst hst
        exact List.eq_nil_of_length_eq_zero (by omega)
      exact ⟨df, _, I2, rd, (q _ si).1 e0⟩
    | some t =>
      obtain ⟨y, v, x, u⟩ := t
      obtain ⟨ryv, rxu, hy, hb, _⟩ := hst
      have oS2 : h'.get? S = some (seqObj "list" #[v, u] c) := oS2
      show wpAny _ X.A.in1 (updateSeq S (fun _ => #[]) >>= _) _ _ _
      refine (wpAny_bind (wpAny_updateSeq oS2 rfl (wpAny_bind (wpAny_letGo (wpAny_pure ?_)))))
      have hb : bestV bt ys y := by
        have hb := hb
        rw [List.take_of_length_le (by omega)] at hb
        exact hb
      have I3 := I2.write (x := S) (e := S) (o := .ext fun h => ∃ o, h.get? S = some o) (h' := h'.update S (Obj.mapSeq fun _ => (#[] : Array Value))) (t' := tk) (by rw [eS]; trivial) (.inl rfl) (fun b o nb e => by rw [Heap.get?_update_ne _ _ _ _ nb]; exact e) ⟨_, get?_update_seq oS2 fun _ => #[]⟩ ⟨⟨_, get?_update_seq oS2 fun _ => #[]⟩, ⟨_, get?_update_seq oS2 fun _ => #[]⟩, fun h1 h2 z g => by obtain ⟨o, z⟩ := z; exact ⟨o, g _ z⟩⟩
      exact ⟨y, _, I3, ryv, (q _ (fun b o e => by rw [upd_ne (ne_of_none e nS)]; exact si _ _ e)).2 y hb⟩
  | succ r ih =>
    intro i hi s Hi c st Ii si nIi hit eS hst
    have lti : i < ys.length := by omega
    obtain ⟨oS, _⟩ := Ii.hok S _ eS
    have oS : s.heap.get? S = some (seqObj "list" (stA st) c) := oS
    obtain ⟨its, rv, pl, hz⟩ := Ii.list (SqL.same si sq)
    have lz : its.length = ys.length := rv.length.symm
    have W := Walks.list (prog := X.prog) (w := X.w) (A := X.A.in1) (Ii.ok.hd hc) I a naI its.toArray
    refine codeAny_builtin PySem.F.entry_min_loop ?_
    rw [Around.under_plainId PySem.F.plain_min_loop _]
    show wpAny _ X.A.in1 (seqItems? (.ref S) >>= _) _ _ s
    refine (wpAny_bind (wpAny_seqItems oS rfl ?_))
    show wpAny _ X.A.in1 (tryCatch (pyNext (.ref I)) _ >>= _) _ _ s
    refine (wpAny_bind (wpAny_tryCatch (W.item i s _ _ (by rw [List.size_toArray, lz]; exact lti) ⟨hit, pl.isList⟩ fun v h' tk hx hst2 hk2 => ?_)))
    obtain ⟨hit2, _⟩ := hst2
    have hx : its[i]? = some v := by simpa using hx
    obtain ⟨v0, hv0, rel⟩ := Vals.get rv (List.getElem?_eq_getElem lti)
    obtain rfl : v0 = v := Option.some.inj (hv0.symm.trans hx)
    have hy : ys[i] ∈ ys := List.getElem_mem lti
    have hyi := List.getElem?_eq_getElem lti
    generalize ys[i] = y at rel hy hyi
    have I2 : Inv X pins σ Hi { s with heap := h', toks := tk } := Ii.turned (it := I) (t' := tk) (fun b o hb e => hk2 b o (fun z => hb (List.mem_singleton.mp z)) e) nIi fp0.2.1 fp0.2.2.2.1 fp0.2.2.2.2.1 fp0.2.2.2.2.2
    obtain ⟨oi, hoi, coi, doi⟩ := id hit2
    have Ip := I2.pinned (fp := [I]) (fun b hb => by rw [List.mem_singleton.mp hb]; exact ⟨nIi, fp0.2⟩) (fun b hb => by rw [List.mem_singleton.mp hb]; exact ⟨oi, hoi, fun v z => by rw [doi] at z; cases z⟩)
    have spy := prom y hy Hi (fun u H4 => Same Hi H4 ∧ ∀ H3, Kp3 H H4 H3 → Dp X.K H3 u (kd y)) si fun u H4 g1 g2 => ⟨g1, g2⟩
    have called : wpAny (model X.prog X.w) X.A.in1 (call (.ref f) [v0]) (fun u s2 => ∃ x H4, Inv X pins σ H4 s2 ∧ H4 I = none ∧ s2.heap.IsListIter I a (i + 1) ∧ RelV x u ∧ Same Hi H4 ∧ ∀ H3, Kp3 H H4 H3 → Dp X.K H3 x (kd y)) (fun _ _ => False) { s with heap := h', toks := tk } := by
      refine wpAny_call (codeAny_mono (F.run X.A.in1 X.stack _ Hi ⟨[v0], []⟩ [v0] [y] _ E0 ((hr.mono (Nat.le_of_succ_le hk)).in1) Ip.env0.in1 (bnd _ [v0] Ip.kIn (by rw [← F.len _ _ _ _ spy]; rfl)) (.cons rel .nil) spy) fun r s2 hq => ?_)
      match r, hq with
      | .error _, hq => exact False.elim hq
      | .ok .next, hq => exact False.elim hq
      | .ok .brk, hq => exact False.elim hq
      | .ok .cont, hq => exact False.elim hq
      | .ok (.ret u), hq =>
        obtain ⟨x, H4, J, rxv, g1, g2⟩ := Ip.after hq
        have pp := J.pin (I, oi) (List.mem_append_right _ (List.mem_append_right _ (mem_pinsAt (List.mem_singleton.mpr rfl) hoi)))
        exact ⟨x, H4, (J.unpinned (pins := [])).pins_of (fun p hp => J.pin p (List.mem_append_right _ (List.mem_append_left _ hp))), pp.2.1, ⟨oi, pp.1, coi, doi⟩, rxv, g1, g2⟩
    show wpAny _ X.A.in1 (tryCatch (holding [v0] (call (.ref f) [v0])) _ >>= _) _ _ _
    refine (wpAny_bind (wpAny_tryCatch (wpAny_holding (wpAny_mono called (fun u s2 hu2 => ?_) fun _ _ z => z.elim))))
    obtain ⟨x, H4, J, nI4, hit4, rxu, g1, g2⟩ := hu2
    have eS4 := g1 _ _ eS
    have si4 : Same H H4 := si.trans g1
    obtain ⟨oS4, _⟩ := J.hok S _ eS4
    have oS4 : s2.heap.get? S = some (seqObj "list" (stA st) c) := oS4
    have kp4 : ∀ H3, Kp3 H H4 H3 → Kp3 H Hi H3 := fun H3 z => ⟨z.1, fun b o ho e => z.2 b o ho (g1 _ _ e)⟩
    -- the best so far is written down
    have wr : ∀ {c' : Nat} (o' : s2.heap.update S (Obj.mapSeq fun _ => #[v0, u]) = s2.heap.update S (Obj.mapSeq fun _ => #[v0, u])), (s2.heap.update S (Obj.mapSeq fun _ => #[v0, u])).get? S = some (seqObj "list" #[v0, u] c') → bestV bt (ys.take (i + 1)) y →
        codeAny (model X.prog X.w) X.A (.builtin "min.loop" ⟨[.ref I, .ref f, .ref S], [(Str.ofString "default", dv)]⟩) (fun r s' => match r with | .ok (.ret v) => EP X pins σ Q v s' | .ok _ => False | .error e => E e s') { s2 with heap := s2.heap.update S (Obj.mapSeq fun _ => #[v0, u]) } := fun {c'} _ e hb => by
      have J2 := J.write (x := S) (e := S) (o := .ext fun h => h.get? S = some (seqObj "list" #[v0, u] c')) (t' := s2.toks) (by rw [eS4]; trivial) (.inl rfl) (fun b o nb z => by rw [Heap.get?_update_ne _ _ _ _ nb]; exact z) ⟨_, e⟩ ⟨e, ⟨_, e⟩, fun h1 h2 z g => g _ z⟩
      refine ih (i + 1) (by omega) _ _ c' (some (y, v0, x, u)) J2 (fun b o z => ?_) ?_ ?_ upd_same ⟨rel, rxu, hy, hb, fun H3 z => g2 H3 ⟨z.1, fun b o ho e9 => z.2 b o ho ?_⟩⟩
      · rw [upd_ne (ne_of_none z nS)]
        exact si4 _ _ z
      · rw [upd_ne nIS]
        exact nI4
      · exact hit4.at fun o e => by rw [Heap.get?_update_ne _ _ _ _ nIS]; exact e
      · rw [upd_ne (fun z => ?_)]
        · exact e9
        · subst z
          rw [eS4] at e9
          cases e9
          rcases ho with ⟨xs, z⟩ | ⟨q', u', z⟩ <;> cases z
    have tk1 : ys.take (i + 1) = ys.take i ++ [y] := by rw [List.take_add_one, hyi]; rfl
    cases st with
    | none =>
      have i0 : i = 0 := hst
      have oS4 : s2.heap.get? S = some (seqObj "list" #[] c) := oS4
      subst i0
      show wpAny _ X.A.in1 (updateSeq S (fun _ => #[v0, u]) >>= _) _ _ _
      refine (wpAny_bind (wpAny_updateSeq oS4 rfl ?_))
      rw [hname]
      refine wpAny_pure ⟨plainId_quiet PySem.F.plain_min_loop _, wr rfl (get?_update_seq oS4 fun _ => #[v0, u]) ?_⟩
      rw [tk1]
      refine ⟨List.mem_singleton.mpr rfl, fun z hz => ?_⟩
      rw [List.mem_singleton.mp hz]
      exact O.refl _
    | some t =>
      obtain ⟨y', v', x', u'⟩ := t
      obtain ⟨ryv, rxu', hy', hb, dp'⟩ := hst
      have oS4 : s2.heap.get? S = some (seqObj "list" #[v', u'] c) := oS4
      obtain ⟨as, r1⟩ := Dp.reads J _ _ _ (g2 H4 ⟨si4, fun _ _ _ e => e⟩) rxu
      obtain ⟨bs, r2⟩ := Dp.reads J _ _ _ (dp' H4 (kp4 H4 ⟨si4, fun _ _ _ e => e⟩)) rxu'
      have go := rcLt_D (kd y) (kd y') X.A.in1 s2 u u' as bs r1 r2 (SeqAt.canLay_of_shaped (shp _ hy)) (SeqAt.canLay_of_shaped (shp _ hy')) (cmp _ hy _ hy') (SeqAt.room_of_shaped (shp _ hy) (by show X.A.units + 1 + 64 < _; omega))
      show wpAny _ X.A.in1 (tryCatch (holding [v0, u] (richCompare .Lt u u' >>= _)) _ >>= _) _ _ _
      refine (wpAny_bind (wpAny_tryCatch (wpAny_holding (wpAny_bind (go X.prog X.w _ _ ?_)))))
      refine (wpAny_bind (wpAny_holding (wpAny_truthy_bool ?_)))
      refine (wpAny_bind (wpAny_letGo (wpAny_pure ?_)))
      rw [← hbt]
      cases hb' : bt y y' with
      | true =>
        simp only [if_true]
        refine (wpAny_bind (wpAny_updateSeq oS4 rfl (wpAny_bind (wpAny_letGo ?_))))
        rw [hname]
        refine wpAny_pure ⟨plainId_quiet PySem.F.plain_min_loop _, wr rfl (get?_update_seq oS4 fun _ => #[v0, u]) ?_⟩
        rw [tk1]
        refine ⟨List.mem_append_right _ (List.mem_singleton.mpr rfl), fun z hz => ?_⟩
        rcases List.mem_append.mp hz with hz | hz
        · exact O.tr _ _ _ (O.asym _ _ hb') (hb.2 z hz)
        · rw [List.mem_singleton.mp hz]
          exact O.refl _
      | false =>
        simp only [Bool.false_eq_true, if_false]
        refine (wpAny_bind (wpAny_letGo ?_))
        rw [hname]
        refine wpAny_pure ⟨plainId_quiet PySem.F.plain_min_loop _, ih (i + 1) (by omega) _ _ c (some (y', v', x', u')) J si4 nI4 hit4 eS4 ⟨ryv, rxu', hy', ?_, fun H3 z => dp' H3 (kp4 H3 z)⟩⟩
        rw [tk1]
        refine ⟨List.mem_append_left _ hb.1, fun z hz => ?_⟩
        rcases List.mem_append.mp hz with hz | hz
        · exact hb.2 z hz
        · rw [List.mem_singleton.mp hz]
          exact hb'
theorem cr_minF {X : Cx} {k j : Nat} (hr : Room j X.A) (hk : k + 2 ≤ j) (hu : X.A.units + 70 < cLine) (hc : X.calm = true) : CallRK X (.builtin "min") [Str.ofString "key", Str.ofString "default"] (rMmF X.prog X.w X.K X.mg X.base k false) := by
  intro pins s σ H vs zs us ws Q I r rz ask
  obtain ⟨a, f, sp, ys, kd, bt, df, rfl, rfl, hs, HD, prom, shp, cmp, hbt, O, q⟩ := ask
  obtain rfl := Vals.ref1 r
  cases rz with
  | cons e1 rz =>
    cases rz with
    | @cons _ dv _ _ e2 rz =>
      cases rz
      obtain rfl : _ = Value.ref f := e1
      obtain ⟨its, rv, pl, hz⟩ := I.list hs
      have lt : a < s.heap.objs.size := by obtain ⟨o, ho, _⟩ := pl.isList; exact Heap.lt_size ho
      refine kmk_tree PySem.F.kind_min PySem.F.plain_min PySem.F.entry_min (args_min_key_default _ _ _) ?_
      show wpAny _ X.A.in1 (Builtin.Builtins.bindParams "min" ["key", "default"] 0 ⟨[], [(Str.ofString "key", .ref f), (Str.ofString "default", dv)]⟩ >>= _) _ _ s
      refine (wpAny_bind (wpAny_of_eq (show Builtin.Builtins.bindParams "min" ["key", "default"] 0 ⟨[], [(Str.ofString "key", .ref f), (Str.ofString "default", dv)]⟩ = pure [some (.ref f), some dv] from rfl) ?_))
      refine (wpAny_bind (wpAny_pure ?_))
      refine (wpAny_bind (wpAny_pyIter_list pl.isList ?_))
      refine (wpAny_bind (wpAny_newList ?_ (Nat.zero_le _)))
      show wpAny _ X.A.in1 (pure _) _ _ _
      refine wpAny_pure ⟨plainId_quiet PySem.F.plain_min_loop _, ?_⟩
      have gI : (s.heap.push { cls := .type "list_iterator", data := .fields #[.ref a, .int 0 0] }).get? s.heap.objs.size = some { cls := .type "list_iterator", data := .fields #[.ref a, .int 0 0] } := Heap.get?_push_size _ rfl
      have nI : H s.heap.objs.size = none := I.hok.fresh (Nat.le_refl _)
      have fp0 : FpOk X pins H s.heap.objs.size := I.fpOk (Nat.le_refl _) nI
      have I1 : Inv X pins σ H { s with heap := s.heap.push { cls := .type "list_iterator", data := .fields #[.ref a, .int 0 0] } } := I.kept (t' := s.toks) push_keep
      have sz := size_push' s.heap { cls := .type "list_iterator", data := .fields #[.ref a, .int 0 0] }
      have nS0 : H (s.heap.push { cls := .type "list_iterator", data := .fields #[.ref a, .int 0 0] }).objs.size = none := I1.hok.fresh (Nat.le_refl _)
      have nIS : s.heap.objs.size ≠ (s.heap.push { cls := .type "list_iterator", data := .fields #[.ref a, .int 0 0] }).objs.size := by rw [sz]; exact Nat.ne_of_lt (Nat.lt_succ_self _)
      have I2 := I1.laid (o := .ext fun h => h.get? (s.heap.push { cls := .type "list_iterator", data := .fields #[.ref a, .int 0 0] }).objs.size = some (seqObj "list" (stA none) 0)) (h' := (s.heap.push { cls := .type "list_iterator", data := .fields #[.ref a, .int 0 0] }).push (seqObj "list" #[] 0)) (t' := s.toks) push_keep (Nat.le_refl _) ⟨Heap.get?_push_size _ rfl, ⟨_, Heap.get?_push_size _ rfl⟩, fun h1 h2 z g => g _ z⟩
      have naS : a ≠ (s.heap.push { cls := .type "list_iterator", data := .fields #[.ref a, .int 0 0] }).objs.size := by rw [sz]; exact Nat.ne_of_lt (Nat.lt_succ_of_lt lt)
      have naI : a ≠ s.heap.objs.size := Nat.ne_of_lt lt
      refine min_loopF hr hk hu hc HD prom shp cmp (fun y z => hbt y z) O hs e2 q fp0 nS0 nIS naI naS ys.length 0 (Nat.zero_add _) _ _ 0 none I2 (fun b o e => ?_) ?_ ?_ upd_same rfl
      · rw [upd_ne (ne_of_none e nS0)]
        exact e
      · rw [upd_ne nIS]
        exact nI
      · exact ⟨_, push_keep _ _ gI, rfl, rfl⟩
end
section
open PySem.SeqAt PySem.W
theorem max_loopF {X : Cx} {k j : Nat} (hr : Room j X.A) (hk : k + 2 ≤ j) (hu : X.A.units + 70 < cLine) (hc : X.calm = true) {pins : List (Addr × Obj)} {σ : L2.St} {H : Hp} {Q : VK} {a f : Addr} {sp : Sp} {ys : List V} {kd : V → PyData} {bt : V → V → Bool} {df : V} {dv : Value} {E : Value → Shared → Prop}
    (HD : Hd X.prog X.w X.K X.mg X.base k f sp) (prom : ∀ y ∈ ys, ∀ (H1 : Hp) (R : VK), Same H H1 → (∀ u H2, Same H1 H2 → (∀ H3, Kp3 H H2 H3 → Dp X.K H3 u (kd y)) → R u H2) → sp [y] H1 R E0)
    (shp : ∀ y ∈ ys, SeqAt.shaped (kd y) = true) (cmp : ∀ y ∈ ys, ∀ z ∈ ys, okD (kd y) (kd z) = true) (hbt : ∀ y z, bt y z = gtD (kd y) (kd z)) (O : SrtO.Swo bt) (sq : SqL X.K H a ys) (rd : RelV df dv)
    (q : ∀ H', Same H H' → (ys = [] → Q df H') ∧ (∀ y, bestV bt ys y → Q y H')) {I S : Addr} (fp0 : FpOk X pins H I) (nS : H S = none) (nIS : I ≠ S) (naI : a ≠ I) (naS : a ≠ S) :
    ∀ (r i : Nat), i + r = ys.length → ∀ (s : Shared) (Hi : Hp) (c : Nat) (st : Option (V × Value × V × Value)), Inv X pins σ Hi s → Same H Hi → Hi I = none → s.heap.IsListIter I a i →
      Hi S = some (.ext fun h => h.get? S = some (seqObj "list" (stA st) c)) →
      (match st with | none => i = 0 | some (y, v, x, u) => RelV y v ∧ RelV x u ∧ y ∈ ys ∧ bestV bt (ys.take i) y ∧ ∀ H3, Kp3 H Hi H3 → Dp X.K H3 x (kd y)) →
      codeAny (model X.prog X.w) X.A (.builtin "max.loop" ⟨[.ref I, .ref f, .ref S], [(Str.ofString "default", dv)]⟩) (fun r s' => match r with | .ok (.ret v) => EP X pins σ Q v s' | .ok _ => False | .error e => E e s') s := by
  obtain ⟨fd, ps, F, kp, bnd⟩ := HD.ex
  have hname : (toString "max" ++ toString ".loop" : String) = "max.loop" := by decide
  intro r
  induction r with
  | zero =>
    intro i hi s Hi c st Ii si nIi hit eS hst
    obtain ⟨oS, _⟩ := Ii.hok S _ eS
    have oS : s.heap.get? S = some (seqObj "list" (stA st) c) := oS
    obtain ⟨its, rv, pl, hz⟩ := Ii.list (SqL.same si sq)
    have lz : its.length = ys.length := rv.length.symm
    have W := Walks.list (prog := X.prog) (w := X.w) (A := X.A.in1) (Ii.ok.hd hc) I a naI its.toArray
    refine codeAny_builtin PySem.F.entry_max_loop ?_
    rw [Around.under_plainId PySem.F.plain_max_loop _]
    show wpAny _ X.A.in1 (seqItems? (.ref S) >>= _) _ _ s
    refine (wpAny_bind (wpAny_seqItems oS rfl ?_))
    show wpAny _ X.A.in1 (tryCatch (pyNext (.ref I)) _ >>= _) _ _ s
    refine (wpAny_bind (wpAny_tryCatch (W.done s _ _ ⟨by rw [List.size_toArray, lz, ← hi, Nat.add_zero]; exact hit, pl.isList⟩ fun h' tk hk2 => ?_)))
    have I2 : Inv X pins σ Hi { s with heap := h', toks := tk } := Ii.turned (it := I) (t' := tk) (fun b o hb e => hk2 b o (fun z => hb (List.mem_singleton.mp z)) e) nIi fp0.2.1 fp0.2.2.2.1 fp0.2.2.2.2.1 fp0.2.2.2.2.2
    have oS2 := hk2 S _ (fun z => nIS (List.mem_singleton.mp z).symm) oS
    cases st with
    | none =>
      refine (wpAny_bind (wpAny_rule ?_))
      refine wpAny_pure ?_
      have e0 : ys = [] := by
        subst hst
        exact List.eq_nil_of_length_eq_zero (by omega)
      exact ⟨df, _, I2, rd, (q _ si).1 e0⟩
    | some t =>
      obtain ⟨y, v, x, u⟩ := t
      obtain ⟨ryv, rxu, hy, hb, _⟩ := hst
      have oS2 : h'.get? S = some (seqObj "list" #[v, u] c) := oS2
      show wpAny _ X.A.in1 (updateSeq S (fun _ => #[]) >>= _) _ _ _
      refine (wpAny_bind (wpAny_updateSeq oS2 rfl (wpAny_bind (wpAny_letGo (wpAny_pure ?_)))))
      have hb : bestV bt ys y := by
        have hb := hb
        rw [List.take_of_length_le (by omega)] at hb
        exact hb
      have I3 := I2.write (x := S) (e := S) (o := .ext fun h => ∃ o, h.get? S = some o) (h' := h'.update S (Obj.mapSeq fun _ => (#[] : Array Value))) (t' := tk) (by rw [eS]; trivial) (.inl rfl) (fun b o nb e => by rw [Heap.get?_update_ne _ _ _ _ nb]; exact e) ⟨_, get?_update_seq oS2 fun _ => #[]⟩ ⟨⟨_, get?_update_seq oS2 fun _ => #[]⟩, ⟨_, get?_update_seq oS2 fun _ => #[]⟩, fun h1 h2 z g => by obtain ⟨o, z⟩ := z; exact ⟨o, g _ z⟩⟩
      exact ⟨y, _, I3, ryv, (q _ (fun b o e => by rw [upd_ne (ne_of_none e nS)]; exact si _ _ e)).2 y hb⟩
  | succ r ih =>
    intro i hi s Hi c st Ii si nIi hit eS hst
    have lti : i < ys.length := by omega
    obtain ⟨oS, _⟩ := Ii.hok S _ eS
    have oS : s.heap.get? S = some (seqObj "list" (stA st) c) := oS
    obtain ⟨its, rv, pl, hz⟩ := Ii.list (SqL.same si sq)
    have lz : its.length = ys.length := rv.length.symm
    have W := Walks.list (prog := X.prog) (w := X.w) (A := X.A.in1) (Ii.ok.hd hc) I a naI its.toArray
    refine codeAny_builtin PySem.F.entry_max_loop ?_
    rw [Around.under_plainId PySem.F.plain_max_loop _]
    show wpAny _ X.A.in1 (seqItems? (.ref S) >>= _) _ _ s
    refine (wpAny_bind (wpAny_seqItems oS rfl ?_))
    show wpAny _ X.A.in1 (tryCatch (pyNext (.ref I)) _ >>= _) _ _ s
    refine (wpAny_bind (wpAny_tryCatch (W.item i s _ _ (by rw [List.size_toArray, lz]; exact lti) ⟨hit, pl.isList⟩ fun v h' tk hx hst2 hk2 => ?_)))
    obtain ⟨hit2, _⟩ := hst2
    have hx : its[i]? = some v := by simpa using hx
    obtain ⟨v0, hv0, rel⟩ := Vals.get rv (List.getElem?_eq_getElem lti)
    obtain rfl : v0 = v := Option.some.inj (hv0.symm.trans hx)
    have hy : ys[i] ∈ ys := List.getElem_mem lti
    have hyi := List.getElem?_eq_getElem lti
    generalize ys[i] = y at rel hy hyi
    have I2 : Inv X pins σ Hi { s with heap := h', toks := tk } := Ii.turned (it := I) (t' := tk) (fun b o hb e => hk2 b o (fun z => hb (List.mem_singleton.mp z)) e) nIi fp0.2.1 fp0.2.2.2.1 fp0.2.2.2.2.1 fp0.2.2.2.2.2
    obtain ⟨oi, hoi, coi, doi⟩ := id hit2
    have Ip := I2.pinned (fp := [I]) (fun b hb => by rw [List.mem_singleton.mp hb]; exact ⟨nIi, fp0.2⟩) (fun b hb => by rw [List.mem_singleton.mp hb]; exact ⟨oi, hoi, fun v z => by rw [doi] at z; cases z⟩)
    have spy := prom y hy Hi (fun u H4 => Same Hi H4 ∧ ∀ H3, Kp3 H H4 H3 → Dp X.K H3 u (kd y)) si fun u H4 g1 g2 => ⟨g1, g2⟩
    have called : wpAny (model X.prog X.w) X.A.in1 (call (.ref f) [v0]) (fun u s2 => ∃ x H4, Inv X pins σ H4 s2 ∧ H4 I = none ∧ s2.heap.IsListIter I a (i + 1) ∧ RelV x u ∧ Same Hi H4 ∧ ∀ H3, Kp3 H H4 H3 → Dp X.K H3 x (kd y)) (fun _ _ => False) { s with heap := h', toks := tk } := by
      refine wpAny_call (codeAny_mono (F.run X.A.in1 X.stack _ Hi ⟨[v0], []⟩ [v0] [y] _ E0 ((hr.mono (Nat.le_of_succ_le hk)).in1) Ip.env0.in1 (bnd _ [v0] Ip.kIn (by rw [← F.len _ _ _ _ spy]; rfl)) (.cons rel .nil) spy) fun r s2 hq => ?_)
      match r, hq with
      | .error _, hq => exact False.elim hq
      | .ok .next, hq => exact False.elim hq
      | .ok .brk, hq => exact False.elim hq
      | .ok .cont, hq => exact False.elim hq
      | .ok (.ret u), hq =>
        obtain ⟨x, H4, J, rxv, g1, g2⟩ := Ip.after hq
        have pp := J.pin (I, oi) (List.mem_append_right _ (List.mem_append_right _ (mem_pinsAt (List.mem_singleton.mpr rfl) hoi)))
        exact ⟨x, H4, (J.unpinned (pins := [])).pins_of (fun p hp => J.pin p (List.mem_append_right _ (List.mem_append_left _ hp))), pp.2.1, ⟨oi, pp.1, coi, doi⟩, rxv, g1, g2⟩
    show wpAny _ X.A.in1 (tryCatch (holding [v0] (call (.ref f) [v0])) _ >>= _) _ _ _
    refine (wpAny_bind (wpAny_tryCatch (wpAny_holding (wpAny_mono called (fun u s2 hu2 => ?_) fun _ _ z => z.elim))))
    obtain ⟨x, H4, J, nI4, hit4, rxu, g1, g2⟩ := hu2
    have eS4 := g1 _ _ eS
    have si4 : Same H H4 := si.trans g1
    obtain ⟨oS4, _⟩ := J.hok S _ eS4
    have oS4 : s2.heap.get? S = some (seqObj "list" (stA st) c) := oS4
    have kp4 : ∀ H3, Kp3 H H4 H3 → Kp3 H Hi H3 := fun H3 z => ⟨z.1, fun b o ho e => z.2 b o ho (g1 _ _ e)⟩
    -- the best so far is written down
    have wr : ∀ {c' : Nat} (o' : s2.heap.update S (Obj.mapSeq fun _ => #[v0, u]) = s2.heap.update S (Obj.mapSeq fun _ => #[v0, u])), (s2.heap.update S (Obj.mapSeq fun _ => #[v0, u])).get? S = some (seqObj "list" #[v0, u] c') → bestV bt (ys.take (i + 1)) y →
        codeAny (model X.prog X.w) X.A (.builtin "max.loop" ⟨[.ref I, .ref f, .ref S], [(Str.ofString "default", dv)]⟩) (fun r s' => match r with | .ok (.ret v) => EP X pins σ Q v s' | .ok _ => False | .error e => E e s') { s2 with heap := s2.heap.update S (Obj.mapSeq fun _ => #[v0, u]) } := fun {c'} _ e hb => by
      have J2 := J.write (x := S) (e := S) (o := .ext fun h => h.get? S = some (seqObj "list" #[v0, u] c')) (t' := s2.toks) (by rw [eS4]; trivial) (.inl rfl) (fun b o nb z => by rw [Heap.get?_update_ne _ _ _ _ nb]; exact z) ⟨_, e⟩ ⟨e, ⟨_, e⟩, fun h1 h2 z g => g _ z⟩
      refine ih (i + 1) (by omega) _ _ c' (some (y, v0, x, u)) J2 (fun b o z => ?_) ?_ ?_ upd_same ⟨rel, rxu, hy, hb, fun H3 z => g2 H3 ⟨z.1, fun b o ho e9 => z.2 b o ho ?_⟩⟩
      · rw [upd_ne (ne_of_none z nS)]
        exact si4 _ _ z
      · rw [upd_ne nIS]
        exact nI4
      · exact hit4.at fun o e => by rw [Heap.get?_update_ne _ _ _ _ nIS]; exact e
      · rw [upd_ne (fun z => ?_)]
        · exact e9
        · subst z
          rw [eS4] at e9
          cases e9
          rcases ho with ⟨xs, z⟩ | ⟨q', u', z⟩ <;> cases z
    have tk1 : ys.take (i + 1) = ys.take i ++ [y] := by rw [List.take_add_one, hyi]; rfl
    cases st with
    | none =>
      have i0 : i = 0 := hst
      have oS4 : s2.heap.get? S = some (seqObj "list" #[] c) := oS4
      subst i0
      show wpAny _ X.A.in1 (updateSeq S (fun _ => #[v0, u]) >>= _) _ _ _
      refine (wpAny_bind (wpAny_updateSeq oS4 rfl ?_))
      rw [hname]
      refine wpAny_pure ⟨plainId_quiet PySem.F.plain_max_loop _, wr rfl (get?_update_seq oS4 fun _ => #[v0, u]) ?_⟩
      rw [tk1]
      refine ⟨List.mem_singleton.mpr rfl, fun z hz => ?_⟩
      rw [List.mem_singleton.mp hz]
      exact O.refl _
    | some t =>
      obtain ⟨y', v', x', u'⟩ := t
      obtain ⟨ryv, rxu', hy', hb, dp'⟩ := hst
      have oS4 : s2.heap.get? S = some (seqObj "list" #[v', u'] c) := oS4
      obtain ⟨as, r1⟩ := Dp.reads J _ _ _ (g2 H4 ⟨si4, fun _ _ _ e => e⟩) rxu
      obtain ⟨bs, r2⟩ := Dp.reads J _ _ _ (dp' H4 (kp4 H4 ⟨si4, fun _ _ _ e => e⟩)) rxu'
      have go := rcGt_D (kd y) (kd y') X.A.in1 s2 u u' as bs r1 r2 (SeqAt.canLay_of_shaped (shp _ hy)) (SeqAt.canLay_of_shaped (shp _ hy')) (cmp _ hy _ hy') (SeqAt.room_of_shaped (shp _ hy) (by show X.A.units + 1 + 64 < _; omega))
      show wpAny _ X.A.in1 (tryCatch (holding [v0, u] (richCompare .Gt u u' >>= _)) _ >>= _) _ _ _
      refine (wpAny_bind (wpAny_tryCatch (wpAny_holding (wpAny_bind (go X.prog X.w _ _ ?_)))))
      refine (wpAny_bind (wpAny_holding (wpAny_truthy_bool ?_)))
      refine (wpAny_bind (wpAny_letGo (wpAny_pure ?_)))
      rw [← hbt]
      cases hb' : bt y y' with
      | true =>
        simp only [if_true]
        refine (wpAny_bind (wpAny_updateSeq oS4 rfl (wpAny_bind (wpAny_letGo ?_))))
        rw [hname]
        refine wpAny_pure ⟨plainId_quiet PySem.F.plain_max_loop _, wr rfl (get?_update_seq oS4 fun _ => #[v0, u]) ?_⟩
        rw [tk1]
        refine ⟨List.mem_append_right _ (List.mem_singleton.mpr rfl), fun z hz => ?_⟩
        rcases List.mem_append.mp hz with hz | hz
        · exact O.tr _ _ _ (O.asym _ _ hb') (hb.2 z hz)
        · rw [List.mem_singleton.mp hz]
          exact O.refl _
      | false =>
        simp only [Bool.false_eq_true, if_false]
        refine (wpAny_bind (wpAny_letGo ?_))
        rw [hname]
        refine wpAny_pure ⟨plainId_quiet PySem.F.plain_max_loop _, ih (i + 1) (by omega) _ _ c (some (y', v', x', u')) J si4 nI4 hit4 eS4 ⟨ryv, rxu', hy', ?_, fun H3 z => dp' H3 (kp4 H3 z)⟩⟩
        rw [tk1]
        refine ⟨List.mem_append_left _ hb.1, fun z hz => ?_⟩
        rcases List.mem_append.mp hz with hz | hz
        · exact hb.2 z hz
        · rw [List.mem_singleton.mp hz]
          exact hb'
theorem cr_maxF {X : Cx} {k j : Nat} (hr : Room j X.A) (hk : k + 2 ≤ j) (hu : X.A.units + 70 < cLine) (hc : X.calm = true) : CallRK X (.builtin "max") [Str.ofString "key", Str.ofString "default"] (rMmF X.prog X.w X.K X.mg X.base k true) := by
  intro pins s σ H vs zs us ws Q I r rz ask
  obtain ⟨a, f, sp, ys, kd, bt, df, rfl, rfl, hs, HD, prom, shp, cmp, hbt, O, q⟩ := ask
  obtain rfl := Vals.ref1 r
  cases rz with
  | cons e1 rz =>
    cases rz with
    | @cons _ dv _ _ e2 rz =>
      cases rz
      obtain rfl : _ = Value.ref f := e1
      obtain ⟨its, rv, pl, hz⟩ := I.list hs
      have lt : a < s.heap.objs.size := by obtain ⟨o, ho, _⟩ := pl.isList; exact Heap.lt_size ho
      refine kmk_tree PySem.F.kind_max PySem.F.plain_max PySem.F.entry_max (args_max_key_default _ _ _) ?_
      show wpAny _ X.A.in1 (Builtin.Builtins.bindParams "max" ["key", "default"] 0 ⟨[], [(Str.ofString "key", .ref f), (Str.ofString "default", dv)]⟩ >>= _) _ _ s
      refine (wpAny_bind (wpAny_of_eq (show Builtin.Builtins.bindParams "max" ["key", "default"] 0 ⟨[], [(Str.ofString "key", .ref f), (Str.ofString "default", dv)]⟩ = pure [some (.ref f), some dv] from rfl) ?_))
      refine (wpAny_bind (wpAny_pure ?_))
      refine (wpAny_bind (wpAny_pyIter_list pl.isList ?_))
      refine (wpAny_bind (wpAny_newList ?_ (Nat.zero_le _)))
      show wpAny _ X.A.in1 (pure _) _ _ _
      refine wpAny_pure ⟨plainId_quiet PySem.F.plain_max_loop _, ?_⟩
      have gI : (s.heap.push { cls := .type "list_iterator", data := .fields #[.ref a, .int 0 0] }).get? s.heap.objs.size = some { cls := .type "list_iterator", data := .fields #[.ref a, .int 0 0] } := Heap.get?_push_size _ rfl
      have nI : H s.heap.objs.size = none := I.hok.fresh (Nat.le_refl _)
      have fp0 : FpOk X pins H s.heap.objs.size := I.fpOk (Nat.le_refl _) nI
      have I1 : Inv X pins σ H { s with heap := s.heap.push { cls := .type "list_iterator", data := .fields #[.ref a, .int 0 0] } } := I.kept (t' := s.toks) push_keep
      have sz := size_push' s.heap { cls := .type "list_iterator", data := .fields #[.ref a, .int 0 0] }
      have nS0 : H (s.heap.push { cls := .type "list_iterator", data := .fields #[.ref a, .int 0 0] }).objs.size = none := I1.hok.fresh (Nat.le_refl _)
      have nIS : s.heap.objs.size ≠ (s.heap.push { cls := .type "list_iterator", data := .fields #[.ref a, .int 0 0] }).objs.size := by rw [sz]; exact Nat.ne_of_lt (Nat.lt_succ_self _)
      have I2 := I1.laid (o := .ext fun h => h.get? (s.heap.push { cls := .type "list_iterator", data := .fields #[.ref a, .int 0 0] }).objs.size = some (seqObj "list" (stA none) 0)) (h' := (s.heap.push { cls := .type "list_iterator", data := .fields #[.ref a, .int 0 0] }).push (seqObj "list" #[] 0)) (t' := s.toks) push_keep (Nat.le_refl _) ⟨Heap.get?_push_size _ rfl, ⟨_, Heap.get?_push_size _ rfl⟩, fun h1 h2 z g => g _ z⟩
      have naS : a ≠ (s.heap.push { cls := .type "list_iterator", data := .fields #[.ref a, .int 0 0] }).objs.size := by rw [sz]; exact Nat.ne_of_lt (Nat.lt_succ_of_lt lt)
      have naI : a ≠ s.heap.objs.size := Nat.ne_of_lt lt
      refine max_loopF hr hk hu hc HD prom shp cmp (fun y z => hbt y z) O hs e2 q fp0 nS0 nIS naI naS ys.length 0 (Nat.zero_add _) _ _ 0 none I2 (fun b o e => ?_) ?_ ?_ upd_same rfl
      · rw [upd_ne (ne_of_none e nS0)]
        exact e
      · rw [upd_ne nIS]
        exact nI
      · exact ⟨_, push_keep _ _ gI, rfl, rfl⟩
end
section
variable {P : Program} {w : World} {K : PySem.W.Frag} {mg : Str → Option Value} {base : Heap} {X : Cx} {k j : Nat}
theorem hu70 {A : Around} (hr : Room j A) : A.units + 70 < cLine := by have := hr.un; omega
theorem cr_minFK (hr : Room j X.A) (hk : k + 2 ≤ j) (h1 : X.prog = P := by rfl) (h2 : X.w = w := by rfl) (h3 : X.K = K := by rfl) (h4 : X.mg = mg := by rfl) (h5 : X.base = base := by rfl) (hc : X.calm = true := by rfl) : CallRK X (.builtin "min") [Str.ofString "key", Str.ofString "default"] (rMmF P w K mg base k false) := by
  subst h1 h2 h3 h4 h5
  exact cr_minF hr hk (hu70 hr) hc
theorem cr_maxFK (hr : Room j X.A) (hk : k + 2 ≤ j) (h1 : X.prog = P := by rfl) (h2 : X.w = w := by rfl) (h3 : X.K = K := by rfl) (h4 : X.mg = mg := by rfl) (h5 : X.base = base := by rfl) (hc : X.calm = true := by rfl) : CallRK X (.builtin "max") [Str.ofString "key", Str.ofString "default"] (rMmF P w K mg base k true) := by
  subst h1 h2 h3 h4 h5
  exact cr_maxF hr hk (hu70 hr) hc
theorem cr_sortFK (hr : Room j X.A) (hk : k + 2 ≤ j) (h1 : X.prog = P := by rfl) (h2 : X.w = w := by rfl) (h3 : X.K = K := by rfl) (h4 : X.mg = mg := by rfl) (h5 : X.base = base := by rfl) : CallRK X (.builtin "sorted") [Str.ofString "key"] (rSortF P w K mg base k) := by
  subst h1 h2 h3 h4 h5
  exact cr_sortF hr hk (hu70 hr)
end

/-! ### min(xs, key=f) of a list that is not empty; min(xs, default=d) of alike data -/
section
open PySem.SeqAt PySem.W
theorem min_loop1 {X : Cx} {k j : Nat} (hr : Room j X.A) (hk : k + 2 ≤ j) (hu : X.A.units + 70 < cLine) (hc : X.calm = true) {pins : List (Addr × Obj)} {σ : L2.St} {H : Hp} {Q : VK} {a f : Addr} {sp : Sp} {ys : List V} {kd : V → PyData} {bt : V → V → Bool} {E : Value → Shared → Prop}
    (HD : Hd X.prog X.w X.K X.mg X.base k f sp) (prom : ∀ y ∈ ys, ∀ (H1 : Hp) (R : VK), Same H H1 → (∀ u H2, Same H1 H2 → (∀ H3, Kp3 H H2 H3 → Dp X.K H3 u (kd y)) → R u H2) → sp [y] H1 R E0)
    (shp : ∀ y ∈ ys, SeqAt.shaped (kd y) = true) (cmp : ∀ y ∈ ys, ∀ z ∈ ys, okD (kd y) (kd z) = true) (hbt : ∀ y z, bt y z = ltD (kd y) (kd z)) (O : SrtO.Swo bt) (sq : SqL X.K H a ys) (ne : ys ≠ [])
    (q : ∀ H', Same H H' → (∀ y, bestV bt ys y → Q y H')) {I S : Addr} (fp0 : FpOk X pins H I) (nS : H S = none) (nIS : I ≠ S) (naI : a ≠ I) (naS : a ≠ S) :
    ∀ (r i : Nat), i + r = ys.length → ∀ (s : Shared) (Hi : Hp) (c : Nat) (st : Option (V × Value × V × Value)), Inv X pins σ Hi s → Same H Hi → Hi I = none → s.heap.IsListIter I a i →
      Hi S = some (.ext fun h => h.get? S = some (seqObj "list" (stA st) c)) →
      (match st with | none => i = 0 | some (y, v, x, u) => RelV y v ∧ RelV x u ∧ y ∈ ys ∧ bestV bt (ys.take i) y ∧ ∀ H3, Kp3 H Hi H3 → Dp X.K H3 x (kd y)) →
      codeAny (model X.prog X.w) X.A (.builtin "min.loop" ⟨[.ref I, .ref f, .ref S], []⟩) (fun r s' => match r with | .ok (.ret v) => EP X pins σ Q v s' | .ok _ => False | .error e => E e s') s := by
  obtain ⟨fd, ps, F, kp, bnd⟩ := HD.ex
  have hname : (toString "min" ++ toString ".loop" : String) = "min.loop" := by decide
  intro r
  induction r with
  | zero =>
    intro i hi s Hi c st Ii si nIi hit eS hst
    obtain ⟨oS, _⟩ := Ii.hok S _ eS
    have oS : s.heap.get? S = some (seqObj "list" (stA st) c) := oS
    obtain ⟨its, rv, pl, hz⟩ := Ii.list (SqL.same si sq)
    have lz : its.length = ys.length := rv.length.symm
    have W := Walks.list (prog := X.prog) (w := X.w) (A := X.A.in1) (Ii.ok.hd hc) I a naI its.toArray
    refine codeAny_builtin PySem.F.entry_min_loop ?_
    rw [Around.under_plainId PySem.F.plain_min_loop _]
    show wpAny _ X.A.in1 (seqItems? (.ref S) >>= _) _ _ s
    refine (wpAny_bind (wpAny_seqItems oS rfl ?_))
    show wpAny _ X.A.in1 (tryCatch (pyNext (.ref I)) _ >>= _) _ _ s
    refine (wpAny_bind (wpAny_tryCatch (W.done s _ _ ⟨by rw [List.size_toArray, lz, ← hi, Nat.add_zero]; exact hit, pl.isList⟩ fun h' tk hk2 => ?_)))
    have I2 : Inv X pins σ Hi { s with heap := h', toks := tk } := Ii.turned (it := I) (t' := tk) (fun b o hb e => hk2 b o (fun z => hb (List.mem_singleton.mp z)) e) nIi fp0.2.1 fp0.2.2.2.1 fp0.2.2.2.2.1 fp0.2.2.2.2.2
    have oS2 := hk2 S _ (fun z => nIS (List.mem_singleton.mp z).symm) oS
    cases st with
    | none =>
      have e0 : ys = [] := by
        subst hst
        exact List.eq_nil_of_length_eq_zero (by omega)
      exact absurd e0 ne
    | some t =>
      obtain ⟨y, v, x, u⟩ := t
      obtain ⟨ryv, rxu, hy, hb, _⟩ := hst
      have oS2 : h'.get? S = some (seqObj "list" #[v, u] c) := oS2
      show wpAny _ X.A.in1 (updateSeq S (fun _ => #[]) >>= _) _ _ _
      refine (wpAny_bind (wpAny_updateSeq oS2 rfl (wpAny_bind (wpAny_letGo (wpAny_pure ?_)))))
      have hb : bestV bt ys y := by
        have hb := hb
        rw [List.take_of_length_le (by omega)] at hb
        exact hb
      have I3 := I2.write (x := S) (e := S) (o := .ext fun h => ∃ o, h.get? S = some o) (h' := h'.update S (Obj.mapSeq fun _ => (#[] : Array Value))) (t' := tk) (by rw [eS]; trivial) (.inl rfl) (fun b o nb e => by rw [Heap.get?_update_ne _ _ _ _ nb]; exact e) ⟨_, get?_update_seq oS2 fun _ => #[]⟩ ⟨⟨_, get?_update_seq oS2 fun _ => #[]⟩, ⟨_, get?_update_seq oS2 fun _ => #[]⟩, fun h1 h2 z g => by obtain ⟨o, z⟩ := z; exact ⟨o, g _ z⟩⟩
      exact ⟨y, _, I3, ryv, q _ (fun b o e => by rw [upd_ne (ne_of_none e nS)]; exact si _ _ e) y hb⟩
  | succ r ih =>
    intro i hi s Hi c st Ii si nIi hit eS hst
    have lti : i < ys.length := by omega
    obtain ⟨oS, _⟩ := Ii.hok S _ eS
    have oS : s.heap.get? S = some (seqObj "list" (stA st) c) := oS
    obtain ⟨its, rv, pl, hz⟩ := Ii.list (SqL.same si sq)
    have lz : its.length = ys.length := rv.length.symm
    have W := Walks.list (prog := X.prog) (w := X.w) (A := X.A.in1) (Ii.ok.hd hc) I a naI its.toArray
    refine codeAny_builtin PySem.F.entry_min_loop ?_
    rw [Around.under_plainId PySem.F.plain_min_loop _]
    show wpAny _ X.A.in1 (seqItems? (.ref S) >>= _) _ _ s
    refine (wpAny_bind (wpAny_seqItems oS rfl ?_))
    show wpAny _ X.A.in1 (tryCatch (pyNext (.ref I)) _ >>= _) _ _ s
    refine (wpAny_bind (wpAny_tryCatch (W.item i s _ _ (by rw [List.size_toArray, lz]; exact lti) ⟨hit, pl.isList⟩ fun v h' tk hx hst2 hk2 => ?_)))
    obtain ⟨hit2, _⟩ := hst2
    have hx : its[i]? = some v := by simpa using hx
    obtain ⟨v0, hv0, rel⟩ := Vals.get rv (List.getElem?_eq_getElem lti)
    obtain rfl : v0 = v := Option.some.inj (hv0.symm.trans hx)
    have hy : ys[i] ∈ ys := List.getElem_mem lti
    have hyi := List.getElem?_eq_getElem lti
    generalize ys[i] = y at rel hy hyi
    have I2 : Inv X pins σ Hi { s with heap := h', toks := tk } := Ii.turned (it := I) (t' := tk) (fun b o hb e => hk2 b o (fun z => hb (List.mem_singleton.mp z)) e) nIi fp0.2.1 fp0.2.2.2.1 fp0.2.2.2.2.1 fp0.2.2.2.2.2
    obtain ⟨oi, hoi, coi, doi⟩ := id hit2
    have Ip := I2.pinned (fp := [I]) (fun b hb => by rw [List.mem_singleton.mp hb]; exact ⟨nIi, fp0.2⟩) (fun b hb => by rw [List.mem_singleton.mp hb]; exact ⟨oi, hoi, fun v z => by rw [doi] at z; cases z⟩)
    have spy := prom y hy Hi (fun u H4 => Same Hi H4 ∧ ∀ H3, Kp3 H H4 H3 → Dp X.K H3 u (kd y)) si fun u H4 g1 g2 => ⟨g1, g2⟩
    have called : wpAny (model X.prog X.w) X.A.in1 (call (.ref f) [v0]) (fun u s2 => ∃ x H4, Inv X pins σ H4 s2 ∧ H4 I = none ∧ s2.heap.IsListIter I a (i + 1) ∧ RelV x u ∧ Same Hi H4 ∧ ∀ H3, Kp3 H H4 H3 → Dp X.K H3 x (kd y)) (fun _ _ => False) { s with heap := h', toks := tk } := by
      refine wpAny_call (codeAny_mono (F.run X.A.in1 X.stack _ Hi ⟨[v0], []⟩ [v0] [y] _ E0 ((hr.mono (Nat.le_of_succ_le hk)).in1) Ip.env0.in1 (bnd _ [v0] Ip.kIn (by rw [← F.len _ _ _ _ spy]; rfl)) (.cons rel .nil) spy) fun r s2 hq => ?_)
      match r, hq with
      | .error _, hq => exact False.elim hq
      | .ok .next, hq => exact False.elim hq
      | .ok .brk, hq => exact False.elim hq
      | .ok .cont, hq => exact False.elim hq
      | .ok (.ret u), hq =>
        obtain ⟨x, H4, J, rxv, g1, g2⟩ := Ip.after hq
        have pp := J.pin (I, oi) (List.mem_append_right _ (List.mem_append_right _ (mem_pinsAt (List.mem_singleton.mpr rfl) hoi)))
        exact ⟨x, H4, (J.unpinned (pins := [])).pins_of (fun p hp => J.pin p (List.mem_append_right _ (List.mem_append_left _ hp))), pp.2.1, ⟨oi, pp.1, coi, doi⟩, rxv, g1, g2⟩
    show wpAny _ X.A.in1 (tryCatch (holding [v0] (call (.ref f) [v0])) _ >>= _) _ _ _
    refine (wpAny_bind (wpAny_tryCatch (wpAny_holding (wpAny_mono called (fun u s2 hu2 => ?_) fun _ _ z => z.elim))))
    obtain ⟨x, H4, J, nI4, hit4, rxu, g1, g2⟩ := hu2
    have eS4 := g1 _ _ eS
    have si4 : Same H H4 := si.trans g1
    obtain ⟨oS4, _⟩ := J.hok S _ eS4
    have oS4 : s2.heap.get? S = some (seqObj "list" (stA st) c) := oS4
    have kp4 : ∀ H3, Kp3 H H4 H3 → Kp3 H Hi H3 := fun H3 z => ⟨z.1, fun b o ho e => z.2 b o ho (g1 _ _ e)⟩
    -- the best so far is written down
    have wr : ∀ {c' : Nat} (o' : s2.heap.update S (Obj.mapSeq fun _ => #[v0, u]) = s2.heap.update S (Obj.mapSeq fun _ => #[v0, u])), (s2.heap.update S (Obj.mapSeq fun _ => #[v0, u])).get? S = some (seqObj "list" #[v0, u] c') → bestV bt (ys.take (i + 1)) y →
        codeAny (model X.prog X.w) X.A (.builtin "min.loop" ⟨[.ref I, .ref f, .ref S], []⟩) (fun r s' => match r with | .ok (.ret v) => EP X pins σ Q v s' | .ok _ => False | .error e => E e s') { s2 with heap := s2.heap.update S (Obj.mapSeq fun _ => #[v0, u]) } := fun {c'} _ e hb => by
      have J2 := J.write (x := S) (e := S) (o := .ext fun h => h.get? S = some (seqObj "list" #[v0, u] c')) (t' := s2.toks) (by rw [eS4]; trivial) (.inl rfl) (fun b o nb z => by rw [Heap.get?_update_ne _ _ _ _ nb]; exact z) ⟨_, e⟩ ⟨e, ⟨_, e⟩, fun h1 h2 z g => g _ z⟩
      refine ih (i + 1) (by omega) _ _ c' (some (y, v0, x, u)) J2 (fun b o z => ?_) ?_ ?_ upd_same ⟨rel, rxu, hy, hb, fun H3 z => g2 H3 ⟨z.1, fun b o ho e9 => z.2 b o ho ?_⟩⟩
      · rw [upd_ne (ne_of_none z nS)]
        exact si4 _ _ z
      · rw [upd_ne nIS]
        exact nI4
      · exact hit4.at fun o e => by rw [Heap.get?_update_ne _ _ _ _ nIS]; exact e
      · rw [upd_ne (fun z => ?_)]
        · exact e9
        · subst z
          rw [eS4] at e9
          cases e9
          rcases ho with ⟨xs, z⟩ | ⟨q', u', z⟩ <;> cases z
    have tk1 : ys.take (i + 1) = ys.take i ++ [y] := by rw [List.take_add_one, hyi]; rfl
    cases st with
    | none =>
      have i0 : i = 0 := hst
      have oS4 : s2.heap.get? S = some (seqObj "list" #[] c) := oS4
      subst i0
      show wpAny _ X.A.in1 (updateSeq S (fun _ => #[v0, u]) >>= _) _ _ _
      refine (wpAny_bind (wpAny_updateSeq oS4 rfl ?_))
      rw [hname]
      refine wpAny_pure ⟨plainId_quiet PySem.F.plain_min_loop _, wr rfl (get?_update_seq oS4 fun _ => #[v0, u]) ?_⟩
      rw [tk1]
      refine ⟨List.mem_singleton.mpr rfl, fun z hz => ?_⟩
      rw [List.mem_singleton.mp hz]
      exact O.refl _
    | some t =>
      obtain ⟨y', v', x', u'⟩ := t
      obtain ⟨ryv, rxu', hy', hb, dp'⟩ := hst
      have oS4 : s2.heap.get? S = some (seqObj "list" #[v', u'] c) := oS4
      obtain ⟨as, r1⟩ := Dp.reads J _ _ _ (g2 H4 ⟨si4, fun _ _ _ e => e⟩) rxu
      obtain ⟨bs, r2⟩ := Dp.reads J _ _ _ (dp' H4 (kp4 H4 ⟨si4, fun _ _ _ e => e⟩)) rxu'
      have go := rcLt_D (kd y) (kd y') X.A.in1 s2 u u' as bs r1 r2 (SeqAt.canLay_of_shaped (shp _ hy)) (SeqAt.canLay_of_shaped (shp _ hy')) (cmp _ hy _ hy') (SeqAt.room_of_shaped (shp _ hy) (by show X.A.units + 1 + 64 < _; omega))
      show wpAny _ X.A.in1 (tryCatch (holding [v0, u] (richCompare .Lt u u' >>= _)) _ >>= _) _ _ _
      refine (wpAny_bind (wpAny_tryCatch (wpAny_holding (wpAny_bind (go X.prog X.w _ _ ?_)))))
      refine (wpAny_bind (wpAny_holding (wpAny_truthy_bool ?_)))
      refine (wpAny_bind (wpAny_letGo (wpAny_pure ?_)))
      rw [← hbt]
      cases hb' : bt y y' with
      | true =>
        simp only [if_true]
        refine (wpAny_bind (wpAny_updateSeq oS4 rfl (wpAny_bind (wpAny_letGo ?_))))
        rw [hname]
        refine wpAny_pure ⟨plainId_quiet PySem.F.plain_min_loop _, wr rfl (get?_update_seq oS4 fun _ => #[v0, u]) ?_⟩
        rw [tk1]
        refine ⟨List.mem_append_right _ (List.mem_singleton.mpr rfl), fun z hz => ?_⟩
        rcases List.mem_append.mp hz with hz | hz
        · exact O.tr _ _ _ (O.asym _ _ hb') (hb.2 z hz)
        · rw [List.mem_singleton.mp hz]
          exact O.refl _
      | false =>
        simp only [Bool.false_eq_true, if_false]
        refine (wpAny_bind (wpAny_letGo ?_))
        rw [hname]
        refine wpAny_pure ⟨plainId_quiet PySem.F.plain_min_loop _, ih (i + 1) (by omega) _ _ c (some (y', v', x', u')) J si4 nI4 hit4 eS4 ⟨ryv, rxu', hy', ?_, fun H3 z => dp' H3 (kp4 H3 z)⟩⟩
        rw [tk1]
        refine ⟨List.mem_append_left _ hb.1, fun z hz => ?_⟩
        rcases List.mem_append.mp hz with hz | hz
        · exact hb.2 z hz
        · rw [List.mem_singleton.mp hz]
          exact hb'
def rMm1 (P : Program) (w : World) (K : PySem.W.Frag) (mg : Str → Option Value) (base : Heap) (k : Nat) : List V → List V → Hp → VK → Prop := fun vs zs H Q => ∃ (a f : Addr) (sp : Sp) (ys : List V) (kd : V → PyData) (bt : V → V → Bool), vs = [.ref a] ∧ zs = [.ref f] ∧ SqL K H a ys ∧ ys ≠ [] ∧ Hd P w K mg base k f sp ∧
  (∀ y ∈ ys, ∀ (H1 : Hp) (R : VK), Same H H1 → (∀ u H2, Same H1 H2 → (∀ H3, Kp3 H H2 H3 → Dp K H3 u (kd y)) → R u H2) → sp [y] H1 R E0) ∧ (∀ y ∈ ys, SeqAt.shaped (kd y) = true) ∧ (∀ y ∈ ys, ∀ z ∈ ys, okD (kd y) (kd z) = true) ∧
  (∀ y z, bt y z = ltD (kd y) (kd z)) ∧ SrtO.Swo bt ∧
  ∀ H', Same H H' → ∀ y, bestV bt ys y → Q y H'
theorem args_min_key1 (a v : Value) : argsOk "min" ⟨[a], [(Str.ofString "key", v)]⟩ := by unfold argsOk; kernel_rfl
theorem cr_min1 {X : Cx} {k j : Nat} (hr : Room j X.A) (hk : k + 2 ≤ j) (hu : X.A.units + 70 < cLine) (hc : X.calm = true) : CallRK X (.builtin "min") [Str.ofString "key"] (rMm1 X.prog X.w X.K X.mg X.base k) := by
  intro pins s σ H vs zs us ws Q I r rz ask
  obtain ⟨a, f, sp, ys, kd, bt, rfl, rfl, hs, ne, HD, prom, shp, cmp, hbt, O, q⟩ := ask
  obtain rfl := Vals.ref1 r
  cases rz with
  | cons e1 rz =>
    cases rz with
    | nil =>
      obtain rfl : _ = Value.ref f := e1
      obtain ⟨its, rv, pl, hz⟩ := I.list hs
      have lt : a < s.heap.objs.size := by obtain ⟨o, ho, _⟩ := pl.isList; exact Heap.lt_size ho
      refine kmk_tree PySem.F.kind_min PySem.F.plain_min PySem.F.entry_min (args_min_key1 _ _) ?_
      show wpAny _ X.A.in1 (Builtin.Builtins.bindParams "min" ["key", "default"] 0 ⟨[], [(Str.ofString "key", .ref f)]⟩ >>= _) _ _ s
      refine (wpAny_bind (wpAny_of_eq (show Builtin.Builtins.bindParams "min" ["key", "default"] 0 ⟨[], [(Str.ofString "key", .ref f)]⟩ = pure [some (.ref f), none] from rfl) ?_))
      refine (wpAny_bind (wpAny_pure ?_))
      refine (wpAny_bind (wpAny_pyIter_list pl.isList ?_))
      refine (wpAny_bind (wpAny_newList ?_ (Nat.zero_le _)))
      show wpAny _ X.A.in1 (pure _) _ _ _
      refine wpAny_pure ⟨plainId_quiet PySem.F.plain_min_loop _, ?_⟩
      have gI : (s.heap.push { cls := .type "list_iterator", data := .fields #[.ref a, .int 0 0] }).get? s.heap.objs.size = some { cls := .type "list_iterator", data := .fields #[.ref a, .int 0 0] } := Heap.get?_push_size _ rfl
      have nI : H s.heap.objs.size = none := I.hok.fresh (Nat.le_refl _)
      have fp0 : FpOk X pins H s.heap.objs.size := I.fpOk (Nat.le_refl _) nI
      have I1 : Inv X pins σ H { s with heap := s.heap.push { cls := .type "list_iterator", data := .fields #[.ref a, .int 0 0] } } := I.kept (t' := s.toks) push_keep
      have sz := size_push' s.heap { cls := .type "list_iterator", data := .fields #[.ref a, .int 0 0] }
      have nS0 : H (s.heap.push { cls := .type "list_iterator", data := .fields #[.ref a, .int 0 0] }).objs.size = none := I1.hok.fresh (Nat.le_refl _)
      have nIS : s.heap.objs.size ≠ (s.heap.push { cls := .type "list_iterator", data := .fields #[.ref a, .int 0 0] }).objs.size := by rw [sz]; exact Nat.ne_of_lt (Nat.lt_succ_self _)
      have I2 := I1.laid (o := .ext fun h => h.get? (s.heap.push { cls := .type "list_iterator", data := .fields #[.ref a, .int 0 0] }).objs.size = some (seqObj "list" (stA none) 0)) (h' := (s.heap.push { cls := .type "list_iterator", data := .fields #[.ref a, .int 0 0] }).push (seqObj "list" #[] 0)) (t' := s.toks) push_keep (Nat.le_refl _) ⟨Heap.get?_push_size _ rfl, ⟨_, Heap.get?_push_size _ rfl⟩, fun h1 h2 z g => g _ z⟩
      have naS : a ≠ (s.heap.push { cls := .type "list_iterator", data := .fields #[.ref a, .int 0 0] }).objs.size := by rw [sz]; exact Nat.ne_of_lt (Nat.lt_succ_of_lt lt)
      have naI : a ≠ s.heap.objs.size := Nat.ne_of_lt lt
      refine min_loop1 hr hk hu hc HD prom shp cmp (fun y z => hbt y z) O hs ne q fp0 nS0 nIS naI naS ys.length 0 (Nat.zero_add _) _ _ 0 none I2 (fun b o e => ?_) ?_ ?_ upd_same rfl
      · rw [upd_ne (ne_of_none e nS0)]
        exact e
      · rw [upd_ne nIS]
        exact nI
      · exact ⟨_, push_keep _ _ gI, rfl, rfl⟩
def rMinDef (K : PySem.W.Frag) : List V → List V → Hp → VK → Prop := fun vs zs H Q => ∃ (a : Addr) (df : V) (ys : List V) (ds : List PyData), vs = [.ref a] ∧ zs = [df] ∧ SqL K H a ys ∧ DpAll K H ys ds ∧ AlikeAll ds ∧ PyData.depthAll ds ≤ 50 ∧
  (ds = [] → Q df H) ∧ (∀ (d : PyData) (es : List PyData) (i : Nat) (y : V), ds = d :: es → ys[i]? = some y → ds[i]? = some (minD d es) → Q y H)
theorem cr_minDef {X : Cx} (K : PySem.W.Frag) (hu : X.A.units + 64 < cLine) (hc : X.calm = true) (h : X.K = K := by rfl) : CallRK X (.builtin "min") [Str.ofString "default"] (rMinDef K) := by
  subst h
  intro pins s σ H vs zs us ws Q I r rz ask
  obtain ⟨a, df, ys, ds, rfl, rfl, hs, hd, al, dd, q0, q1⟩ := ask
  obtain rfl := Vals.ref1 r
  cases rz with
  | cons e1 rz =>
    cases rz
    obtain ⟨its, rv, pl, hz⟩ := I.list hs
    obtain ⟨as, rd⟩ := Dp.readsAll I ds ys its hd rv
    refine min_list_default (I.ok.hd hc) pl.isList rd al (by omega) (fun e h' tk kp => ?_) (fun d es i v h' tk bs e hv rm kp => ?_)
    · exact ⟨df, H, I.kept kp, e1, q0 e⟩
    · have hv : its[i]? = some v := by simpa using hv
      have hi := (List.getElem?_eq_some_iff.mp hv).1
      have hy : i < ys.length := by rw [rv.length]; exact hi
      obtain ⟨v0, hv0, rel⟩ := Vals.get rv (List.getElem?_eq_getElem hy)
      obtain rfl : v0 = v := Option.some.inj (hv0.symm.trans hv)
      have hdi : i < ds.length := by rw [← DpAll.len hd]; exact hy
      obtain ⟨y', hy', dy⟩ := DpAll.get hd (List.getElem?_eq_getElem hdi)
      obtain rfl : ys[i] = y' := Option.some.inj ((List.getElem?_eq_getElem hy).symm.trans hy')
      have I2 := I.kept (h' := h') (t' := tk) kp
      obtain ⟨cs, rc⟩ := Dp.reads I2 _ _ _ dy rel
      obtain ⟨e2, _⟩ := PyProof.Rows.reads_det (fun _ _ e _ => e) rm rc
      exact ⟨ys[i], H, I2, rel, q1 d es i _ e (List.getElem?_eq_getElem hy) (by rw [← e2]; exact List.getElem?_eq_getElem hdi)⟩
section
variable {P : Program} {w : World} {K : PySem.W.Frag} {mg : Str → Option Value} {base : Heap} {X : Cx} {k j : Nat}
theorem cr_min1K (hr : Room j X.A) (hk : k + 2 ≤ j) (h1 : X.prog = P := by rfl) (h2 : X.w = w := by rfl) (h3 : X.K = K := by rfl) (h4 : X.mg = mg := by rfl) (h5 : X.base = base := by rfl) (hc : X.calm = true := by rfl) : CallRK X (.builtin "min") [Str.ofString "key"] (rMm1 P w K mg base k) := by
  subst h1 h2 h3 h4 h5
  exact cr_min1 hr hk (hu70 hr) hc
end
end

/-! ### the nodes of diagrams in their order -/
def Bd.sz : Bd → Nat
  | .lf _ => 0
  | .nd _ w t => w.sz + t.sz + 1
def knw (acc : List Bd) : Bd → Bool
  | .lf _ => true
  | a => decide (a ∈ acc)
/-- all of one side, all of the other, then the node: what is known already is passed over -/
def post : List Bd → Bd → List Bd
  | acc, .lf _ => acc
  | acc, .nd e w t => if Bd.nd e w t ∈ acc then acc else post (post acc w) t ++ [.nd e w t]
def Clo (acc : List Bd) : Prop := ∀ e w t, Bd.nd e w t ∈ acc → knw acc w = true ∧ knw acc t = true
theorem knw_nd {acc : List Bd} {e : Int} {w t : Bd} : knw acc (.nd e w t) = true ↔ Bd.nd e w t ∈ acc := by
  unfold knw
  exact decide_eq_true_iff
theorem post_knw {acc : List Bd} {a : Bd} (h : knw acc a = true) : post acc a = acc := by
  cases a with
  | lf b => rfl
  | nd e w t => unfold post; exact if_pos (knw_nd.mp h)
theorem post_pre : ∀ (a : Bd) (acc : List Bd), acc <+: post acc a
  | .lf _, acc => List.prefix_refl acc
  | .nd e w t, acc => by
    unfold post
    split
    · exact List.prefix_refl acc
    · exact ((post_pre w acc).trans (post_pre t _)).trans (List.prefix_append _ _)
theorem knw_pre {acc bcc : List Bd} (h : acc <+: bcc) {a : Bd} (k : knw acc a = true) : knw bcc a = true := by
  cases a with
  | lf b => rfl
  | nd e w t => exact knw_nd.mpr (h.subset (knw_nd.mp k))
theorem post_self : ∀ (a : Bd) (acc : List Bd), knw (post acc a) a = true
  | .lf _, _ => rfl
  | .nd e w t, acc => by
    rw [knw_nd]
    unfold post
    split
    · assumption
    · exact List.mem_append_right _ (List.mem_singleton.mpr rfl)
theorem post_mem : ∀ (a : Bd) (acc : List Bd) (b : Bd), b ∈ post acc a → b ∈ acc ∨ b.sz ≤ a.sz
  | .lf _, acc, b, h => .inl h
  | .nd e w t, acc, b, h => by
    unfold post at h
    split at h
    · exact .inl h
    · rcases List.mem_append.mp h with h | h
      · rcases post_mem t _ b h with h | h
        · rcases post_mem w acc b h with h | h
          · exact .inl h
          · right; show _ ≤ w.sz + t.sz + 1; omega
        · right; show _ ≤ w.sz + t.sz + 1; omega
      · rw [List.mem_singleton.mp h]
        exact .inr (Nat.le_refl _)
theorem post_new {e : Int} {w t : Bd} {acc : List Bd} (h : Bd.nd e w t ∉ acc) : Bd.nd e w t ∉ post (post acc w) t := by
  intro z
  rcases post_mem t _ _ z with z | z
  · rcases post_mem w _ _ z with z | z
    · exact h z
    · have : w.sz + t.sz + 1 ≤ w.sz := z
      omega
  · have : w.sz + t.sz + 1 ≤ t.sz := z
    omega
theorem post_nd {e : Int} {w t : Bd} {acc : List Bd} (h : Bd.nd e w t ∉ acc) : post acc (.nd e w t) = post (post acc w) t ++ [.nd e w t] := by
  rw [post]
  exact if_neg h
/-- once more behind its sides -/
theorem post_again {e : Int} {w t : Bd} {acc : List Bd} (h : Bd.nd e w t ∉ acc) : post (post (post acc w) t) (.nd e w t) = post acc (.nd e w t) := by
  have k1 : knw (post (post acc w) t) w = true := knw_pre (post_pre t _) (post_self w acc)
  have k2 : knw (post (post acc w) t) t = true := post_self t _
  rw [post_nd (post_new h), post_nd h, post_knw k1, post_knw k2]
theorem post_clo : ∀ (a : Bd) (acc : List Bd), Clo acc → Clo (post acc a)
  | .lf _, _, h => h
  | .nd e w t, acc, h => by
    unfold post
    split
    · exact h
    · have h2 := post_clo t _ (post_clo w acc h)
      have k1 : knw (post (post acc w) t) w = true := knw_pre (post_pre t _) (post_self w acc)
      have k2 : knw (post (post acc w) t) t = true := post_self t _
      intro e' w' t' hm
      rcases List.mem_append.mp hm with hm | hm
      · obtain ⟨g1, g2⟩ := h2 _ _ _ hm
        exact ⟨knw_pre (List.prefix_append _ _) g1, knw_pre (List.prefix_append _ _) g2⟩
      · rw [List.mem_singleton] at hm
        cases hm
        exact ⟨knw_pre (List.prefix_append _ _) k1, knw_pre (List.prefix_append _ _) k2⟩
theorem post_nodup : ∀ (a : Bd) (acc : List Bd), acc.Nodup → (post acc a).Nodup
  | .lf _, _, h => h
  | .nd e w t, acc, h => by
    unfold post
    split
    · exact h
    · rename_i hn
      rw [List.nodup_append]
      refine ⟨post_nodup t _ (post_nodup w acc h), List.nodup_cons.mpr ⟨List.not_mem_nil, List.nodup_nil⟩, fun x hx y hy z => ?_⟩
      rw [List.mem_singleton] at hy
      subst z hy
      exact post_new hn hx
/-- how many turns of the loop -/
def itn : List Bd → Bd → Nat
  | _, .lf _ => 1
  | acc, .nd e w t => if Bd.nd e w t ∈ acc then 1 else if (knw acc w && knw acc t) = true then 2 else 3 + (if knw acc w = true then 0 else itn acc w) + (if knw acc t = true then 0 else itn (post acc w) t)
def itns : List Bd → List Bd → Nat
  | _, [] => 0
  | acc, a :: as => itn acc a + itns (post acc a) as
theorem itn_knw {acc : List Bd} {a : Bd} (h : knw acc a = true) : itn acc a = 1 := by
  cases a with
  | lf b => rfl
  | nd e w t => unfold itn; exact if_pos (knw_nd.mp h)
/-- what is put on the pile -/
def wts (acc : List Bd) (w t : Bd) : List Bd := (if knw acc w = true then [] else [w]) ++ (if knw acc t = true then [] else [t])
theorem wts_nil {acc : List Bd} {w t : Bd} : wts acc w t = [] ↔ knw acc w = true ∧ knw acc t = true := by
  unfold wts
  cases knw acc w <;> cases knw acc t <;> simp
theorem foldl_wts {acc : List Bd} {w t : Bd} : (wts acc w t).foldl post acc = post (post acc w) t := by
  unfold wts
  by_cases h1 : knw acc w = true
  · rw [if_pos h1, post_knw h1]
    by_cases h2 : knw acc t = true
    · rw [if_pos h2, post_knw h2]
      rfl
    · rw [if_neg h2]
      rfl
  · rw [if_neg h1]
    by_cases h2 : knw acc t = true
    · rw [if_pos h2, post_knw (knw_pre (post_pre w acc) h2)]
      rfl
    · rw [if_neg h2]
      rfl
theorem itns_app : ∀ (as bs : List Bd) (acc : List Bd), itns acc (as ++ bs) = itns acc as + itns (as.foldl post acc) bs
  | [], bs, acc => by rw [List.nil_append]; show _ = 0 + _; rw [Nat.zero_add]; rfl
  | a :: as, bs, acc => by
    rw [List.cons_append]
    show itn acc a + itns (post acc a) (as ++ bs) = itn acc a + itns (post acc a) as + _
    rw [itns_app as bs, List.foldl_cons, Nat.add_assoc]
theorem itns_push {acc : List Bd} {e : Int} {w t : Bd} {as : List Bd} (h : Bd.nd e w t ∉ acc) (hw : wts acc w t ≠ []) : itns acc (wts acc w t ++ .nd e w t :: as) + 1 = itns acc (.nd e w t :: as) ∧ (wts acc w t ++ .nd e w t :: as).foldl post acc = (Bd.nd e w t :: as).foldl post acc := by
  have hk : ¬ (knw acc w && knw acc t) = true := fun z => hw (wts_nil.mpr (by rw [Bool.and_eq_true] at z; exact z))
  constructor
  · rw [itns_app, foldl_wts]
    have k1 : knw (post (post acc w) t) w = true := knw_pre (post_pre t _) (post_self w acc)
    have k2 : knw (post (post acc w) t) t = true := post_self t _
    have e1 : itn (post (post acc w) t) (.nd e w t) = 2 := by
      unfold itn
      rw [if_neg (post_new h), k1, k2]
      rfl
    have e2 : itn acc (.nd e w t) = 3 + (if knw acc w = true then 0 else itn acc w) + (if knw acc t = true then 0 else itn (post acc w) t) := by
      rw [itn]
      rw [if_neg h, if_neg hk]
    show itns acc (wts acc w t) + (itn _ _ + itns _ as) + 1 = itn acc _ + itns _ as
    rw [e1, e2, post_again h]
    have e3 : itns acc (wts acc w t) = (if knw acc w = true then 0 else itn acc w) + (if knw acc t = true then 0 else itn (post acc w) t) := by
      unfold wts
      by_cases h1 : knw acc w = true
      · rw [if_pos h1, if_pos h1]
        by_cases h2 : knw acc t = true
        · rw [if_pos h2, if_pos h2]; rfl
        · rw [if_neg h2, if_neg h2, List.nil_append, post_knw h1]
          show itn acc t + 0 = 0 + itn acc t
          omega
      · rw [if_neg h1, if_neg h1]
        by_cases h2 : knw acc t = true
        · rw [if_pos h2, if_pos h2, List.append_nil]
          rfl
        · rw [if_neg h2, if_neg h2]
          show itn acc w + (itn (post acc w) t + 0) = _
          omega
    omega
  · rw [List.foldl_append, foldl_wts, List.foldl_cons, List.foldl_cons, post_again h]
/-- both sides known: it gets its number -/
theorem itns_num {acc : List Bd} {e : Int} {w t : Bd} {as : List Bd} (h : Bd.nd e w t ∉ acc) (k1 : knw acc w = true) (k2 : knw acc t = true) : itns (acc ++ [.nd e w t]) (.nd e w t :: as) + 1 = itns acc (.nd e w t :: as) ∧ (Bd.nd e w t :: as).foldl post (acc ++ [.nd e w t]) = (Bd.nd e w t :: as).foldl post acc := by
  have e0 : post acc (.nd e w t) = acc ++ [.nd e w t] := by rw [post_nd h, post_knw k1, post_knw k2]
  have hm : Bd.nd e w t ∈ acc ++ [.nd e w t] := List.mem_append_right _ (List.mem_singleton.mpr rfl)
  have e1 : post (acc ++ [.nd e w t]) (.nd e w t) = acc ++ [.nd e w t] := post_knw (knw_nd.mpr hm)
  constructor
  · show itn _ _ + itns _ as + 1 = itn _ _ + itns _ as
    rw [e0, e1, itn_knw (knw_nd.mpr hm)]
    have : itn acc (.nd e w t) = 2 := by
      unfold itn
      rw [if_neg h, k1, k2]
      rfl
    omega
  · rw [List.foldl_cons, List.foldl_cons, e0, e1]
/-- the numbers by which nodes tell conditions -/
def nmb (acc : List Bd) : Bd → Nat
  | .lf b => if b = true then 1 else 0
  | a => acc.idxOf a + 2
theorem nmb_pre {acc bcc : List Bd} (h : acc <+: bcc) {a : Bd} (k : knw acc a = true) : nmb bcc a = nmb acc a := by
  cases a with
  | lf b => rfl
  | nd e w t =>
    obtain ⟨r, rfl⟩ := h
    show (acc ++ r).idxOf _ + 2 = acc.idxOf _ + 2
    rw [List.idxOf_append, if_pos (knw_nd.mp k)]

/-! ### the table of a condition -/
def Rel2 (N : Nds) : List Nat → List Bd → Prop
  | [], [] => True
  | c :: cs, a :: as => At N c a ∧ Rel2 N cs as
  | _, _ => False
theorem Rel2.len {N : Nds} : ∀ {cs : List Nat} {as : List Bd}, Rel2 N cs as → cs.length = as.length
  | [], [], _ => rfl
  | [], _ :: _, h => h.elim
  | _ :: _, [], h => h.elim
  | _ :: cs, _ :: as, h => congrArg (· + 1) (Rel2.len h.2)
theorem Rel2.app {N : Nds} : ∀ {cs : List Nat} {as : List Bd} {ds : List Nat} {bs : List Bd}, Rel2 N cs as → Rel2 N ds bs → Rel2 N (cs ++ ds) (as ++ bs)
  | [], [], _, _, _, h => h
  | [], _ :: _, _, _, h, _ => h.elim
  | _ :: _, [], _, _, h, _ => h.elim
  | _ :: cs, _ :: as, _, _, h, g => ⟨h.1, Rel2.app h.2 g⟩
def nbl : Nat → List Nat → List (Key × V)
  | _, [] => []
  | n, c :: cs => (.inl (c : Int), .int (n : Int)) :: nbl (n + 1) cs
/-- the numbers that are told so far -/
def nbs (cs : List Nat) : List (Key × V) := (.inl 0, .int 0) :: (.inl 1, .int 1) :: nbl 2 cs
theorem nbl_len : ∀ (cs : List Nat) (n : Nat), (nbl n cs).length = cs.length
  | [], _ => rfl
  | _ :: cs, n => congrArg (· + 1) (nbl_len cs (n + 1))
theorem nbs_len (cs : List Nat) : (nbs cs).length = cs.length + 2 := by
  unfold nbs
  rw [List.length_cons, List.length_cons, nbl_len]
theorem nbl_snoc : ∀ (cs : List Nat) (n c : Nat), nbl n (cs ++ [c]) = nbl n cs ++ [(.inl (c : Int), .int ((n + cs.length : Nat) : Int))]
  | [], n, c => rfl
  | d :: cs, n, c => by
    show _ :: nbl (n + 1) (cs ++ [c]) = _ :: (nbl (n + 1) cs ++ _)
    rw [nbl_snoc cs (n + 1) c, List.length_cons, show n + 1 + cs.length = n + (cs.length + 1) by omega]
theorem nbs_snoc (cs : List Nat) (c : Nat) : nbs (cs ++ [c]) = nbs cs ++ [(.inl (c : Int), .int ((cs.length + 2 : Nat) : Int))] := by
  unfold nbs
  rw [nbl_snoc, Nat.add_comm 2]
  rfl
theorem key_ne {c d : Nat} (h : c ≠ d) : ¬ (Sum.inl (c : Int) : Key) = Sum.inl (d : Int) := fun z => h (by
  injection z with z
  omega)
theorem nbl_val {N : Nds} (hN : N.Nodup) {c : Nat} {a : Bd} (hA : At N c a) : ∀ {cs : List Nat} {as : List Bd} {n : Nat}, Rel2 N cs as → valV (nbl n cs) (.inl (c : Int)) = if a ∈ as then some (.int ((as.idxOf a + n : Nat) : Int)) else none
  | [], [], n, _ => by
    rw [if_neg List.not_mem_nil]
    rfl
  | [], _ :: _, _, h => h.elim
  | _ :: _, [], _, h => h.elim
  | d :: cs, b :: as, n, h => by
    by_cases e : d = c
    · subst e
      have eb := h.1.fn hA
      subst eb
      rw [if_pos List.mem_cons_self, List.idxOf_cons_self, Nat.zero_add]
      exact valV_pos rfl
    · have eb : b ≠ a := fun z => e (by subst z; exact h.1.inj hN hA)
      show valV ((.inl (d : Int), .int (n : Int)) :: nbl (n + 1) cs) _ = _
      rw [valV_neg (key_ne e), nbl_val hN hA h.2]
      by_cases ha : a ∈ as
      · rw [if_pos ha, if_pos (List.mem_cons_of_mem _ ha), show (b :: as).idxOf a = as.idxOf a + 1 by rw [List.idxOf_cons, beq_false_of_ne eb]; rfl]
        exact congrArg (fun z => some (V.int z)) (by omega)
      · rw [if_neg ha, if_neg (fun z => by
          rcases List.mem_cons.mp z with z | z
          · exact eb z.symm
          · exact ha z)]
theorem nbs_val {N : Nds} (hN : N.Nodup) {c : Nat} {a : Bd} (hA : At N c a) {cs : List Nat} {as : List Bd} (h : Rel2 N cs as) : valV (nbs cs) (.inl (c : Int)) = if knw as a = true then some (.int ((nmb as a : Nat) : Int)) else none := by
  unfold nbs
  cases hA with
  | f => exact valV_pos (p := ((.inl 0 : Key), V.int 0)) rfl
  | t => exact (valV_neg (p := ((.inl 0 : Key), V.int 0)) (by intro z; cases z)).trans (valV_pos (p := ((.inl 1 : Key), V.int 1)) rfl)
  | @nd k e w t A B hk ha hb =>
    have e1 : ¬ (Sum.inl 0 : Key) = Sum.inl ((k + 2 : Nat) : Int) := fun z => by
      injection z with z
      omega
    have e2 : ¬ (Sum.inl 1 : Key) = Sum.inl ((k + 2 : Nat) : Int) := fun z => by
      injection z with z
      omega
    rw [valV_neg (p := ((.inl 0 : Key), V.int 0)) e1, valV_neg (p := ((.inl 1 : Key), V.int 1)) e2, nbl_val hN (.nd hk ha hb) h]
    by_cases hm : Bd.nd e A B ∈ as
    · rw [if_pos hm, if_pos (knw_nd.mpr hm)]
      rfl
    · rw [if_neg hm, if_neg (fun z => hm (knw_nd.mp z))]
def rowD (acc : List Bd) : Bd → PyData
  | .nd e w t => .tuple [.int e, .int ((nmb acc w : Nat) : Int), .int ((nmb acc t : Nat) : Int)]
  | .lf _ => .none
theorem row_pre {acc bcc : List Bd} (hc : Clo acc) (h : acc <+: bcc) {a : Bd} (ha : a ∈ acc) : rowD bcc a = rowD acc a := by
  cases a with
  | lf b => rfl
  | nd e w t =>
    obtain ⟨k1, k2⟩ := hc _ _ _ ha
    show PyData.tuple _ = PyData.tuple _
    rw [nmb_pre h k1, nmb_pre h k2]
theorem rows_snoc {acc : List Bd} (hc : Clo acc) (a : Bd) : (acc ++ [a]).map (rowD (acc ++ [a])) = acc.map (rowD acc) ++ [rowD (acc ++ [a]) a] := by
  rw [List.map_append]
  refine congrArg (· ++ _) ?_
  exact List.map_congr_left fun b hb => row_pre hc (List.prefix_append _ _) hb
theorem rows_only (acc bcc : List Bd) : tupOnlys (bcc.map (rowD acc)) = true := by
  induction bcc with
  | nil => rfl
  | cons a bcc ih =>
    rw [List.map_cons]
    unfold tupOnlys
    rw [ih]
    cases a <;> rfl
theorem foldl_pre : ∀ (as acc : List Bd), acc <+: as.foldl post acc
  | [], acc => List.prefix_refl acc
  | a :: as, acc => (post_pre a acc).trans (foldl_pre as _)
theorem itns_len : ∀ (as acc : List Bd), as.length ≤ itns acc as
  | [], _ => Nat.le_refl _
  | a :: as, acc => by
    have h1 := itns_len as (post acc a)
    have h2 : 1 ≤ itn acc a := by
      cases a with
      | lf b => exact Nat.le_refl _
      | nd e w t =>
        unfold itn
        split
        · exact Nat.le_refl _
        · split <;> omega
    show as.length + 1 ≤ itn acc a + itns _ as
    omega
theorem itn_le : ∀ (a : Bd) (acc : List Bd), itn acc a ≤ 4 * a.sz + 1
  | .lf _, _ => Nat.le_refl _
  | .nd e w t, acc => by
    have h1 := itn_le w acc
    have h2 := itn_le t (post acc w)
    unfold itn
    show _ ≤ 4 * (w.sz + t.sz + 1) + 1
    split
    · omega
    · split
      · omega
      · split <;> split <;> omega
theorem itns_le : ∀ (as acc : List Bd) (b : Nat), (∀ a ∈ as, a.sz ≤ b) → itns acc as ≤ as.length * (4 * b + 1)
  | [], _, _, _ => Nat.zero_le _
  | a :: as, acc, b, h => by
    have h1 := itn_le a acc
    have h2 := itns_le as (post acc a) b fun x hx => h x (List.mem_cons_of_mem _ hx)
    have h3 := h a List.mem_cons_self
    show itn acc a + itns _ as ≤ (as.length + 1) * _
    rw [Nat.succ_mul]
    omega
theorem post_len : ∀ (a : Bd) (acc : List Bd), (post acc a).length ≤ acc.length + a.sz
  | .lf _, _ => Nat.le_refl _
  | .nd e w t, acc => by
    have h1 := post_len w acc
    have h2 := post_len t (post acc w)
    unfold post
    show _ ≤ acc.length + (w.sz + t.sz + 1)
    split
    · omega
    · rw [List.length_append]
      show _ + 1 ≤ _
      omega
theorem posts_len : ∀ (as acc : List Bd) (b : Nat), (∀ a ∈ as, a.sz ≤ b) → (as.foldl post acc).length ≤ acc.length + as.length * b
  | [], acc, _, _ => by simp
  | a :: as, acc, b, h => by
    have h1 := post_len a acc
    have h2 := posts_len as (post acc a) b fun x hx => h x (List.mem_cons_of_mem _ hx)
    have h3 := h a List.mem_cons_self
    rw [List.foldl_cons, List.length_cons, Nat.succ_mul]
    omega
theorem wf_sz {es : List Int} {a : Bd} (h : Wf es a) : a.sz + 1 ≤ 2 ^ es.length := by
  induction h with
  | lf => exact Nat.one_le_two_pow
  | @here x es w t _ _ _ iw it =>
    show w.sz + t.sz + 1 + 1 ≤ 2 ^ (es.length + 1)
    rw [Nat.pow_succ]
    omega
  | @skip x es a _ ih =>
    show _ ≤ 2 ^ (es.length + 1)
    rw [Nat.pow_succ]
    omega
def natsV (cs : List Nat) : List V := cs.map fun c => .int ((c : Nat) : Int)
theorem post_nds : ∀ (a : Bd) (acc : List Bd), (∀ b ∈ acc, ∃ e w t, b = Bd.nd e w t) → ∀ b ∈ post acc a, ∃ e w t, b = Bd.nd e w t
  | .lf _, _, h => h
  | .nd e w t, acc, h => by
    unfold post
    split
    · exact h
    · intro b hb
      rcases List.mem_append.mp hb with hb | hb
      · exact post_nds t _ (post_nds w acc h) b hb
      · rw [List.mem_singleton.mp hb]
        exact ⟨_, _, _, rfl⟩
theorem Rel2.get {N : Nds} : ∀ {cs : List Nat} {as : List Bd} {i : Nat} {c : Nat} {a : Bd}, Rel2 N cs as → cs[i]? = some c → as[i]? = some a → At N c a
  | [], _, _, _, _, _, h, _ => by simp at h
  | _ :: _, [], _, _, _, h, _, _ => h.elim
  | c :: cs, a :: as, 0, c', a', h, h1, h2 => by
    have e1 : c = c' := Option.some.inj h1
    have e2 : a = a' := Option.some.inj h2
    subst e1 e2
    exact h.1
  | c :: cs, a :: as, i + 1, c', a', h, h1, h2 => Rel2.get h.2 (by simpa using h1) (by simpa using h2)
/-- what listed leaves: the nodes and the numbers -/
def sp_listed (C : Addr) (K : PySem.W.Frag) : Sp := fun vs H Q _ => ∃ s N es L a cs as, vs = [.ref s.p, .ref a] ∧ Sto C K H s N es L ∧ SqL K H a (natsV cs) ∧ Rel2 N cs as ∧ cs.length ≤ 100 ∧ (∀ b ∈ as, b.sz ≤ 1000) ∧
  ∀ H' q nl nu xs ks, Same H H' → H' q = some (.tup [.ref nl, .ref nu]) → H nl = none → H' nl = some (.lst xs) → H' nu = some (.dK (nbs ks)) → Rel2 N ks (as.reverse.foldl post []) → DpAll K H' xs ((as.reverse.foldl post []).map (rowD (as.reverse.foldl post []))) → Q (.ref q) H'
def sp_table (C : Addr) (K : PySem.W.Frag) : Sp := fun vs H Q _ => ∃ s N es L c a, vs = [.ref s.p, .int ((c : Nat) : Int)] ∧ Sto C K H s N es L ∧ At N c a ∧ a.sz ≤ 1000 ∧
  ∀ H' q nl xs, Same H H' → H' q = some (.tup [.ref nl, .int ((nmb (post [] a) a : Nat) : Int)]) → H nl = none → H' nl = some (.lst xs) → DpAll K H' xs ((post [] a).map (rowD (post [] a))) → Q (.ref q) H'
section
variable {P : Program} {w : World} {K : PySem.W.Frag} {mg : Str → Option Value} {base : Heap}
theorem Rel2.rev {N : Nds} : ∀ {cs : List Nat} {as : List Bd}, Rel2 N cs as → Rel2 N cs.reverse as.reverse
  | [], [], h => h
  | [], _ :: _, h => h.elim
  | _ :: _, [], h => h.elim
  | c :: cs, a :: as, h => by
    rw [List.reverse_cons, List.reverse_cons]
    exact Rel2.app (Rel2.rev h.2) ⟨h.1, trivial⟩
/-- the state of listed's loop: a pile, top first; the numbers and nodes so far -/
def LiW (K : PySem.W.Frag) (H : Hp) (N : Nds) (s : SA) (a nl nu lf : Addr) (fin : List Bd) (m : Nat) (σ : L2.St) (Hi : Hp) : Prop :=
  ∃ ks acc sc sT xs z5 z6 z7 z8 z9 z10, m = itns acc sT ∧ itns acc sT ≤ 500000 ∧ σ = [some (.ref s.p), some (.ref a), some (.ref nl), some (.ref nu), some (.ref lf), z5, z6, z7, z8, z9, z10] ∧ Same H Hi ∧ Hi nl = some (.lst xs) ∧ DpAll K Hi xs (acc.map (rowD acc)) ∧ Hi nu = some (.dK (nbs ks)) ∧
    Hi lf = some (.lst (natsV sc.reverse)) ∧ Rel2 N ks acc ∧ Rel2 N sc sT ∧ Clo acc ∧ sT.foldl post acc = fin
theorem natsV_app (as bs : List Nat) : natsV (as ++ bs) = natsV as ++ natsV bs := by unfold natsV; rw [List.map_append]
theorem mk_nbs : mergeK ([] : List (Key × V)) [(.inl 0, .int 0), (.inl 1, .int 1)] = nbs [] := by rfl
set_option maxHeartbeats 4000000 in
theorem ok_listed {f C : Addr} {fd : FuncData} (F : Fun K "listed" "Diagrams.listed" s_Diagrams_listed f fd) (M : Mg mg) (G : DgC K C mg) (c_Diagrams_node_of : ClM P w K mg base 1 C "node_of" (sp_nof C K)) : FnOk P w K mg base CX0 2 f fd ["self", "conditions"] (sp_listed C K) := by
  refine F.ok sc_Diagrams_listed (fun vs H Q E h => ?_) (fun cdv A outer s H vs Q E hr h => ?_)
  · obtain ⟨s, N, es, L, a, cs, as, rfl, _⟩ := h
    rfl
  · obtain ⟨s, N, es, L, a, cs, as, rfl, st, ha, rel, hl, hsz, q⟩ := h
    have hnd := st.nd
    generalize hfin : as.reverse.foldl post [] = fin at q
    have lfin : fin.length ≤ 100000 := by
      have h1 := posts_len as.reverse [] 1000 fun b hb => hsz b (List.mem_reverse.mp hb)
      rw [hfin, List.length_reverse, ← rel.len] at h1
      have h2 : ([] : List Bd).length = 0 := rfl
      have h3 := Nat.mul_le_mul_right 1000 hl
      omega
    have sl : (1000000 : Nat) < sizeLine := by decide
    refine ⟨_, (pss_cons (ps_set (i := 2) sc_Diagrams_listed.nd rfl (.inl rfl) (pe_lst pa_nil))
      (pss_cons (ps_set (i := 3) sc_Diagrams_listed.nd rfl (.inr rfl) (pe_disp (pps_cons (C8.pe_gc (by rfl) G.NEVER) pe_int (pps_cons (C8.pe_gc (by rfl) G.ALWAYS) pe_int pps_nil)) (by rfl) (by rfl) (fun z => by cases z) (by decide)))
      (pss_cons (ps_set (i := 4) sc_Diagrams_listed.nd rfl (.inl rfl) (pe_callTy (listK K) (by rfl) M.list (by decide +kernel) (pa_cons (pv 1) pa_nil)))
      (pss_cons (ps_while PassesOwn.never (pt_truthK K (pv 4) (by intro _; rfl)) (pss_cons (ps_set (i := 5) sc_Diagrams_listed.nd rfl (.inl rfl) (pe_ix (ix_listK K) (pv 4) (pe_un un_neg pe_int) (fun _ _ => rfl)))
      (pss_cons (ps_if (pt_cmp (pc_din (hu_of hr) (pv 5) (pv 3))) (pss_cons (ps_expr (pe_bm0 PySem.F.plainAttrs_list PySem.F.slot_list_pop PySem.F.type_list_pop mt_pop (pv 4)))
      (pss_one ps_continue)) pss_nil)
      (pss_cons (ps_asg (pe_mt c_Diagrams_node_of hr (by first | decide | omega) (pv 0) (pa_cons (pv 5) pa_nil)) (pg_tup (by rfl) (pgs_cons (pg_name (i := 6) sc_Diagrams_listed.nd rfl (.inl rfl)) (pgs_cons (pg_name (i := 7) sc_Diagrams_listed.nd rfl (.inl rfl)) (pgs_cons (pg_name (i := 8) sc_Diagrams_listed.nd rfl (.inl rfl)) pgs_nil)))))
      (pss_cons (ps_setLc (i := 9) (own := [("part", 10)]) (g := gName 10) rfl sc_Diagrams_listed.nd rfl rfl (sw_true rfl rfl rfl (by decide +kernel)) (pi_tup (pe_tup (pa_cons (pv 8) (pa_cons (pv 7) pa_nil)))) (blkOk_by (N := N_Diagrams_listed) (sc := defScope s_Diagrams_listed) (by decide +kernel)) (fun _ _ _ _ _ => (pg_name (i := 10) sc_Diagrams_listed.nd rfl (.inl rfl))) (fun _ _ _ _ _ => (pts_one (pt_cmp (pc_dnotin (hu_of hr) (pv 10) (pv 3))))) (fun _ _ _ _ _ => (pv 10)))
      (pss_cons (ps_expr (pe_bmK K PySem.F.plainAttrs_list PySem.F.slot_list_extend PySem.F.type_list_extend mt_extend (pv 4) (pa_cons (pv 9) pa_nil)))
      (pss_one (ps_if (pt_not (pt_truthK K (pv 9) (by intro _; rfl))) (pss_cons (ps_dput (hu_of hr) (pv 3) (pv 5) (pe_callB call_lenD (by rfl) M.len PySem.boot_len (pa_cons (pv 3) pa_nil)) rfl)
      (pss_one (ps_expr (pe_bmK K PySem.F.plainAttrs_list PySem.F.slot_list_append PySem.F.type_list_append mt_append (pv 2) (pa_cons (pe_tup (pa_cons (pv 6) (pa_cons (pe_dget (hu_of hr) (pv 3) (pv 7) (fun _ _ => rfl)) (pa_cons (pe_dget (hu_of hr) (pv 3) (pv 8) (fun _ _ => rfl)) pa_nil)))) pa_nil))))) pss_nil))))))))
      (pss_one (ps_ret (pe_tup (pa_cons (pv 2) (pa_cons (pv 3) pa_nil))))))))), ?_⟩
    refine ⟨by show 0 ≤ sizeLine; decide, fun nl nnl => ?_⟩
    have s1 := same_upd nnl (o := .lst [])
    have e1 : (upd H nl (.lst [])) nl = some (.lst []) := upd_same
    generalize upd H nl (.lst []) = H1 at s1 e1
    intro nu nnu
    refine ⟨upd_same, [(.inl 0, .int 0), (.inl 1, .int 1)], rfl, by decide, ?_⟩
    rw [mk_nbs, upd_upd]
    have s2 := same_upd nnu (o := .dK (nbs []))
    have e2 : (upd H1 nu (.dK (nbs []))) nu = some (.dK (nbs [])) := upd_same
    generalize upd H1 nu (.dK (nbs [])) = H2 at s2 e2
    refine ⟨_, rfl, a, _, rfl, .inl ((s1.trans s2).seq ha), fun lf nlf => ?_⟩
    have s3 := same_upd nlf (o := .lst (natsV cs))
    have e3 : (upd H2 lf (.lst (natsV cs))) lf = some (.lst (natsV cs)) := upd_same
    have nlfl : lf ≠ nl := (ne_of_none (s2 _ _ e1) nlf).symm
    generalize upd H2 lf (.lst (natsV cs)) = H3 at s3 e3
    have nnu0 := s1.free nnu
    have nlf0 := (s1.trans s2).free nlf
    have fresh : ∀ {Hi : Hp} {p : Addr} {o : HO}, Same H Hi → H p = none → Same H (upd Hi p o) := fun sm np b o e => by
      rw [upd_ne (ne_of_none e np)]
      exact sm b o e
    refine ⟨LiW K H N s a nl nu lf fin, ⟨_, [], [], cs.reverse, as.reverse, [], none, none, none, none, none, none, rfl, ?_, rfl, (s1.trans s2).trans s3, (s2.trans s3) _ _ e1, .nil, s3 _ _ e2, by rw [List.reverse_reverse]; exact e3, trivial, rel.rev, (by intro _ _ _ h; cases h), hfin⟩, ?_⟩
    · have h1 := itns_le as.reverse [] 1000 fun b hb => hsz b (List.mem_reverse.mp hb)
      rw [List.length_reverse, ← rel.len] at h1
      have h3 := Nat.mul_le_mul_right (4 * 1000 + 1) hl
      omega
    rintro m σ Hi ⟨ks, acc, sc, sT, xs, z5, z6, z7, z8, z9, z10, rfl, hm, rfl, si, enl, dxs, enu, elf, rk, rs, hclo, hf⟩
    have nnlu : nl ≠ nu := ne_of enl enu (fun z => nomatch z)
    have nlfu : lf ≠ nu := ne_of elf enu (fun z => nomatch z)
    have lacc : acc.length ≤ 100000 := by
      have := (foldl_pre sT acc).length_le
      rw [hf] at this
      omega
    have lks : ks.length ≤ 100000 := by rw [rk.len]; exact lacc
    have lxs : xs.length = acc.length := by rw [DpAll.len dxs, List.length_map]
    refine ⟨_, rfl, _, .inl ⟨_, .of elf, rfl⟩, ?_⟩
    cases sc with
    | nil =>
      cases sT with
      | cons b sT => exact rs.elim
      | nil =>
        refine iteF ?_
        have hf : acc = fin := hf
        refine ⟨_, rfl, _, rfl, by show 2 ≤ sizeLine; decide, fun q' nq' => ?_⟩
        subst hf
        exact q _ q' nl nu xs ks (si.trans (same_upd nq')) upd_same nnl (same_upd nq' _ _ enl) (same_upd nq' _ _ enu) rk (DpAll.ext (same_upd nq') _ _ dxs)
    | cons c sc =>
      cases sT with
      | nil => exact rs.elim
      | cons b sT =>
        rw [List.reverse_cons, natsV_app] at elf ⊢
        have hne : (natsV sc.reverse ++ natsV [c]).isEmpty = false := by
          cases natsV sc.reverse <;> rfl
        rw [hne]
        refine iteT ⟨fun σ' H' => ∃ m', m' < itns acc (b :: sT) ∧ LiW K H N s a nl nu lf fin m' σ' H', fun _ _ h => h, ?_⟩
        have hb := rs.1
        have sti := st.ext si
        refine ⟨_, rfl, _, rfl, lf, _, _, .int ((c : Nat) : Int), rfl, rfl, .of elf, atI_last _ _, ?_⟩
        refine ⟨_, rfl, _, rfl, nu, _, rfl, DGet.k (k := .inl (c : Int)) enu, _, rfl, ?_⟩
        rw [nbs_val hnd hb rk]
        by_cases hk : knw acc b = true
        · -- known: it goes off the pile
          rw [if_pos hk]
          refine iteT ⟨_, rfl, .inl ⟨rfl, _, .inl (.inl elf)⟩, lf, _, .int ((c : Nat) : Int), rfl, rfl, elf, ?_, ?_⟩
          · rw [List.length_append]
            show (natsV sc.reverse ++ [V.int ((c : Nat) : Int)])[(natsV sc.reverse).length + 1 - 1]? = _
            rw [Nat.add_sub_cancel, List.getElem?_append_right (Nat.le_refl _), Nat.sub_self]
            rfl
          · have ed : (natsV sc.reverse ++ natsV [c]).dropLast = natsV sc.reverse := by
              show (natsV sc.reverse ++ [V.int ((c : Nat) : Int)]).dropLast = _
              rw [List.dropLast_concat]
            rw [ed]
            have ei := itn_knw hk
            have ep := post_knw hk
            refine ⟨itns acc sT, ?_, ks, acc, sc, sT, xs, _, _, _, _, _, _, rfl, ?_, rfl, fresh si nlf0, by rw [upd_ne nlfl.symm]; exact enl, DpAll.away elf _ _ (rows_only acc acc) dxs, by rw [upd_ne nlfu.symm]; exact enu, upd_same, rk, rs.2, hclo, ?_⟩
            · show _ < itn acc b + itns (post acc b) sT
              rw [ei, ep]
              omega
            · have : itns acc (b :: sT) = itn acc b + itns (post acc b) sT := rfl
              rw [this, ep] at hm
              omega
            · rw [List.foldl_cons, ep] at hf
              exact hf
        · rw [if_neg hk]
          refine iteF ?_
          have h2 : 2 ≤ c := by
            cases hb with
            | f => exact absurd rfl hk
            | t => exact absurd rfl hk
            | nd _ _ _ => omega
          obtain ⟨e1, w1, t1, A1, B1, hn, hw1, ht1, rfl⟩ := hb.ge h2
          have hnm : Bd.nd e1 A1 B1 ∉ acc := fun z => hk (knw_nd.mpr z)
          refine ⟨_, rfl, sti.go (by decide +kernel) (by decide +kernel) (by decide +kernel) ⟨_, rfl, ?_⟩⟩
          refine ⟨s, N, es, L, c, _, rfl, sti, h2, hn, fun qa hq => ?_⟩
          refine ⟨qa, _, rfl, hq, rfl, _, _, rfl, _, _, rfl, _, _, rfl, rfl, ?_⟩
          -- those that wait
          refine ⟨_, rfl, _, rfl, by show 2 ≤ sizeLine; decide, fun tp ntp => ?_⟩
          have s4 := same_upd ntp (o := .tup [.int ((t1 : Nat) : Int), .int ((w1 : Nat) : Int)])
          have e4 : (upd Hi tp (.tup [.int ((t1 : Nat) : Int), .int ((w1 : Nat) : Int)])) tp = some (.tup (([(t1, B1), (w1, A1)] : List (Nat × Bd)).map fun p => .int ((p.1 : Nat) : Int))) := upd_same
          generalize upd Hi tp (.tup [.int ((t1 : Nat) : Int), .int ((w1 : Nat) : Int)]) = H4 at s4 e4
          refine ⟨tp, rfl, ⟨_, .of e4⟩, fun D nD => ?_⟩
          refine lc_tup (K := K) (a := tp) (xs := ([(t1, B1), (w1, A1)] : List (Nat × Bd)).map fun p => .int ((p.1 : Nat) : Int)) (fun i Hj => Same H4 Hj ∧ Hj D = some (.lst (natsV (((([(t1, B1), (w1, A1)] : List (Nat × Bd)).take i).filter fun p => !knw acc p.2).map (·.1))))) ⟨same_upd nD, upd_same⟩ (fun i Hj _ hp => .of (hp.1 _ _ e4)) (fun i x Hj hx hp => ?_) (fun Hm hp => ?_)
          · obtain ⟨sj, eD⟩ := hp
            rw [List.getElem?_map] at hx
            obtain ⟨p, hpv, rfl⟩ := Option.map_eq_some_iff.mp hx
            have hp2 : At N p.1 p.2 := by
              have := List.mem_of_getElem? hpv
              simp only [List.mem_cons, List.not_mem_nil, or_false] at this
              rcases this with rfl | rfl
              · exact ht1
              · exact hw1
            refine ⟨rfl, ?_⟩
            refine ⟨_, rfl, _, rfl, nu, _, rfl, DGet.k (k := .inl (p.1 : Int)) ((s4.trans sj) _ _ enu), _, rfl, ?_⟩
            rw [nbs_val hnd hp2 rk]
            have etk : (([(t1, B1), (w1, A1)] : List (Nat × Bd)).take (i + 1)).filter (fun p => !knw acc p.2) = (([(t1, B1), (w1, A1)] : List (Nat × Bd)).take i).filter (fun p => !knw acc p.2) ++ (if knw acc p.2 = true then [] else [p]) := by
              rw [List.take_add_one, hpv, List.filter_append]
              congr 1
              show List.filter _ [p] = _
              rw [List.filter_cons]
              cases knw acc p.2 <;> rfl
            by_cases hkp : knw acc p.2 = true
            · rw [if_pos hkp] at etk ⊢
              rw [List.append_nil] at etk
              refine iteF ⟨sj, ?_⟩
              rw [etk]
              exact eD
            · rw [if_neg hkp] at etk ⊢
              refine iteT ⟨_, rfl, _, eD, ?_, fun z o hz => ?_, ?_⟩
              · unfold natsV
                rw [List.length_map, List.length_map]
                have h1 := List.length_filter_le (fun p : Nat × Bd => !knw acc p.2) (([(t1, B1), (w1, A1)] : List (Nat × Bd)).take i)
                have h2 : (([(t1, B1), (w1, A1)] : List (Nat × Bd)).take i).length ≤ 2 := by
                  rw [List.length_take]
                  exact Nat.min_le_right _ _
                omega
              · rw [upd_ne (ne_of_none hz nD)]
                exact sj _ _ hz
              · rw [upd_same, etk, List.map_append, natsV_app]
                rfl
          · obtain ⟨sm, eD⟩ := hp
            have s4m := s4.trans sm
            have efl : (((([(t1, B1), (w1, A1)] : List (Nat × Bd)).take ((([(t1, B1), (w1, A1)] : List (Nat × Bd)).map fun p => (V.int ((p.1 : Nat) : Int))).length)).filter fun p => !knw acc p.2).map (·.1)) = ((if knw acc A1 = true then [] else [w1]) ++ (if knw acc B1 = true then [] else [t1])).reverse := by
              show (List.filter (fun p : Nat × Bd => !knw acc p.2) [(t1, B1), (w1, A1)]).map (·.1) = _
              rw [List.filter_cons, List.filter_cons]
              cases knw acc A1 <;> cases knw acc B1 <;> rfl
            rw [efl] at eD
            have rw2 : Rel2 N ((if knw acc A1 = true then [] else [w1]) ++ (if knw acc B1 = true then [] else [t1])) (wts acc A1 B1) := by
              unfold wts
              refine Rel2.app ?_ ?_
              · cases knw acc A1
                · exact ⟨hw1, trivial⟩
                · exact trivial
              · cases knw acc B1
                · exact ⟨ht1, trivial⟩
                · exact trivial
            have lwt : ((if knw acc A1 = true then [] else [w1]) ++ (if knw acc B1 = true then [] else [t1])).length ≤ 2 := by
              cases knw acc A1 <;> cases knw acc B1 <;> simp
            generalize ((if knw acc A1 = true then [] else [w1]) ++ (if knw acc B1 = true then [] else [t1])) = wt at eD rw2 lwt
            have elf4 := s4m _ _ elf
            have enl4 := s4m _ _ enl
            have enu4 := s4m _ _ enu
            have dx4 := DpAll.ext s4m _ _ dxs
            have nDlf : D ≠ lf := (ne_of_none (s4 _ _ elf) nD).symm
            have nDnl : D ≠ nl := (ne_of_none (s4 _ _ enl) nD).symm
            have lsc := itns_len (Bd.nd e1 A1 B1 :: sT) acc
            have lsc2 : sc.length = sT.length := rs.2.len
            refine ⟨_, rfl, .inl ⟨rfl, _, .inl (.inl elf4)⟩, _, rfl, lf, D, _, _, rfl, rfl, elf4, eD, ?_, ?_⟩
            · unfold natsV
              rw [List.length_append, List.length_map, List.length_map, List.length_map, List.length_reverse, List.length_reverse]
              rw [List.length_cons] at lsc
              show sc.length + 1 + wt.length ≤ _
              omega
            have elf5 : (upd Hm lf (.lst (natsV sc.reverse ++ natsV [c] ++ natsV wt.reverse))) lf = some (.lst (natsV (wt ++ c :: sc).reverse)) := by
              rw [upd_same, List.reverse_append, List.reverse_cons, natsV_app, natsV_app]
            have enl5 : (upd Hm lf (.lst (natsV sc.reverse ++ natsV [c] ++ natsV wt.reverse))) nl = some (.lst xs) := by rw [upd_ne nlfl.symm]; exact enl4
            have enu5 : (upd Hm lf (.lst (natsV sc.reverse ++ natsV [c] ++ natsV wt.reverse))) nu = some (.dK (nbs ks)) := by rw [upd_ne nlfu.symm]; exact enu4
            have eD5 : (upd Hm lf (.lst (natsV sc.reverse ++ natsV [c] ++ natsV wt.reverse))) D = some (.lst (natsV wt.reverse)) := by rw [upd_ne nDlf]; exact eD
            have dx5 : DpAll K (upd Hm lf (.lst (natsV sc.reverse ++ natsV [c] ++ natsV wt.reverse))) xs (acc.map (rowD acc)) := DpAll.away elf4 _ _ (rows_only acc acc) dx4
            have s5 : Same H (upd Hm lf (.lst (natsV sc.reverse ++ natsV [c] ++ natsV wt.reverse))) := fresh (si.trans s4m) nlf0
            generalize upd Hm lf (.lst (natsV sc.reverse ++ natsV [c] ++ natsV wt.reverse)) = H5 at elf5 enl5 enu5 eD5 dx5 s5
            refine ⟨_, rfl, _, .inl ⟨_, .of eD5, rfl⟩, ?_⟩
            by_cases hwn : wts acc A1 B1 = []
            · -- both sides known
              have hwt : wt = [] := by
                rw [hwn] at rw2
                cases wt with
                | nil => rfl
                | cons _ _ => exact rw2.elim
              subst hwt
              obtain ⟨k1, k2⟩ := wts_nil.mp hwn
              show if (!!true) = true then _ else _
              refine iteT ?_
              refine ⟨_, rfl, nu, _, rfl, enu5, _, rfl, _, rfl, nu, _, rfl, DPut.k (k := .inl (c : Int)) enu5 (by rw [nbs_len]; omega), ?_⟩
              have hnone : valV (nbs ks) (.inl (c : Int)) = none := by
                rw [nbs_val hnd hb rk, if_neg hk]
              rw [putK_new _ hnone, nbs_len, ← nbs_snoc]
              have enl6 : (upd H5 nu (.dK (nbs (ks ++ [c])))) nl = some (.lst xs) := by rw [upd_ne nnlu]; exact enl5
              have elf6 : (upd H5 nu (.dK (nbs (ks ++ [c])))) lf = some (.lst (natsV (c :: sc).reverse)) := by rw [upd_ne nlfu]; exact elf5
              have enu6 : (upd H5 nu (.dK (nbs (ks ++ [c])))) nu = some (.dK (nbs (ks ++ [c]))) := upd_same
              have dx6 : DpAll K (upd H5 nu (.dK (nbs (ks ++ [c])))) xs (acc.map (rowD acc)) := DpAll.tsn (fun b o ho hb => by
                rw [upd_ne]
                · exact hb
                · rintro rfl
                  rw [enu5] at hb
                  rcases ho with ⟨ys, rfl⟩ | ⟨q, u, rfl⟩ <;> cases hb) _ _ (rows_only acc acc) dx5
              have s6 : Same H (upd H5 nu (.dK (nbs (ks ++ [c])))) := fresh s5 nnu0
              generalize upd H5 nu (.dK (nbs (ks ++ [c]))) = H6 at enl6 elf6 enu6 dx6 s6
              have rk6 : Rel2 N (ks ++ [c]) (acc ++ [Bd.nd e1 A1 B1]) := rk.app ⟨hb, trivial⟩
              have pre := List.prefix_append acc [Bd.nd e1 A1 B1]
              have getv : ∀ (x : Nat) (X : Bd), At N x X → knw acc X = true → DGet H6 nu (.int ((x : Nat) : Int)) (some (.int ((nmb (acc ++ [Bd.nd e1 A1 B1]) X : Nat) : Int))) := fun x X hX kX => by
                have := DGet.k (k := .inl (x : Int)) enu6
                rw [nbs_val hnd hX rk6, if_pos (knw_pre pre kX)] at this
                exact this
              refine ⟨_, rfl, .inl ⟨rfl, _, .inl (.inl enl6)⟩, ?_⟩
              refine ⟨_, rfl, _, rfl, _, rfl, nu, _, rfl, getv w1 A1 hw1 k1, _, rfl, _, rfl, nu, _, rfl, getv t1 B1 ht1 k2, by show 3 ≤ sizeLine; decide, fun tq ntq => ?_⟩
              have s7 := same_upd ntq (o := .tup [.int e1, .int ((nmb (acc ++ [Bd.nd e1 A1 B1]) A1 : Nat) : Int), .int ((nmb (acc ++ [Bd.nd e1 A1 B1]) B1 : Nat) : Int)])
              have d7 : Dp K (upd H6 tq (.tup [.int e1, .int ((nmb (acc ++ [Bd.nd e1 A1 B1]) A1 : Nat) : Int), .int ((nmb (acc ++ [Bd.nd e1 A1 B1]) B1 : Nat) : Int)])) (.ref tq) (rowD (acc ++ [Bd.nd e1 A1 B1]) (Bd.nd e1 A1 B1)) := .tup (.of upd_same) (.cons (.int _) (.cons (.int _) (.cons (.int _) .nil)))
              generalize upd H6 tq (.tup [.int e1, .int ((nmb (acc ++ [Bd.nd e1 A1 B1]) A1 : Nat) : Int), .int ((nmb (acc ++ [Bd.nd e1 A1 B1]) B1 : Nat) : Int)]) = H7 at s7 d7
              have enl7 := s7 _ _ enl6
              refine ⟨nl, _, _, rfl, rfl, enl7, by omega, ?_⟩
              obtain ⟨j1, j2⟩ := itns_num (as := sT) hnm k1 k2
              refine ⟨itns (acc ++ [Bd.nd e1 A1 B1]) (Bd.nd e1 A1 B1 :: sT), by omega, ks ++ [c], acc ++ [Bd.nd e1 A1 B1], c :: sc, Bd.nd e1 A1 B1 :: sT, xs ++ [.ref tq], _, _, _, _, _, _, rfl, by omega, rfl, fresh (s6.trans s7) nnl, upd_same, ?_, by rw [upd_ne nnlu.symm]; exact s7 _ _ enu6, by rw [upd_ne nlfl]; exact s7 _ _ elf6, rk6, rs, ?_, ?_⟩
              · rw [rows_snoc hclo]
                exact DpAll.snoc (DpAll.away enl7 _ _ (rows_only acc acc) (DpAll.ext s7 _ _ dx6)) (Dp.away enl7 _ _ rfl d7)
              · have := post_clo (Bd.nd e1 A1 B1) acc hclo
                rw [post_nd hnm, post_knw k1, post_knw k2] at this
                exact this
              · rw [j2]
                exact hf
            · -- some wait
              have hwt : wt.reverse ≠ [] := fun z => by
                rw [List.reverse_eq_nil_iff] at z
                subst z
                have := rw2.len
                exact hwn (List.eq_nil_of_length_eq_zero this.symm)
              have hne2 : (natsV wt.reverse).isEmpty = false := by
                cases h : wt.reverse with
                | nil => exact absurd h hwt
                | cons _ _ => rfl
              rw [hne2]
              show if (!!false) = true then _ else _
              refine iteF ?_
              obtain ⟨j1, j2⟩ := itns_push (as := sT) hnm hwn
              exact ⟨itns acc (wts acc A1 B1 ++ Bd.nd e1 A1 B1 :: sT), by omega, ks, acc, wt ++ c :: sc, wts acc A1 B1 ++ Bd.nd e1 A1 B1 :: sT, xs, _, _, _, _, _, _, rfl, by omega, rfl, s5, enl5, dx5, enu5, elf5, rk, rw2.app rs, hclo, by rw [j2]; exact hf⟩
theorem ok_table {f C : Addr} {fd : FuncData} (F : Fun K "table" "Diagrams.table" s_Diagrams_table f fd) (M : Mg mg) (G : DgC K C mg) (c_Diagrams_listed : ClM P w K mg base 2 C "listed" (sp_listed C K)) : FnOk P w K mg base CX0 3 f fd ["self", "condition"] (sp_table C K) := by
  refine F.ok sc_Diagrams_table (fun vs H Q E h => ?_) (fun cdv A outer s H vs Q E hr h => ?_)
  · obtain ⟨s, N, es, L, c, a, rfl, _⟩ := h
    rfl
  · obtain ⟨s, N, es, L, c, a, rfl, st, hA, hsz, q⟩ := h
    refine ⟨_, (pss_cons (ps_asg (pe_mt c_Diagrams_listed hr (by first | decide | omega) (pv 0) (pa_cons (pe_lst (pa_cons (pv 1) pa_nil)) pa_nil)) (pg_tup (by rfl) (pgs_cons (pg_name (i := 2) sc_Diagrams_table.nd rfl (.inl rfl)) (pgs_cons (pg_name (i := 3) sc_Diagrams_table.nd rfl (.inl rfl)) pgs_nil))))
      (pss_one (ps_ret (pe_tup (pa_cons (pv 2) (pa_cons (pe_dget (hu_of hr) (pv 3) (pv 1) (fun _ _ => rfl)) pa_nil)))))), ?_⟩
    refine ⟨_, rfl, st.go (by decide +kernel) (by decide +kernel) (by decide +kernel) ⟨_, rfl, by show 1 ≤ sizeLine; decide, fun p np => ?_⟩⟩
    have s1 := same_upd np (o := .lst [.int ((c : Nat) : Int)])
    have e1 : (upd H p (.lst [.int ((c : Nat) : Int)])) p = some (.lst (natsV [c])) := upd_same
    generalize upd H p (.lst [.int ((c : Nat) : Int)]) = H1 at s1 e1
    refine ⟨s, N, es, L, p, [c], [a], rfl, st.ext s1, .of e1, ⟨hA, trivial⟩, by show 1 ≤ 100; decide, fun b hb => by rw [List.mem_singleton.mp hb]; exact hsz, fun H2 q2 nl nu xs ks s2 e2 nnl enl enu rk dx => ?_⟩
    have rk : Rel2 N ks (post [] a) := rk
    have dx : DpAll K H2 xs ((post [] a).map (rowD (post [] a))) := dx
    refine ⟨q2, _, rfl, .of e2, rfl, _, _, rfl, _, _, rfl, rfl, ?_⟩
    have hv : DGet H2 nu (.int ((c : Nat) : Int)) (some (.int ((nmb (post [] a) a : Nat) : Int))) := by
      have := DGet.k (k := .inl (c : Int)) enu
      rw [nbs_val st.nd hA rk, if_pos (post_self a [])] at this
      exact this
    refine ⟨_, rfl, _, rfl, _, rfl, nu, _, rfl, hv, by show 2 ≤ sizeLine; decide, fun q3 nq3 => ?_⟩
    exact q _ q3 nl xs ((s1.trans s2).trans (same_upd nq3)) upd_same (s1.free nnl) (same_upd nq3 _ _ enl) (DpAll.ext (same_upd nq3) _ _ dx)
end

def evP (a : Bd) (p : List Int) : Bool := a.ev fun x => decide (x ∈ p)
/-- where a node's question stands, and what comes ahead of it does not matter -/
theorem wf_nd {es : List Int} {x : Int} {w t : Bd} (h : Wf es (.nd x w t)) : ∃ pre post, es = pre ++ x :: post ∧ Wf post w ∧ Wf post t ∧ w ≠ t := by
  generalize e : Bd.nd x w t = a at h
  induction h with
  | lf => cases e
  | @here y es w' t' hw ht hn _ _ =>
    cases e
    exact ⟨[], _, rfl, hw, ht, hn⟩
  | @skip y es a _ ih =>
    obtain ⟨pre, po, rfl, h1, h2, h3⟩ := ih e
    exact ⟨y :: pre, po, rfl, h1, h2, h3⟩
theorem wf_kids {es : List Int} {x : Int} {w t : Bd} (h : Wf es (.nd x w t)) : Wf es w ∧ Wf es t := by
  obtain ⟨pre, po, rfl, h1, h2, _⟩ := wf_nd h
  exact ⟨(Wf.skip h1).skips pre, (Wf.skip h2).skips pre⟩
/-- all nodes of a diagram -/
def subN : Bd → List Bd
  | .lf _ => []
  | .nd e w t => .nd e w t :: (subN w ++ subN t)
theorem clo_sub {acc : List Bd} (h : Clo acc) : ∀ {a : Bd}, knw acc a = true → ∀ x ∈ subN a, x ∈ acc
  | .lf _, _, x, hx => by cases hx
  | .nd e w t, hk, x, hx => by
    have hm := knw_nd.mp hk
    obtain ⟨k1, k2⟩ := h e w t hm
    rcases List.mem_cons.mp hx with rfl | hx
    · exact hm
    · rcases List.mem_append.mp hx with hx | hx
      · exact clo_sub h k1 x hx
      · exact clo_sub h k2 x hx
theorem post_iff : ∀ {a : Bd} {acc : List Bd}, Clo acc → ∀ x, x ∈ post acc a ↔ x ∈ acc ∨ x ∈ subN a
  | .lf _, acc, _, x => by
    show x ∈ acc ↔ _
    exact ⟨.inl, fun h => h.elim id (fun z => by cases z)⟩
  | .nd e w t, acc, hc, x => by
    by_cases hm : Bd.nd e w t ∈ acc
    · rw [post_knw (knw_nd.mpr hm)]
      exact ⟨.inl, fun h => h.elim id (clo_sub hc (knw_nd.mpr hm) x)⟩
    · rw [post_nd hm, List.mem_append, List.mem_singleton, post_iff (post_clo w acc hc), post_iff hc]
      constructor
      · rintro (((h | h) | h) | h)
        · exact .inl h
        · exact .inr (List.mem_cons_of_mem _ (List.mem_append_left _ h))
        · exact .inr (List.mem_cons_of_mem _ (List.mem_append_right _ h))
        · subst h; exact .inr List.mem_cons_self
      · rintro (h | h)
        · exact .inl (.inl (.inl h))
        · rcases List.mem_cons.mp h with h | h
          · exact .inr h
          · rcases List.mem_append.mp h with h | h
            · exact .inl (.inl (.inr h))
            · exact .inl (.inr h)
theorem posts_iff : ∀ {as acc : List Bd}, Clo acc → ∀ x, x ∈ as.foldl post acc ↔ x ∈ acc ∨ ∃ a ∈ as, x ∈ subN a
  | [], acc, _, x => ⟨.inl, fun h => h.elim id (fun ⟨a, h, _⟩ => by cases h)⟩
  | a :: as, acc, hc, x => by
    rw [List.foldl_cons, posts_iff (post_clo a acc hc), post_iff hc]
    constructor
    · rintro ((h | h) | ⟨b, hb, h⟩)
      · exact .inl h
      · exact .inr ⟨a, List.mem_cons_self, h⟩
      · exact .inr ⟨b, List.mem_cons_of_mem _ hb, h⟩
    · rintro (h | ⟨b, hb, h⟩)
      · exact .inl (.inl h)
      · rcases List.mem_cons.mp hb with rfl | hb
        · exact .inl (.inr h)
        · exact .inr ⟨b, hb, h⟩
theorem posts_nodup : ∀ (as acc : List Bd), acc.Nodup → (as.foldl post acc).Nodup
  | [], _, h => h
  | a :: as, acc, h => posts_nodup as _ (post_nodup a acc h)
theorem same_len {xs ys : List Bd} (h1 : xs.Nodup) (h2 : ys.Nodup) (h : ∀ x, x ∈ xs ↔ x ∈ ys) : xs.length = ys.length := ((List.perm_ext_iff_of_nodup h1 h2).mpr h).length_eq
theorem post_wf {es : List Int} : ∀ (a : Bd) (acc : List Bd), Wf es a → (∀ b ∈ acc, Wf es b) → ∀ b ∈ post acc a, Wf es b
  | .lf _, _, _, h => h
  | .nd e w t, acc, hw, h => by
    obtain ⟨w1, w2⟩ := wf_kids hw
    unfold post
    split
    · exact h
    · intro b hb
      rcases List.mem_append.mp hb with hb | hb
      · exact post_wf t _ w2 (post_wf w acc w1 h) b hb
      · rw [List.mem_singleton.mp hb]
        exact hw
def Ordd (acc : List Bd) : Prop := ∀ (i : Nat) e w t, acc[i]? = some (Bd.nd e w t) → knw (acc.take i) w = true ∧ knw (acc.take i) t = true
theorem post_ord : ∀ (a : Bd) (acc : List Bd), Ordd acc → Ordd (post acc a)
  | .lf _, _, h => h
  | .nd e w t, acc, h => by
    unfold post
    split
    · exact h
    · have h2 := post_ord t _ (post_ord w acc h)
      intro i e' w' t' hi
      by_cases hl : i < (post (post acc w) t).length
      · rw [List.getElem?_append_left hl] at hi
        rw [List.take_append_of_le_length (Nat.le_of_lt hl)]
        exact h2 i e' w' t' hi
      · rw [List.getElem?_append_right (by omega)] at hi
        have hk : i = (post (post acc w) t).length := by
          cases hh : i - (post (post acc w) t).length with
          | zero => omega
          | succ j => rw [hh] at hi; simp at hi
        subst hk
        rw [Nat.sub_self] at hi
        cases hi
        rw [List.take_append_of_le_length (Nat.le_refl _), List.take_of_length_le (Nat.le_refl _)]
        exact ⟨knw_pre (post_pre t _) (post_self w acc), post_self t _⟩

theorem kw_get {bs : List Bd} {a : Bd} (hk : knw bs a = true) : (Bd.lf false :: Bd.lf true :: bs)[nmb bs a]? = some a := by
  cases a with
  | lf v => cases v <;> rfl
  | nd e w t =>
    have hm := knw_nd.mp hk
    have hj := List.idxOf_lt_length_of_mem hm
    show bs[bs.idxOf (.nd e w t)]? = _
    rw [List.getElem?_eq_getElem hj, List.getElem_idxOf hj]

/-! ### the cheapest changes -/
abbrev Ck := Nat × Nat × List Int
def lexI : List Int → List Int → Bool
  | [], [] => false
  | [], _ :: _ => true
  | _ :: _, [] => false
  | x :: xs, y :: ys => if x = y then lexI xs ys else decide (x < y)
theorem lexI_irr : ∀ xs : List Int, lexI xs xs = false
  | [] => rfl
  | x :: xs => by
    unfold lexI
    rw [if_pos rfl]
    exact lexI_irr xs
theorem lexI_tri : ∀ xs ys : List Int, lexI xs ys = false → lexI ys xs = false → xs = ys
  | [], [], _, _ => rfl
  | [], _ :: _, h, _ => by cases h
  | _ :: _, [], _, h => by cases h
  | x :: xs, y :: ys, h, g => by
    unfold lexI at h g
    by_cases e : x = y
    · subst e
      rw [if_pos rfl] at h g
      rw [lexI_tri xs ys h g]
    · rw [if_neg e] at h
      rw [if_neg (Ne.symm e)] at g
      have h := of_decide_eq_false h
      have g := of_decide_eq_false g
      omega
theorem lexI_ntr : ∀ xs ys zs : List Int, lexI xs ys = false → lexI ys zs = false → lexI xs zs = false
  | [], [], _, _, g => g
  | [], _ :: _, _, h, _ => by cases h
  | _ :: _, [], [], _, _ => rfl
  | _ :: _, [], _ :: _, _, g => by cases g
  | _ :: _, _ :: _, [], _, _ => rfl
  | x :: xs, y :: ys, z :: zs, h, g => by
    unfold lexI at h g ⊢
    by_cases e : x = y
    · subst e
      rw [if_pos rfl] at h
      by_cases e2 : x = z
      · subst e2
        rw [if_pos rfl] at g ⊢
        exact lexI_ntr xs ys zs h g
      · rw [if_neg e2] at g ⊢
        exact g
    · rw [if_neg e] at h
      have h := of_decide_eq_false h
      by_cases e2 : y = z
      · subst e2
        rw [if_neg e]
        exact decide_eq_false h
      · rw [if_neg e2] at g
        have g := of_decide_eq_false g
        rw [if_neg (by omega)]
        exact decide_eq_false (by omega)
def kLt (a b : Ck) : Bool := if a.1 = b.1 then if a.2.1 = b.2.1 then lexI a.2.2 b.2.2 else decide (a.2.1 < b.2.1) else decide (a.1 < b.1)
theorem kLt_irr (a : Ck) : kLt a a = false := by
  unfold kLt
  rw [if_pos rfl, if_pos rfl]
  exact lexI_irr _
theorem kLt_tri {a b : Ck} (h : kLt a b = false) (g : kLt b a = false) : a = b := by
  obtain ⟨a1, a2, a3⟩ := a
  obtain ⟨b1, b2, b3⟩ := b
  unfold kLt at h g
  dsimp only at h g
  by_cases e : a1 = b1
  · subst e
    rw [if_pos rfl] at h g
    by_cases e2 : a2 = b2
    · subst e2
      rw [if_pos rfl] at h g
      rw [lexI_tri _ _ h g]
    · rw [if_neg e2] at h
      rw [if_neg (Ne.symm e2)] at g
      have := of_decide_eq_false h
      have := of_decide_eq_false g
      omega
  · rw [if_neg e] at h
    rw [if_neg (Ne.symm e)] at g
    have := of_decide_eq_false h
    have := of_decide_eq_false g
    omega
theorem kLt_ntr {a b c : Ck} (h : kLt a b = false) (g : kLt b c = false) : kLt a c = false := by
  obtain ⟨a1, a2, a3⟩ := a
  obtain ⟨b1, b2, b3⟩ := b
  obtain ⟨c1, c2, c3⟩ := c
  unfold kLt at h g ⊢
  dsimp only at h g ⊢
  by_cases e : a1 = b1
  · subst e
    rw [if_pos rfl] at h
    by_cases f : a1 = c1
    · subst f
      rw [if_pos rfl] at g ⊢
      by_cases e2 : a2 = b2
      · subst e2
        rw [if_pos rfl] at h
        by_cases f2 : a2 = c2
        · subst f2
          rw [if_pos rfl] at g ⊢
          exact lexI_ntr _ _ _ h g
        · rw [if_neg f2] at g ⊢
          exact g
      · rw [if_neg e2] at h
        have h := of_decide_eq_false h
        by_cases f2 : b2 = c2
        · subst f2
          rw [if_neg e2]
          exact decide_eq_false h
        · rw [if_neg f2] at g
          have g := of_decide_eq_false g
          rw [if_neg (by omega)]
          exact decide_eq_false (by omega)
    · rw [if_neg f] at g ⊢
      exact g
  · rw [if_neg e] at h
    have h := of_decide_eq_false h
    by_cases f : b1 = c1
    · subst f
      rw [if_neg e]
      exact decide_eq_false h
    · rw [if_neg f] at g
      have g := of_decide_eq_false g
      rw [if_neg (by omega)]
      exact decide_eq_false (by omega)
theorem kLt_asym {a b : Ck} (h : kLt a b = true) : kLt b a = false := by
  cases g : kLt b a with
  | false => rfl
  | true =>
    exfalso
    obtain ⟨a1, a2, a3⟩ := a
    obtain ⟨b1, b2, b3⟩ := b
    unfold kLt at h g
    dsimp only at h g
    by_cases e : a1 = b1
    · subst e
      rw [if_pos rfl] at h g
      by_cases e2 : a2 = b2
      · subst e2
        rw [if_pos rfl] at h g
        have asym : ∀ xs ys : List Int, lexI xs ys = true → lexI ys xs = true → False := by
          intro xs
          induction xs with
          | nil => intro ys h g; cases ys with | nil => cases h | cons y ys => cases g
          | cons x xs ih =>
            intro ys h g
            cases ys with
            | nil => cases h
            | cons y ys =>
              unfold lexI at h g
              by_cases e : x = y
              · subst e
                rw [if_pos rfl] at h g
                exact ih ys h g
              · rw [if_neg e] at h
                rw [if_neg (Ne.symm e)] at g
                have := of_decide_eq_true h
                have := of_decide_eq_true g
                omega
        exact asym _ _ h g
      · rw [if_neg e2] at h
        rw [if_neg (Ne.symm e2)] at g
        have := of_decide_eq_true h
        have := of_decide_eq_true g
        omega
    · rw [if_neg e] at h
      rw [if_neg (Ne.symm e)] at g
      have := of_decide_eq_true h
      have := of_decide_eq_true g
      omega
def wtn (e : Int) (c : Option Nat) (x : Option Ck) : Option Ck := match c, x with
  | some c, some (r, n, t) => some (c + r, n + 1, e :: t)
  | _, _ => none
def mnO (x y : Option Ck) : Option Ck := match x, y with
  | none, y => y
  | some x, none => some x
  | some x, some y => if kLt y x = true then some y else some x
def best (pr : List Int) (cst : Int → Option Nat) : Bd → Option Ck
  | .lf b => if b = true then some (0, 0, []) else none
  | .nd e w t => if e ∈ pr then mnO (best pr cst t) (wtn e (cst e) (best pr cst w)) else mnO (best pr cst w) (wtn e (cst e) (best pr cst t))
/-- the cost of a set -/
def cS (cst : Int → Option Nat) (p : List Int) : Nat := (p.map fun x => (cst x).getD 0).sum
def kyP (cst : Int → Option Nat) (p : List Int) : Ck := (cS cst p, p.length, p)
/-- a change that may be made, behind which it holds -/
def Vld (pr : List Int) (cst : Int → Option Nat) (es : List Int) (F : (Int → Bool) → Bool) (p : List Int) : Prop := p.Sublist es ∧ (∀ x ∈ p, (cst x).isSome = true) ∧ F (fun x => decide (x ∈ pr) != decide (x ∈ p)) = true
def Bst (cst : Int → Option Nat) (V : List Int → Prop) (o : Option Ck) : Prop := match o with
  | none => ∀ p, ¬ V p
  | some k => (∃ p, V p ∧ k = kyP cst p) ∧ ∀ p, V p → kLt (kyP cst p) k = false
theorem Bst.uniq {cst : Int → Option Nat} {V : List Int → Prop} {x y : Option Ck} (h : Bst cst V x) (g : Bst cst V y) : x = y := by
  cases x with
  | none =>
    cases y with
    | none => rfl
    | some k =>
      obtain ⟨⟨p, hp, _⟩, _⟩ := g
      exact absurd hp (h p)
  | some k =>
    cases y with
    | none =>
      obtain ⟨⟨p, hp, _⟩, _⟩ := h
      exact absurd hp (g p)
    | some l =>
      obtain ⟨⟨p, hp, rfl⟩, h2⟩ := h
      obtain ⟨⟨q, hq, rfl⟩, g2⟩ := g
      rw [kLt_tri (g2 p hp) (h2 q hq)]
theorem kyP_cons (cst : Int → Option Nat) (e : Int) (c : Nat) (hc : cst e = some c) (q : List Int) : kyP cst (e :: q) = (c + (kyP cst q).1, (kyP cst q).2.1 + 1, e :: (kyP cst q).2.2) := by
  unfold kyP cS
  rw [List.map_cons, List.sum_cons, hc]
  rfl
theorem kLt_cons (e : Int) (c : Nat) (x y : Ck) : kLt (c + x.1, x.2.1 + 1, e :: x.2.2) (c + y.1, y.2.1 + 1, e :: y.2.2) = kLt x y := by
  unfold kLt
  dsimp only
  have h1 : (c + x.1 = c + y.1) ↔ (x.1 = y.1) := by omega
  have h2 : (x.2.1 + 1 = y.2.1 + 1) ↔ (x.2.1 = y.2.1) := by omega
  have h3 : lexI (e :: x.2.2) (e :: y.2.2) = lexI x.2.2 y.2.2 := by
    show (if e = e then _ else _) = _
    rw [if_pos rfl]
  have h4 : decide (x.2.1 + 1 < y.2.1 + 1) = decide (x.2.1 < y.2.1) := by rw [decide_eq_decide]; omega
  have h5 : decide (c + x.1 < c + y.1) = decide (x.1 < y.1) := by rw [decide_eq_decide]; omega
  rw [h3, h4, h5]
  simp only [h1, h2]
theorem best_ok {pr : List Int} {cst : Int → Option Nat} {es : List Int} {a : Bd} (h : Wf es a) : es.Nodup → Bst cst (Vld pr cst es a.ev) (best pr cst a) := by
  induction h with
  | @lf es b =>
    intro _
    cases b with
    | false => exact fun p hp => by cases hp.2.2
    | true =>
      refine ⟨⟨[], ⟨List.nil_sublist _, (by intro _ h; cases h), rfl⟩, rfl⟩, fun p _ => ?_⟩
      unfold kLt kyP
      dsimp only
      split
      · split
        · cases p <;> rfl
        · exact decide_eq_false (by omega)
      · exact decide_eq_false (by omega)
  | @skip y es a ha ih =>
    intro hn
    rw [List.nodup_cons] at hn
    have ih := ih hn.2
    have evq : ∀ q : List Int, a.ev (fun x => decide (x ∈ pr) != decide (x ∈ y :: q)) = a.ev (fun x => decide (x ∈ pr) != decide (x ∈ q)) := fun q => wf_agree ha fun x hx => by
      have : x ≠ y := fun z => hn.1 (z ▸ hx)
      rw [show decide (x ∈ y :: q) = decide (x ∈ q) by rw [decide_eq_decide, List.mem_cons]; exact ⟨fun z => z.elim (fun z => absurd z this) id, .inr⟩]
    have split : ∀ p, Vld pr cst (y :: es) a.ev p → ∃ q, Vld pr cst es a.ev q ∧ kLt (kyP cst p) (kyP cst q) = false := fun p ⟨h1, h2, h3⟩ => by
      cases h1 with
      | cons _ h1 => exact ⟨p, ⟨h1, h2, h3⟩, kLt_irr _⟩
      | @cons_cons q _ _ h1 =>
        refine ⟨q, ⟨h1, fun x hx => h2 x (List.mem_cons_of_mem _ hx), by rw [← evq]; exact h3⟩, ?_⟩
        obtain ⟨c, hc⟩ := Option.isSome_iff_exists.mp (h2 y List.mem_cons_self)
        rw [kyP_cons cst y c hc]
        unfold kLt
        dsimp only
        split
        · rw [if_neg (by omega)]
          exact decide_eq_false (by omega)
        · exact decide_eq_false (by omega)
    cases hb : best pr cst a with
    | none =>
      rw [hb] at ih
      intro p hp
      obtain ⟨q, hq, _⟩ := split p hp
      exact ih q hq
    | some k =>
      rw [hb] at ih
      obtain ⟨⟨p, ⟨h1, h2, h3⟩, e⟩, h4⟩ := ih
      refine ⟨⟨p, ⟨h1.cons _, h2, h3⟩, e⟩, fun p' hp' => ?_⟩
      obtain ⟨q, hq, lt⟩ := split p' hp'
      exact kLt_ntr lt (h4 q hq)
  | @here x es w t hw ht hne iw it =>
    intro hn
    rw [List.nodup_cons] at hn
    have iw := iw hn.2
    have it := it hn.2
    -- the changes without x, with x
    have gen : ∀ (A B : Bd), Wf es A → Wf es B → Bst cst (Vld pr cst es A.ev) (best pr cst A) → Bst cst (Vld pr cst es B.ev) (best pr cst B) →
        (∀ ρ : Int → Bool, (Bd.nd x w t).ev ρ = if ρ x = decide (x ∈ pr) then A.ev ρ else B.ev ρ) → Bst cst (Vld pr cst (x :: es) (Bd.nd x w t).ev) (mnO (best pr cst A) (wtn x (cst x) (best pr cst B))) := by
      intro A B hA hB bA bB ev
      have v1 : ∀ q : List Int, q.Sublist es → (Bd.nd x w t).ev (fun z => decide (z ∈ pr) != decide (z ∈ q)) = A.ev fun z => decide (z ∈ pr) != decide (z ∈ q) := fun q hq => by
        rw [ev, if_pos]
        rw [decide_eq_false fun z => hn.1 (hq.subset z)]
        cases decide (x ∈ pr) <;> rfl
      have v2 : ∀ q : List Int, q.Sublist es → (Bd.nd x w t).ev (fun z => decide (z ∈ pr) != decide (z ∈ x :: q)) = B.ev fun z => decide (z ∈ pr) != decide (z ∈ q) := fun q hq => by
        rw [ev, if_neg]
        · refine wf_agree hB fun z hz => ?_
          have : z ≠ x := fun g => hn.1 (g ▸ hz)
          rw [show decide (z ∈ x :: q) = decide (z ∈ q) by rw [decide_eq_decide, List.mem_cons]; exact ⟨fun g => g.elim (fun g => absurd g this) id, .inr⟩]
        · rw [decide_eq_true (List.mem_cons_self : x ∈ x :: q)]
          cases decide (x ∈ pr) <;> decide
      have cs : ∀ p, Vld pr cst (x :: es) (Bd.nd x w t).ev p → Vld pr cst es A.ev p ∨ ∃ q c, p = x :: q ∧ cst x = some c ∧ Vld pr cst es B.ev q := fun p ⟨h1, h2, h3⟩ => by
        cases h1 with
        | cons _ h1 => exact .inl ⟨h1, h2, by rw [← v1 p h1]; exact h3⟩
        | @cons_cons q _ _ h1 =>
          obtain ⟨c, hc⟩ := Option.isSome_iff_exists.mp (h2 x List.mem_cons_self)
          exact .inr ⟨q, c, rfl, hc, h1, fun z hz => h2 z (List.mem_cons_of_mem _ hz), by rw [← v2 q h1]; exact h3⟩
      have mkA : ∀ p, Vld pr cst es A.ev p → Vld pr cst (x :: es) (Bd.nd x w t).ev p := fun p ⟨h1, h2, h3⟩ => ⟨h1.cons _, h2, by rw [v1 p h1]; exact h3⟩
      have mkB : ∀ q c, cst x = some c → Vld pr cst es B.ev q → Vld pr cst (x :: es) (Bd.nd x w t).ev (x :: q) := fun q c hc ⟨h1, h2, h3⟩ => ⟨h1.cons_cons _, fun z hz => by
        rcases List.mem_cons.mp hz with rfl | hz
        · rw [hc]; rfl
        · exact h2 z hz, by rw [v2 q h1]; exact h3⟩
      have bW : Bst cst (fun p => ∃ q c, p = x :: q ∧ cst x = some c ∧ Vld pr cst es B.ev q) (wtn x (cst x) (best pr cst B)) := by
        cases hc : cst x with
        | none =>
          rw [show wtn x none (best pr cst B) = none from rfl]
          rintro p ⟨q, c, _, e, _⟩
          cases e
        | some c =>
          cases hb : best pr cst B with
          | none =>
            rw [hb] at bB
            show Bst _ _ none
            rintro p ⟨q, c, _, _, hq⟩
            exact bB q hq
          | some k =>
            rw [hb] at bB
            obtain ⟨⟨q, hq, rfl⟩, h2⟩ := bB
            show Bst _ _ (some (c + (kyP cst q).1, (kyP cst q).2.1 + 1, x :: (kyP cst q).2.2))
            refine ⟨⟨x :: q, ⟨q, c, rfl, rfl, hq⟩, (kyP_cons cst x c hc q).symm⟩, ?_⟩
            rintro p ⟨q', c', rfl, e, hq'⟩
            cases e
            rw [kyP_cons cst x _ hc, kLt_cons]
            exact h2 q' hq'
      generalize best pr cst A = oA at bA
      generalize wtn x (cst x) (best pr cst B) = oB at bW
      cases oA with
      | none =>
        cases oB with
        | none =>
          intro p hp
          rcases cs p hp with h | h
          · exact bA p h
          · exact bW p h
        | some k =>
          obtain ⟨⟨p, ⟨q, c, rfl, hc, hq⟩, e⟩, h2⟩ := bW
          refine ⟨⟨x :: q, mkB q c hc hq, e⟩, fun p' hp' => ?_⟩
          rcases cs p' hp' with h | h
          · exact absurd h (bA p')
          · exact h2 p' h
      | some k =>
        obtain ⟨⟨p, hp, e⟩, h1⟩ := bA
        cases oB with
        | none =>
          refine ⟨⟨p, mkA p hp, e⟩, fun p' hp' => ?_⟩
          rcases cs p' hp' with h | h
          · exact h1 p' h
          · exact absurd h (bW p')
        | some l =>
          obtain ⟨⟨p2, ⟨q, c, rfl, hc, hq⟩, e2⟩, h2⟩ := bW
          show Bst _ _ (if kLt l k = true then some l else some k)
          by_cases g : kLt l k = true
          · rw [if_pos g]
            refine ⟨⟨x :: q, mkB q c hc hq, e2⟩, fun p' hp' => ?_⟩
            rcases cs p' hp' with h | h
            · exact kLt_ntr (h1 p' h) (kLt_asym g)
            · exact h2 p' h
          · rw [if_neg g]
            refine ⟨⟨p, mkA p hp, e⟩, fun p' hp' => ?_⟩
            rcases cs p' hp' with h | h
            · exact h1 p' h
            · exact kLt_ntr (h2 p' h) (Bool.eq_false_iff.mpr g)
    show Bst _ _ (if x ∈ pr then _ else _)
    by_cases hx : x ∈ pr
    · rw [if_pos hx]
      refine gen t w ht hw it iw fun ρ => ?_
      rw [decide_eq_true hx]
      show (if ρ x = true then t.ev ρ else w.ev ρ) = _
      rfl
    · rw [if_neg hx]
      refine gen w t hw ht iw it fun ρ => ?_
      rw [decide_eq_false hx]
      show (if ρ x = true then t.ev ρ else w.ev ρ) = _
      cases ρ x <;> rfl

/-! ### the program's cheapest changes -/
def ckD (k : Ck) : PyData := .tuple [.int ((k.1 : Nat) : Int), .int ((k.2.1 : Nat) : Int), .list (k.2.2.map PyData.int)]
def obD : Option Ck → PyData
  | none => .none
  | some k => ckD k
theorem alike_ints : ∀ xs ys : List Int, PySem.W.alikeAll (xs.map PyData.int) (ys.map PyData.int) = true
  | [], _ => by unfold PySem.W.alikeAll; rfl
  | _ :: _, [] => by unfold PySem.W.alikeAll; rfl
  | x :: xs, y :: ys => by
    rw [List.map_cons, List.map_cons]
    unfold PySem.W.alikeAll
    rw [alike_ints xs ys]
    rfl
theorem alike_ck (a b : Ck) : PySem.W.alike (ckD a) (ckD b) = true := by
  unfold ckD
  simp only [PySem.W.alike, PySem.W.alikeAll, alike_ints, Bool.and_self, Bool.and_true]
theorem lt_ints : ∀ xs ys : List Int, PyProof.Rows.lexLt PyProof.Rows.itemOrd (PySem.W.keyToksAll (xs.map PyData.int)) (PySem.W.keyToksAll (ys.map PyData.int)) = lexI xs ys
  | [], [] => by decide +kernel
  | [], y :: ys => by
    show PyProof.Rows.lexLt PyProof.Rows.itemOrd (PySem.W.keyToksAll []) (PySem.W.keyToksAll (PyData.int y :: _)) = true
    unfold PySem.W.keyToksAll
    rw [PySem.W.lex_atom (by decide)]
    decide +kernel
  | x :: xs, [] => by
    show PyProof.Rows.lexLt PyProof.Rows.itemOrd (PySem.W.keyToksAll (PyData.int x :: _)) (PySem.W.keyToksAll []) = false
    unfold PySem.W.keyToksAll
    rw [PySem.W.lex_atom (by decide)]
    decide +kernel
  | x :: xs, y :: ys => by
    rw [List.map_cons, List.map_cons]
    unfold lexI
    by_cases e : x = y
    · subst e
      rw [if_pos rfl, PySem.W.dataLt_all_yes rfl (by unfold PyData.eqv; exact beq_self_eq_true x), lt_ints xs ys]
    · rw [if_neg e, PySem.W.dataLt_all_no rfl (by unfold PyData.eqv; exact beq_eq_false_iff_ne.mpr e), PySem.W.dataLt_int]
theorem eqv_intsL : ∀ xs ys : List Int, PyData.eqvAll (xs.map PyData.int) (ys.map PyData.int) = decide (xs = ys)
  | [], [] => rfl
  | [], _ :: _ => rfl
  | _ :: _, [] => rfl
  | x :: xs, y :: ys => by
    rw [List.map_cons, List.map_cons]
    unfold PyData.eqvAll
    rw [eqv_intsL xs ys]
    unfold PyData.eqv
    by_cases e : x = y
    · subst e
      simp
    · simp [e]
theorem lt_ck (a b : Ck) : PySem.W.dataLt (ckD a) (ckD b) = kLt a b := by
  obtain ⟨a1, a2, a3⟩ := a
  obtain ⟨b1, b2, b3⟩ := b
  unfold ckD kLt
  dsimp only
  rw [PySem.W.dataLt_tuple]
  have eI : ∀ x y : Nat, PyData.eqv (.int ((x : Nat) : Int)) (.int ((y : Nat) : Int)) = decide (x = y) := fun x y => by
    unfold PyData.eqv
    rw [Bool.eq_iff_iff, beq_iff_eq, decide_eq_true_iff]
    omega
  have lI : ∀ x y : Nat, decide (((x : Nat) : Int) < ((y : Nat) : Int)) = decide (x < y) := fun x y => by rw [decide_eq_decide]; omega
  by_cases e : a1 = b1
  · subst e
    rw [if_pos rfl, PySem.W.dataLt_all_yes rfl (by rw [eI]; exact decide_eq_true rfl)]
    by_cases e2 : a2 = b2
    · subst e2
      rw [if_pos rfl, PySem.W.dataLt_all_yes rfl (by rw [eI]; exact decide_eq_true rfl)]
      have al : PySem.W.alike (.list (a3.map PyData.int)) (.list (b3.map PyData.int)) = true := by
        unfold PySem.W.alike
        exact alike_ints _ _
      have ev : PyData.eqv (.list (a3.map PyData.int)) (.list (b3.map PyData.int)) = decide (a3 = b3) := by
        unfold PyData.eqv
        exact eqv_intsL _ _
      by_cases e3 : a3 = b3
      · subst e3
        rw [PySem.W.dataLt_all_yes al (by rw [ev]; exact decide_eq_true rfl), lexI_irr]
        decide +kernel
      · rw [PySem.W.dataLt_all_no al (by rw [ev]; exact decide_eq_false e3), PySem.W.dataLt_list, lt_ints]
    · rw [if_neg e2, PySem.W.dataLt_all_no rfl (by rw [eI]; exact decide_eq_false e2), PySem.W.dataLt_int, lI]
  · rw [if_neg e, PySem.W.dataLt_all_no rfl (by rw [eI]; exact decide_eq_false e), PySem.W.dataLt_int, lI]
theorem ck_dep (a : Ck) : (ckD a).depth ≤ 2 := by
  have h : ∀ l : List Int, PyData.depthAll (l.map PyData.int) = 0 := by
    intro l
    induction l with
    | nil => rfl
    | cons x l ih =>
      rw [List.map_cons]
      unfold PyData.depthAll
      rw [ih]
      rfl
  unfold ckD
  simp [PyData.depth, PyData.depthAll, h]
/-- the least of one or two that are there -/
def nn (x y : Option Ck) : List Ck := x.toList ++ y.toList
theorem min_nn (x y : Option Ck) (d : PyData) (es : List PyData) (h : (nn x y).map ckD = d :: es) : PySem.W.minD d es = obD (mnO x y) := by
  cases x with
  | none =>
    cases y with
    | none => cases h
    | some y =>
      have h : [ckD y] = d :: es := h
      cases h
      rfl
  | some x =>
    cases y with
    | none =>
      have h : [ckD x] = d :: es := h
      cases h
      rfl
    | some y =>
      have h : [ckD x, ckD y] = d :: es := h
      cases h
      show (if PySem.W.dataLt (ckD y) (ckD x) = true then ckD y else ckD x) = obD (if kLt y x = true then some y else some x)
      rw [lt_ck]
      by_cases g : kLt y x = true
      · rw [if_pos g, if_pos g]
        rfl
      · rw [if_neg g, if_neg g]
        rfl
/-- a cost as a value -/
def coV : Option Nat → V
  | none => .non
  | some c => .int ((c : Nat) : Int)
def sp_wtn (K : PySem.W.Frag) : Sp := fun vs H Q _ => ∃ (L : Addr → Prop) (e : Int) (c : Option Nat) (v : V) (x : Option Ck), vs = [.int e, coV c, v] ∧ DpL L K H v (obD x) ∧ (∀ a, H a = none → L a) ∧ (∀ k, x = some k → k.2.2.length ≤ 100) ∧ ∀ H' u, Same H H' → DpL L K H' u (obD (wtn e c x)) → Q u H'
/-- a change as the caller sees it -/
def chD : Option Ck → PyData
  | none => .none
  | some k => .tuple [.int ((k.1 : Nat) : Int), .list (k.2.2.map PyData.int)]
def sp_chp (C : Addr) (K : PySem.W.Frag) : Sp := fun vs H Q _ => ∃ s N es L c A, ∃ (pa cd : Addr) (pr : List Int) (cst : Int → Option Nat) (kvs : List (Key × V)), vs = [.ref s.p, .int ((c : Nat) : Int), .ref pa, .ref cd] ∧ Sto C K H s N es L ∧ At N c A ∧ Wf es A ∧ A.sz ≤ 1000 ∧ es.length ≤ 10 ∧ SqL K H pa (pr.map V.int) ∧
  H cd = some (.dK kvs) ∧ (∀ x ∈ es, valV kvs (.inl x) = (cst x).map fun c => V.int ((c : Nat) : Int)) ∧ ∀ H' u, Same H H' → DpL (fun a => H a = none) K H' u (chD (best pr cst A)) → Q u H'
theorem DpL.dct {L : Addr → Prop} {K : PySem.W.Frag} {H : Hp} {v : V} {k : Ck} (h : DpL L K H v (ckD k)) : ∃ t q, v = .ref t ∧ SqT K H t [.int ((k.1 : Nat) : Int), .int ((k.2.1 : Nat) : Int), .ref q] ∧ L q ∧ H q = some (.lst (k.2.2.map V.int)) := by
  cases h with
  | @tup t xs ds h1 h2 =>
    cases h2 with
    | cons g1 g2 =>
      cases g1
      cases g2 with
      | cons g3 g4 =>
        cases g3
        cases g4 with
        | cons g5 g6 =>
          cases g6
          cases g5 with
          | @lst q xs ds hL hq hx =>
            refine ⟨t, q, rfl, h1, hL, ?_⟩
            have : xs = k.2.2.map V.int := by
              clear h1 hq
              generalize k.2.2 = l at hx
              induction l generalizing xs with
              | nil => cases hx; rfl
              | cons y l ih =>
                cases hx with
                | cons a b =>
                  cases a
                  rw [ih b]
                  rfl
            rw [← this]
            exact hq
theorem DpL.ofInts {L : Addr → Prop} {K : PySem.W.Frag} {H : Hp} : ∀ l : List Int, DpLs L K H (l.map V.int) (l.map PyData.int)
  | [] => .nil
  | x :: l => .cons (.int x) (DpL.ofInts l)
theorem best_len {pr : List Int} {cst : Int → Option Nat} : ∀ {a : Bd} {k : Ck}, best pr cst a = some k → k.2.2.length ≤ a.sz
  | .lf b, k, h => by
    cases b with
    | false => cases h
    | true =>
      cases h
      exact Nat.zero_le _
  | .nd e w t, k, h => by
    have gen : ∀ A B : Bd, (∀ k, best pr cst A = some k → k.2.2.length ≤ A.sz) → (∀ k, best pr cst B = some k → k.2.2.length ≤ B.sz) → A.sz + B.sz + 1 ≤ (Bd.nd e w t).sz → mnO (best pr cst A) (wtn e (cst e) (best pr cst B)) = some k → k.2.2.length ≤ (Bd.nd e w t).sz := by
      intro A B hA hB hs h
      have hW : ∀ k, wtn e (cst e) (best pr cst B) = some k → k.2.2.length ≤ B.sz + 1 := fun k hk => by
        cases hc : cst e with
        | none => rw [hc] at hk; cases hk
        | some c =>
          rw [hc] at hk
          cases hb : best pr cst B with
          | none => rw [hb] at hk; cases hk
          | some l =>
            rw [hb] at hk
            have := hB l hb
            cases hk
            show l.2.2.length + 1 ≤ _
            omega
      cases hA' : best pr cst A with
      | none =>
        rw [hA'] at h
        have := hW k h
        omega
      | some x =>
        rw [hA'] at h
        have h1 := hA x hA'
        cases hw : wtn e (cst e) (best pr cst B) with
        | none =>
          rw [hw] at h
          cases h
          omega
        | some y =>
          rw [hw] at h
          have h2 := hW y hw
          have h : (if kLt y x = true then some y else some x) = some k := h
          split at h <;> cases h <;> omega
    have iw : ∀ k, best pr cst w = some k → k.2.2.length ≤ w.sz := fun k h => best_len h
    have it : ∀ k, best pr cst t = some k → k.2.2.length ≤ t.sz := fun k h => best_len h
    have h : (if e ∈ pr then mnO (best pr cst t) (wtn e (cst e) (best pr cst w)) else mnO (best pr cst w) (wtn e (cst e) (best pr cst t))) = some k := h
    have hs : w.sz + t.sz + 1 ≤ (Bd.nd e w t).sz := by show _ ≤ w.sz + t.sz + 1; omega
    split at h
    · exact gen t w it iw (by omega) h
    · exact gen w t iw it hs h
section
variable {P : Program} {w : World} {K : PySem.W.Frag} {mg : Str → Option Value} {base : Heap}
theorem ok_wtn {f : Addr} {fd : FuncData} (F : Fun K "with_turned" "with_turned" s_with_turned f fd) (M : Mg mg) : FnOk P w K mg base CX0 1 f fd ["entry", "cost", "change"] (sp_wtn K) := by
  refine F.ok sc_with_turned (fun vs H Q E h => ?_) (fun cdv A0 outer s H vs Q E hr h => ?_)
  · obtain ⟨L, e, c, v, x, rfl, _⟩ := h
    rfl
  · obtain ⟨L, e, c, v, x, rfl, hd, fr, hl, q⟩ := h
    have id : Same H H := fun _ _ e => e
    refine ⟨_, (pss_cons (ps_if (PW.pt (pw_or (pt_cmpR op_isN (pv 1) pe_non (nomark _)) (pw_or1 (pt_cmpR op_isN (pv 2) pe_non (nomark _))))) (pss_one (ps_ret pe_non)) pss_nil)
      (pss_cons (ps_asg (pv 2) (pg_tup (by rfl) (pgs_cons (pg_name (i := 3) sc_with_turned.nd rfl (.inl rfl)) (pgs_cons (pg_name (i := 4) sc_with_turned.nd rfl (.inl rfl)) (pgs_cons (pg_name (i := 5) sc_with_turned.nd rfl (.inl rfl)) pgs_nil)))))
      (pss_one (ps_ret (pe_tup (pa_cons (pe_op op_add (pv 1) (pv 3)) (pa_cons (pe_op op_add (pv 4) pe_int) (pa_cons (pe_op op_cat (pe_lst (pa_cons (pv 0) pa_nil)) (pv 5)) pa_nil)))))))), ?_⟩
    cases c with
    | none =>
      refine ⟨_, rfl, rfl, _, rfl, iteT ?_⟩
      exact q H .non id .non
    | some c =>
      refine ⟨_, rfl, rfl, _, rfl, iteF ?_⟩
      cases x with
      | none =>
        have e0 : v = .non := by cases hd; rfl
        subst e0
        refine ⟨_, rfl, rfl, _, rfl, iteT ?_⟩
        exact q H .non id .non
      | some k =>
        obtain ⟨t, qa, rfl, ht, hL, hq⟩ := DpL.dct hd
        refine ⟨_, rfl, rfl, _, rfl, iteF ?_⟩
        refine ⟨_, rfl, t, _, rfl, ht, rfl, _, _, rfl, _, _, rfl, _, _, rfl, rfl, ?_⟩
        refine ⟨_, rfl, _, rfl, _, _, rfl, rfl, ?_⟩
        refine ⟨_, rfl, _, _, rfl, rfl, ?_⟩
        refine ⟨_, rfl, by show 1 ≤ sizeLine; decide, fun p1 n1 => ?_⟩
        have s1 := same_upd n1 (o := .lst [.int e])
        have a1 : (upd H p1 (.lst [.int e])) p1 = some (.lst [.int e]) := upd_same
        have hq1 := s1 _ _ hq
        generalize upd H p1 (.lst [.int e]) = H1 at s1 a1 hq1 ⊢
        have hl2 := hl k rfl
        refine ⟨_, rfl, p1, qa, _, _, rfl, rfl, a1, hq1, by rw [List.length_map]; exact Nat.le_trans (m := 101) (by show 1 + _ ≤ _; omega) (by decide), fun p2 n2 => ?_⟩
        have L2' : L p2 := fr _ (s1.free n2)
        have s2 := same_upd n2 (o := .lst ([.int e] ++ k.2.2.map V.int))
        have a2 : (upd H1 p2 (.lst ([.int e] ++ k.2.2.map V.int))) p2 = some (.lst ((e :: k.2.2).map V.int)) := upd_same
        generalize upd H1 p2 (.lst ([.int e] ++ k.2.2.map V.int)) = H2 at s2 a2 ⊢
        refine ⟨by show 3 ≤ sizeLine; decide, fun p3 n3 => ?_⟩
        have s3 := same_upd n3 (o := .tup [.int ((c : Int) + (k.1 : Int)), .int ((k.2.1 : Int) + 1), .ref p2])
        have a3 : (upd H2 p3 (.tup [.int ((c : Int) + (k.1 : Int)), .int ((k.2.1 : Int) + 1), .ref p2])) p3 = some (.tup [.int ((c + k.1 : Nat) : Int), .int ((k.2.1 + 1 : Nat) : Int), .ref p2]) := by
          rw [upd_same, Int.natCast_add, Int.natCast_add]
          rfl
        have a23 := s3 _ _ a2
        refine q _ (.ref p3) ((s1.trans s2).trans s3) ?_
        show DpL L K _ (.ref p3) (ckD (c + k.1, k.2.1 + 1, e :: k.2.2))
        exact .tup (.of a3) (.cons (.int _) (.cons (.int _) (.cons (.lst L2' a23 (DpL.ofInts _)) .nil)))
theorem DpLs.get {L : Addr → Prop} {H : Hp} : ∀ {ds : List PyData} {vs : List V} {i : Nat} {d : PyData}, DpLs L K H vs ds → ds[i]? = some d → ∃ v, vs[i]? = some v ∧ DpL L K H v d
  | [], _, _, _, _, e => by simp at e
  | x :: ds, _, 0, d, h, e => by
    cases h with
    | cons h1 h2 =>
      have e1 : x = d := Option.some.inj e
      subst e1
      exact ⟨_, rfl, h1⟩
  | x :: ds, _, i + 1, d, h, e => by
    cases h with
    | cons h1 h2 =>
      obtain ⟨v, hv, hd⟩ := DpLs.get (i := i) h2 (by simpa using e)
      exact ⟨v, by simpa using hv, hd⟩
theorem DpLs.app {L : Addr → Prop} {H : Hp} : ∀ {ds es : List PyData} {vs us : List V}, DpLs L K H vs ds → DpLs L K H us es → DpLs L K H (vs ++ us) (ds ++ es)
  | [], _, _, _, h, g => by cases h; exact g
  | _ :: _, _, _, _, h, g => by
    cases h with
    | cons a b => exact .cons a (DpLs.app b g)
/-- a value is None just if there is no change -/
theorem obD_non {L : Addr → Prop} {H : Hp} {v : V} {x : Option Ck} (h : DpL L K H v (obD x)) : decide (v = V.non) = x.isNone := by
  cases x with
  | none =>
    cases h
    exact decide_eq_true rfl
  | some k =>
    obtain ⟨t, q, rfl, _⟩ := DpL.dct h
    exact decide_eq_false (fun z => by cases z)
set_option maxHeartbeats 4000000 in
theorem ok_chp {f C : Addr} {fd : FuncData} (F : Fun K "cheapest" "cheapest" s_cheapest f fd) (M : Mg mg) (c_Diagrams_table : ClM P w K mg base 3 C "table" (sp_table C K)) (c_with_turned : Cl P w K mg base 1 "with_turned" (sp_wtn K)) : FnOk P w K mg base CX0 4 f fd ["store", "condition", "present", "costs"] (sp_chp C K) := by
  refine F.ok sc_cheapest (fun vs H Q E h => ?_) (fun cdv A0 outer s H vs Q E hr h => ?_)
  · obtain ⟨s, N, es, L, c, A, pa, cd, pr, cst, kvs, rfl, _⟩ := h
    rfl
  · obtain ⟨s, N, es, L, c, A, pa, cd, pr, cst, kvs, rfl, st, hA, wA, hsz, hl5, hpa, hcd, hkv, q⟩ := h
    have hnd := st.es_nd
    refine ⟨_, (pss_cons (ps_asg (pe_mt c_Diagrams_table hr (by first | decide | omega) (pv 0) (pa_cons (pv 1) pa_nil)) (pg_tup (by rfl) (pgs_cons (pg_name (i := 4) sc_cheapest.nd rfl (.inl rfl)) (pgs_cons (pg_name (i := 5) sc_cheapest.nd rfl (.inl rfl)) pgs_nil))))
      (pss_cons (ps_set (i := 6) sc_cheapest.nd rfl (.inl rfl) (pe_lst (pa_cons pe_non (pa_cons (pe_tup (pa_cons pe_int (pa_cons pe_int (pa_cons (pe_lst pa_nil) pa_nil)))) pa_nil))))
      (pss_cons (ps_for PassesOwn.never rfl (pi_list (pv 4)) (pg_tup (by rfl) (pgs_cons (pg_name (i := 7) sc_cheapest.nd rfl (.inl rfl)) (pgs_cons (pg_name (i := 8) sc_cheapest.nd rfl (.inl rfl)) (pgs_cons (pg_name (i := 9) sc_cheapest.nd rfl (.inl rfl)) pgs_nil)))) (pss_cons (ps_asg (pe_ifExp (pt_cmpR (inK K) (pv 7) (pv 2) (by rfl)) (pe_tup (pa_cons (pv 9) (pa_cons (pv 8) pa_nil))) (pe_tup (pa_cons (pv 8) (pa_cons (pv 9) pa_nil)))) (pg_tup (by rfl) (pgs_cons (pg_name (i := 10) sc_cheapest.nd rfl (.inl rfl)) (pgs_cons (pg_name (i := 11) sc_cheapest.nd rfl (.inl rfl)) pgs_nil))))
      (pss_cons (ps_set (i := 12) sc_cheapest.nd rfl (.inl rfl) (pe_lst (pa_cons (pe_ix (ix_listK K) (pv 6) (pv 10) (fun _ _ => rfl)) (pa_cons (pe_u c_with_turned hr (by first | decide | omega) (by rfl) (pa_cons (pv 7) (pa_cons (pe_dget1 (hu_of hr) (pv 3) (pv 7) ⟨rfl, rfl, rfl, rfl⟩) (pa_cons (pe_ix (ix_listK K) (pv 6) (pv 11) (fun _ _ => rfl)) pa_nil)))) pa_nil))))
      (pss_one (ps_expr (pe_bmK K PySem.F.plainAttrs_list PySem.F.slot_list_append PySem.F.type_list_append mt_append (pv 6) (pa_cons (pe_callBK (cr_minDef K hr.units rfl) (by rfl) M.min (by decide +kernel) (pa_cons (pe_lc (own := [("option", 16)]) (g := gName 16) rfl sc_cheapest.nd (pi_list (pv 12)) (blkOk_by (N := N_cheapest) (sc := defScope s_cheapest) (by decide +kernel)) (fun _ _ _ _ _ => (pg_name (i := 16) sc_cheapest.nd rfl (.inl rfl))) (fun _ _ _ _ _ => (pts_one (pt_cmpR op_notN (pv 16) pe_non (nomark _)))) (fun _ _ _ _ _ => (pv 16))) pa_nil) (pk_cons pe_non pk_nil)) pa_nil)))))))
      (pss_cons (ps_if (pt_cmpR op_isN (pe_ix (ix_listK K) (pv 6) (pv 5) (fun _ _ => rfl)) pe_non (nomark _)) (pss_one (ps_ret pe_non)) pss_nil)
      (pss_cons (ps_asg (pe_ix (ix_listK K) (pv 6) (pv 5) (fun _ _ => rfl)) (pg_tup (by rfl) (pgs_cons (pg_name (i := 13) sc_cheapest.nd rfl (.inl rfl)) (pgs_cons (pg_name (i := 14) sc_cheapest.nd rfl (.inl rfl)) (pgs_cons (pg_name (i := 15) sc_cheapest.nd rfl (.inl rfl)) pgs_nil)))))
      (pss_one (ps_ret (pe_tup (pa_cons (pv 13) (pa_cons (pv 15) pa_nil)))))))))), ?_⟩
    refine ⟨_, rfl, st.go (by decide +kernel) (by decide +kernel) (by decide +kernel) ⟨_, rfl, ?_⟩⟩
    refine ⟨s, N, es, L, c, A, rfl, st, hA, hsz, fun H1 q1 nl xs s1 e1 nnl enl dxs => ?_⟩
    have h00 : ([] : List Bd).length = 0 := rfl
    have hlen := post_len A []
    have hord : Ordd (post [] A) := post_ord A [] (by intro _ _ _ _ h; simp at h)
    have hnds := post_nds A [] (by intro _ h; cases h)
    have hwf := post_wf A [] wA (by intro _ h; cases h)
    have hself := post_self A []
    generalize post [] A = acc at e1 dxs hlen hord hnds hself hwf
    refine ⟨q1, _, rfl, .of e1, rfl, _, _, rfl, _, _, rfl, rfl, ?_⟩
    have hcd1 := s1 _ _ hcd
    have hpa1 := s1.seq hpa
    refine ⟨Nat.zero_le _, fun T1 nT1 => ?_⟩
    have sT1 := same_upd nT1 (o := .lst [])
    have aT1 : (upd H1 T1 (.lst [])) T1 = some (.lst (([] : List Int).map V.int)) := upd_same
    generalize upd H1 T1 (.lst []) = H3 at sT1 aT1 ⊢
    refine ⟨by show 3 ≤ sizeLine; decide, fun T2 nT2 => ?_⟩
    have sT2 := same_upd nT2 (o := .tup [.int 0, .int 0, .ref T1])
    have aT2 : (upd H3 T2 (.tup [.int 0, .int 0, .ref T1])) T2 = some (.tup [.int ((0 : Nat) : Int), .int ((0 : Nat) : Int), .ref T1]) := upd_same
    have aT12 := sT2 _ _ aT1
    generalize upd H3 T2 (.tup [.int 0, .int 0, .ref T1]) = H4 at sT2 aT2 aT12 ⊢
    refine ⟨by show 2 ≤ sizeLine; decide, fun kn nkn => ?_⟩
    have sk := same_upd nkn (o := .lst [.non, .ref T2])
    have nT1k : T1 ≠ kn := ne_of_none aT12 nkn
    have d1 : DpL (fun a => a ≠ kn ∧ H a = none) K (upd H4 kn (.lst [.non, .ref T2])) (.ref T2) (obD (best pr cst (.lf true))) := .tup (.of (sk _ _ aT2)) (.cons (.int _) (.cons (.int _) (.cons (.lst ⟨nT1k, s1.free nT1⟩ (sk _ _ aT12) .nil) .nil)))
    have s14 := sT1.trans sT2
    have lxs : xs.length = acc.length := by rw [DpAll.len dxs, List.length_map]
    refine ⟨_, rfl, nl, rfl, ⟨_, .of (sk _ _ (s14 _ _ enl))⟩, ?_⟩
    refine for_list (K := K) (a := nl) (xs := xs) (fun i σ Hi => Same H4 Hi ∧ (∃ z7 z8 z9 z10 z11 z12 z13 z14 z15, σ = [some (.ref s.p), some (.int ((c : Nat) : Int)), some (.ref pa), some (.ref cd), some (.ref nl), some (.int ((nmb acc A : Nat) : Int)), some (.ref kn), z7, z8, z9, z10, z11, z12, z13, z14, z15, none]) ∧ ∃ vs, Hi kn = some (.lst vs) ∧ DpLs (fun a => a ≠ kn ∧ H a = none) K Hi vs (((Bd.lf false :: Bd.lf true :: acc.take i).map (best pr cst)).map obD))
      ⟨sk, ⟨_, _, _, _, _, _, _, _, _, rfl⟩, _, upd_same, .cons .non (.cons d1 .nil)⟩ (fun i σ Hi _ hp => .of (hp.1 _ _ (s14 _ _ enl))) (fun i y σ Hi hy hp => ?_) (fun σ Hn hp => ?_)
    · obtain ⟨si, ⟨z7, z8, z9, z10, z11, z12, z13, z14, z15, rfl⟩, vs, ekn, dvs⟩ := hp
      have hi : i < acc.length := by rw [← lxs]; exact (List.getElem?_eq_some_iff.mp hy).1
      obtain ⟨u, hu, hd⟩ := DpAll.get dxs (show (acc.map (rowD acc))[i]? = some (rowD acc acc[i]) by rw [List.getElem?_map, List.getElem?_eq_getElem hi]; rfl)
      obtain rfl : u = y := Option.some.inj (hu.symm.trans hy)
      obtain ⟨e, wt, tt', hei⟩ := hnds acc[i] (List.getElem_mem hi)
      have hwi : Wf es (.nd e wt tt') := by rw [← hei]; exact hwf acc[i] (List.getElem_mem hi)
      obtain ⟨k1, k2⟩ := hord i e wt tt' (by rw [List.getElem?_eq_getElem hi, hei])
      have pt := List.take_prefix i acc
      rw [hei] at hd
      have hd' : Dp K H1 u (.tuple [.int e, .int ((nmb (acc.take i) wt : Nat) : Int), .int ((nmb (acc.take i) tt' : Nat) : Int)]) := by
        rw [← nmb_pre pt k1, ← nmb_pre pt k2]
        exact hd
      obtain ⟨ra, rs, rfl, hrs, hra⟩ := dp_tup hd'
      have : rs = [.int e, .int ((nmb (acc.take i) wt : Nat) : Int), .int ((nmb (acc.take i) tt' : Nat) : Int)] := by
        cases hra with
        | cons g1 g2 =>
          cases g1
          cases g2 with
          | cons g3 g4 =>
            cases g3
            cases g4 with
            | cons g5 g6 =>
              cases g5
              cases g6
              rfl
      subst this
      have s1i := s14.trans si
      obtain ⟨u1, hu1, du1⟩ := DpLs.get dvs (show _ = some (obD (best pr cst wt)) by rw [List.getElem?_map, List.getElem?_map, kw_get k1]; rfl)
      obtain ⟨u2, hu2, du2⟩ := DpLs.get dvs (show _ = some (obD (best pr cst tt')) by rw [List.getElem?_map, List.getElem?_map, kw_get k2]; rfl)
      have hszw : ∀ b, Wf es b → ∀ k, best pr cst b = some k → k.2.2.length ≤ 100 := fun b hb k hk => by
        have h := best_ok (pr := pr) (cst := cst) hb hnd
        rw [hk] at h
        obtain ⟨⟨p, ⟨hp, _⟩, rfl⟩, _⟩ := h
        have h2 := hp.length_le
        show p.length ≤ 100
        omega
      obtain ⟨w1, w2⟩ := wf_kids hwi
      refine ⟨ra, _, rfl, SqT.ext s1i hrs, rfl, _, _, rfl, _, _, rfl, _, _, rfl, rfl, ?_⟩
      have hee := hkv e hwi.none_of
      have hpai := s1i.seq hpa1
      refine ⟨_, rfl, _, rfl, pa, _, rfl, .inl hpai, rfl, by rw [List.all_map]; exact List.all_eq_true.mpr fun _ _ => rfl, _, rfl, ?_⟩
      rw [if_neg Bool.false_ne_true, inV_int]
      refine ite2 (fun g => ⟨_, rfl, _, rfl, by show 2 ≤ sizeLine; decide, fun t nt => ?h1⟩) (fun g => ⟨_, rfl, _, rfl, by show 2 ≤ sizeLine; decide, fun t nt => ?h2⟩)
      case' h1 =>
        have eb : best pr cst (.nd e wt tt') = mnO (best pr cst tt') (wtn e (cst e) (best pr cst wt)) := by
          show (if e ∈ pr then _ else _) = _
          rw [if_pos (of_decide_eq_true g)]
        have sj := same_upd nt (o := .tup [.int ((nmb (acc.take i) tt' : Nat) : Int), .int ((nmb (acc.take i) wt : Nat) : Int)])
        refine ⟨t, _, rfl, .of upd_same, rfl, _, _, rfl, _, _, rfl, rfl, ?_⟩
        generalize upd Hi t (.tup [.int ((nmb (acc.take i) tt' : Nat) : Int), .int ((nmb (acc.take i) wt : Nat) : Int)]) = Hj at sj ⊢
        have hvA := hu2
        have hvB := hu1
        have dA := du2
        have dB := du1
        have wB := w1
        generalize nmb (acc.take i) tt' = nA at hvA ⊢
        generalize nmb (acc.take i) wt = nB at hvB ⊢
        generalize u2 = vA at hvA dA
        generalize u1 = vB at hvB dB
        generalize hoA : best pr cst tt' = oA at dA eb
        have hszB := hszw _ wB
        generalize hoB : best pr cst wt = oB at dB eb hszB
      case' h2 =>
        have eb : best pr cst (.nd e wt tt') = mnO (best pr cst wt) (wtn e (cst e) (best pr cst tt')) := by
          show (if e ∈ pr then _ else _) = _
          rw [if_neg (fun z => g (decide_eq_true z))]
        have sj := same_upd nt (o := .tup [.int ((nmb (acc.take i) wt : Nat) : Int), .int ((nmb (acc.take i) tt' : Nat) : Int)])
        refine ⟨t, _, rfl, .of upd_same, rfl, _, _, rfl, _, _, rfl, rfl, ?_⟩
        generalize upd Hi t (.tup [.int ((nmb (acc.take i) wt : Nat) : Int), .int ((nmb (acc.take i) tt' : Nat) : Int)]) = Hj at sj ⊢
        have hvA := hu1
        have hvB := hu2
        have dA := du1
        have dB := du2
        have wB := w2
        generalize nmb (acc.take i) wt = nA at hvA ⊢
        generalize nmb (acc.take i) tt' = nB at hvB ⊢
        generalize u1 = vA at hvA dA
        generalize u2 = vB at hvB dB
        generalize hoA : best pr cst wt = oA at dA eb
        have hszB := hszw _ wB
        generalize hoB : best pr cst tt' = oB at dB eb hszB
      all_goals
        have eknj := sj _ _ ekn
        have cdj := (s1i.trans sj) _ _ hcd1
        refine ⟨_, rfl, _, rfl, kn, vs, _, _, rfl, rfl, .of eknj, atI_nat hvA, ?_⟩
        refine ⟨_, rfl, _, rfl, cd, rfl, .inl ⟨_, .inl cdj⟩, _, rfl, _, .inl ⟨kvs, .inl e, .inl cdj, rfl, rfl⟩, ?_⟩
        refine ⟨_, rfl, _, rfl, kn, vs, _, _, rfl, rfl, .of eknj, atI_nat hvB, ?_⟩
        have eco : (valV kvs (Sum.inl e)).getD V.non = coV (cst e) := by
          rw [hee]
          cases cst e <;> rfl
        rw [eco]
        have frj : ∀ a, Hj a = none → a ≠ kn ∧ H a = none := fun a h => ⟨(fun z => by
          rw [z, eknj] at h
          cases h), (s1.trans (s1i.trans sj)).free h⟩
        refine ⟨fun a => a ≠ kn ∧ H a = none, e, cst e, vB, oB, rfl, DpL.chg (.of sj) _ _ dB, frj, hszB, fun H5 u5 s5 d5 => ?_⟩
        have dA5 := DpL.chg (.of (sj.trans s5)) _ _ dA
        refine ⟨by show 2 ≤ sizeLine; decide, fun O nO => ?_⟩
        have sO := same_upd nO (o := .lst [vA, u5])
        have eO : (upd H5 O (.lst [vA, u5])) O = some (.lst [vA, u5]) := upd_same
        have d56 := DpL.chg (.of sO) _ _ d5
        have dA6 := DpL.chg (.of sO) _ _ dA5
        have s6 := s5.trans sO
        generalize upd H5 O (.lst [vA, u5]) = H6 at sO eO d56 dA6 s6 ⊢
        have ekn6 := s6 _ _ eknj
        generalize wtn e (cst e) oB = oW at eb d56
        refine ⟨_, rfl, .inl ⟨rfl, _, .inl (.inl ekn6)⟩, ?_⟩
        refine ⟨_, rfl, O, rfl, ⟨_, .of eO⟩, fun D nD => ?_⟩
        refine lc_list (K := K) (a := O) (xs := [vA, u5]) (fun j Hj => Same H6 Hj ∧ ∃ acc, Hj D = some (.lst acc) ∧ acc.length ≤ j ∧ DpLs (fun a => a ≠ kn ∧ H a = none) K H6 acc ((([oA, oW].take j).filterMap fun x => x).map ckD)) ⟨same_upd nD, [], upd_same, Nat.le_refl _, .nil⟩ (fun j Hj _ hp => .of (hp.1 _ _ eO)) (fun j y Hj hy hp => ?_) (fun H7 hp => ?_)
        · obtain ⟨sj', ac, eD, lac, dac⟩ := hp
          obtain ⟨o', ho', dy, etk⟩ : ∃ o', [oA, oW][j]? = some o' ∧ DpL (fun a => a ≠ kn ∧ H a = none) K H6 y (obD o') ∧ ([oA, oW].take (j + 1)).filterMap (fun x => x) = (([oA, oW].take j).filterMap fun x => x) ++ o'.toList := by
            match j, hy with
            | 0, hy =>
              obtain rfl : vA = y := Option.some.inj hy
              exact ⟨oA, rfl, dA6, by cases oA <;> rfl⟩
            | 1, hy =>
              obtain rfl : u5 = y := Option.some.inj hy
              exact ⟨oW, rfl, d56, by cases oA <;> cases oW <;> rfl⟩
            | j + 2, hy => simp at hy
          have nn := obD_non dy
          refine ⟨rfl, _, rfl, rfl, _, rfl, ?_⟩
          rw [nn]
          cases o' with
          | none =>
            refine iteF ⟨sj', ac, eD, Nat.le_succ_of_le lac, ?_⟩
            rw [etk, show (none : Option Ck).toList = [] from rfl, List.append_nil]
            exact dac
          | some k =>
            refine iteT ⟨_, rfl, ac, eD, ?_, fun b u hb => ?_, ac ++ [y], upd_same, ?_, ?_⟩
            · have hj2 : j < 2 := (List.getElem?_eq_some_iff.mp ho').1
              exact Nat.lt_of_le_of_lt (m := 2) (by omega) (by decide)
            · rw [upd_ne (ne_of_none hb nD)]
              exact sj' _ _ hb
            · rw [List.length_append]
              exact Nat.succ_le_succ lac
            · rw [etk, List.map_append]
              exact DpLs.snoc dac dy
        obtain ⟨s7, ac, eD, lac, dac⟩ := hp
        have enn : ([oA, oW].take [vA, u5].length).filterMap (fun x => x) = nn oA oW := by cases oA <;> cases oW <;> rfl
        rw [enn] at dac
        have s67 : Same H6 H7 := s7
        have dac7 := DpLs.chg (.of s67) _ _ dac
        have ekn7 := s67 _ _ ekn6
        have lvs : vs.length = i + 2 := by
          rw [DpLs.len dvs, List.length_map, List.length_map, List.length_cons, List.length_cons, List.length_take]
          omega
        have core : ∀ v : V, DpL (fun a => a ≠ kn ∧ H a = none) K H7 v (obD (mnO oA oW)) → Same H4 (upd H7 kn (.lst (vs ++ [v]))) ∧ ∃ vs', (upd H7 kn (.lst (vs ++ [v]))) kn = some (.lst vs') ∧ DpLs (fun a => a ≠ kn ∧ H a = none) K (upd H7 kn (.lst (vs ++ [v]))) vs' (((Bd.lf false :: Bd.lf true :: acc.take (i + 1)).map (best pr cst)).map obD) := fun v dv => by
          have s47 : ∀ b o, H4 b = some o → H7 b = some o := fun b o hb => s67 _ _ (s6 _ _ (sj _ _ (si _ _ hb)))
          have cg := Chg.at (L := fun a => a ≠ kn ∧ H a = none) (o := .lst (vs ++ [v])) ekn7 (fun h => h.1 rfl)
          refine ⟨fun b o hb => ?_, _, upd_same, ?_⟩
          · rw [upd_ne (ne_of_none hb nkn)]
            exact s47 _ _ hb
          · have etk : ((Bd.lf false :: Bd.lf true :: acc.take (i + 1)).map (best pr cst)).map obD = ((Bd.lf false :: Bd.lf true :: acc.take i).map (best pr cst)).map obD ++ [obD (mnO oA oW)] := by
              rw [List.take_add_one, List.getElem?_eq_getElem hi, hei, ← List.cons_append, ← List.cons_append, List.map_append, List.map_append, ← eb]
              rfl
            rw [etk]
            exact DpLs.snoc (DpLs.chg cg _ _ (DpLs.chg (.of ((sj.trans s6).trans s67)) _ _ dvs)) (DpL.chg cg _ _ dv)
        have lkn : vs.length < sizeLine := by rw [lvs]; exact Nat.lt_of_le_of_lt (m := 1002) (by omega) (by decide)
        refine ⟨D, .non, ac, (nn oA oW).map ckD, rfl, rfl, .of eD, DpLs.dp _ _ dac7, ⟨fun x hx y hy => ?_, fun x hx => ?_⟩, ?_, fun e0 => ?_, fun d es j y e0 hy hd => ?_⟩
        · obtain ⟨x', _, rfl⟩ := List.mem_map.mp hx
          obtain ⟨y', _, rfl⟩ := List.mem_map.mp hy
          exact alike_ck _ _
        · obtain ⟨x', _, rfl⟩ := List.mem_map.mp hx
          intro z
          cases z
        · have h2 : ∀ l : List Ck, PyData.depthAll (l.map ckD) ≤ 2 := by
            intro l
            induction l with
            | nil => exact Nat.zero_le _
            | cons x l ih =>
              rw [List.map_cons]
              unfold PyData.depthAll
              exact Nat.max_le.mpr ⟨ck_dep x, ih⟩
          exact Nat.le_trans (h2 _) (by decide)
        · have em : mnO oA oW = none := by
            cases oA with
            | some x => cases e0
            | none =>
              cases oW with
              | some x => cases e0
              | none => rfl
          obtain ⟨c1, c2⟩ := core .non (by rw [em]; exact .non)
          exact ⟨kn, vs, _, rfl, rfl, ekn7, lkn, c1, ⟨_, _, _, _, _, _, _, _, _, rfl⟩, c2⟩
        · obtain ⟨y', hy', dy⟩ := DpLs.get dac7 hd
          obtain rfl : y = y' := Option.some.inj (hy.symm.trans hy')
          rw [min_nn oA oW d es e0] at dy
          obtain ⟨c1, c2⟩ := core y dy
          exact ⟨kn, vs, _, rfl, rfl, ekn7, lkn, c1, ⟨_, _, _, _, _, _, _, _, _, rfl⟩, c2⟩
    · obtain ⟨sn, ⟨z7, z8, z9, z10, z11, z12, z13, z14, z15, rfl⟩, vs, ekn, dvs⟩ := hp
      rw [lxs, List.take_of_length_le (Nat.le_refl _)] at dvs
      obtain ⟨u, hu, du⟩ := DpLs.get dvs (show _ = some (obD (best pr cst A)) by rw [List.getElem?_map, List.getElem?_map, kw_get hself]; rfl)
      have s1n := (s1.trans s14).trans sn
      refine ⟨_, rfl, _, rfl, kn, vs, _, _, rfl, rfl, .of ekn, atI_nat hu, rfl, _, rfl, ?_⟩
      rw [obD_non du]
      cases ho : best pr cst A with
      | none =>
        rw [ho] at q
        exact iteT (q Hn .non s1n .non)
      | some k =>
        rw [ho] at du q
        obtain ⟨t, qa, rfl, ht, hLq, hq⟩ := DpL.dct du
        refine iteF ⟨_, rfl, _, rfl, kn, vs, _, _, rfl, rfl, .of ekn, atI_nat hu, t, _, rfl, ht, rfl, _, _, rfl, _, _, rfl, _, _, rfl, rfl, ?_⟩
        refine ⟨_, rfl, _, rfl, by show 2 ≤ sizeLine; decide, fun t2 n2 => ?_⟩
        have s2 := same_upd n2 (o := .tup [.int ((k.1 : Nat) : Int), .ref qa])
        refine q _ (.ref t2) (s1n.trans s2) ?_
        exact .tup (.of upd_same) (.cons (.int _) (.cons (.lst hLq.2 (s2 _ _ hq) (DpL.ofInts _)) .nil))
end

/-! ### lists of lists -/
def Lf {α : Type} (f : α → V) (H : Hp) (p : Addr) (ls : List (List α)) : Prop := ∃ as : List Addr, H p = some (.lst (as.map V.ref)) ∧ as.length = ls.length ∧ ∀ (i : Nat) b l, as[i]? = some b → ls[i]? = some l → b ≠ p ∧ H b = some (.lst (l.map f))
theorem Lf.ext {α : Type} {f : α → V} {H H' : Hp} {p : Addr} {ls : List (List α)} (e : Same H H') (h : Lf f H p ls) : Lf f H' p ls := by
  obtain ⟨as, h1, h2, h3⟩ := h
  exact ⟨as, e _ _ h1, h2, fun i b l g1 g2 => ⟨(h3 i b l g1 g2).1, e _ _ (h3 i b l g1 g2).2⟩⟩
theorem Lf.snoc {α : Type} {f : α → V} {H : Hp} {p b : Addr} {ls : List (List α)} {l : List α} {xs : List V} (h : Lf f H p ls) (e : H p = some (.lst xs)) (n : b ≠ p) (hb : H b = some (.lst (l.map f))) : Lf f (upd H p (.lst (xs ++ [.ref b]))) p (ls ++ [l]) := by
  obtain ⟨as, h1, h2, h3⟩ := h
  have ex : xs = as.map V.ref := by rw [h1] at e; exact (HO.lst.inj (Option.some.inj e)).symm
  refine ⟨as ++ [b], by rw [upd_same, ex, List.map_append]; rfl, by rw [List.length_append, List.length_append, h2]; rfl, fun i c m hc hm => ?_⟩
  by_cases hi : i < as.length
  · rw [List.getElem?_append_left hi] at hc
    rw [List.getElem?_append_left (by omega)] at hm
    obtain ⟨g1, g2⟩ := h3 i c m hc hm
    exact ⟨g1, by rw [upd_ne g1]; exact g2⟩
  · rw [List.getElem?_append_right (by omega)] at hc
    rw [List.getElem?_append_right (by omega), ← h2] at hm
    cases hk : i - as.length with
    | zero =>
      rw [hk] at hc hm
      have e1 : b = c := Option.some.inj hc
      have e2 : l = m := Option.some.inj hm
      subst e1 e2
      exact ⟨n, by rw [upd_ne n]; exact hb⟩
    | succ k => rw [hk] at hc; simp at hc
theorem Lf.get {α : Type} {f : α → V} {H : Hp} {p : Addr} {ls : List (List α)} (h : Lf f H p ls) : ∃ as : List Addr, H p = some (.lst (as.map V.ref)) ∧ as.length = ls.length ∧ ∀ (i : Nat) l, ls[i]? = some l → ∃ b, as[i]? = some b ∧ H b = some (.lst (l.map f)) := by
  obtain ⟨as, h1, h2, h3⟩ := h
  refine ⟨as, h1, h2, fun i l hl => ?_⟩
  have hi : i < as.length := by rw [h2]; exact (List.getElem?_eq_some_iff.mp hl).1
  exact ⟨as[i], List.getElem?_eq_getElem hi, (h3 i _ l (List.getElem?_eq_getElem hi) hl).2⟩
/-! ### conditions by their truth -/
theorem subs_all' : ∀ (es pre : List Int) (f : List (List Int)), (pre ++ es).Nodup → (∀ ρ : Int → Bool, ∃ p ∈ f, (∀ e ∈ p, e ∈ pre) ∧ ∀ e ∈ pre, decide (e ∈ p) = ρ e) → ∀ ρ : Int → Bool, ∃ p ∈ es.foldl (fun f e => f ++ f.map (· ++ [e])) f, ∀ e ∈ pre ++ es, decide (e ∈ p) = ρ e
  | [], pre, f, _, h, ρ => by
    obtain ⟨p, hp, _, h2⟩ := h ρ
    exact ⟨p, hp, fun e he => h2 e (by rwa [List.append_nil] at he)⟩
  | x :: es, pre, f, hn, h, ρ => by
    have hx : x ∉ pre := by
      intro hx
      rw [List.nodup_append] at hn
      exact hn.2.2 x hx x List.mem_cons_self rfl
    have hn' : ((pre ++ [x]) ++ es).Nodup := by rw [List.append_assoc]; exact hn
    rw [List.foldl_cons, show pre ++ x :: es = (pre ++ [x]) ++ es by simp]
    refine subs_all' es (pre ++ [x]) _ hn' (fun ρ => ?_) ρ
    obtain ⟨p, hp, h1, h2⟩ := h ρ
    have hxp : x ∉ p := fun z => hx (h1 x z)
    cases e : ρ x with
    | true =>
      refine ⟨p ++ [x], List.mem_append_right _ (List.mem_map.mpr ⟨p, hp, rfl⟩), fun y hy => ?_, fun y hy => ?_⟩
      · rcases List.mem_append.mp hy with hy | hy
        · exact List.mem_append_left _ (h1 y hy)
        · exact List.mem_append_right _ hy
      · rcases List.mem_append.mp hy with hy | hy
        · have hyx : y ≠ x := fun z => hx (z ▸ hy)
          rw [← h2 y hy, decide_eq_decide, List.mem_append, List.mem_singleton]
          exact ⟨fun g => g.elim id (fun z => absurd z hyx), .inl⟩
        · rw [List.mem_singleton.mp hy, e]
          exact decide_eq_true (List.mem_append_right _ (List.mem_singleton.mpr rfl))
    | false =>
      refine ⟨p, List.mem_append_left _ hp, fun y hy => List.mem_append_left _ (h1 y hy), fun y hy => ?_⟩
      rcases List.mem_append.mp hy with hy | hy
      · exact h2 y hy
      · rw [List.mem_singleton.mp hy, e]
        exact decide_eq_false hxp
theorem subs_all {es : List Int} (hn : es.Nodup) (ρ : Int → Bool) : ∃ p ∈ subs es, ∀ e ∈ es, decide (e ∈ p) = ρ e :=
  subs_all' es [] [[]] hn (fun _ => ⟨[], List.mem_singleton.mpr rfl, fun _ h => (nomatch h), fun _ h => (nomatch h)⟩) ρ
def tru (es : List Int) (t : Tr) : List Bool := (subs es).map fun p => t.ev fun e => decide (e ∈ p)
theorem tru_eq {es : List Int} (hn : es.Nodup) {t u : Tr} (ht : t.ok es) (hu : u.ok es) : tru es t = tru es u ↔ ∀ ρ, t.ev ρ = u.ev ρ := by
  constructor
  · intro h ρ
    obtain ⟨p, hp, hr⟩ := subs_all hn ρ
    have := List.map_inj_left.mp h p hp
    rw [tr_agree ht hr, tr_agree hu hr] at this
    exact this
  · intro h
    exact List.map_inj_left.mpr fun p _ => h _
theorem tru_any {es : List Int} (hn : es.Nodup) {t : Tr} (ht : t.ok es) : (tru es t).any id = false ↔ ∀ ρ, t.ev ρ = false := by
  unfold tru
  rw [List.any_map, List.any_eq_false]
  constructor
  · intro h ρ
    obtain ⟨p, hp, hr⟩ := subs_all hn ρ
    have := h p hp
    rw [← tr_agree ht hr]
    simpa using this
  · intro h p _
    show ¬ (t.ev _) = true
    rw [h]
    exact Bool.false_ne_true
theorem tru_all {es : List Int} (hn : es.Nodup) {t : Tr} (ht : t.ok es) : (tru es t).all id = true ↔ ∀ ρ, t.ev ρ = true := by
  unfold tru
  rw [List.all_map, List.all_eq_true]
  constructor
  · intro h ρ
    obtain ⟨p, hp, hr⟩ := subs_all hn ρ
    have := h p hp
    rw [← tr_agree ht hr]
    exact this
  · intro h p _
    exact h _
theorem tru_len (es : List Int) (t : Tr) : (tru es t).length = 2 ^ es.length := by rw [tru, List.length_map, subs_len]
/-- conditions built, one for each tree -/
def Blt (N : Nds) (es : List Int) (ts : List Tr) (cs : List Nat) : Prop := cs.length = ts.length ∧ ∀ (i : Nat) t c, ts[i]? = some t → cs[i]? = some c → ∃ T, At N c T ∧ Wf es T ∧ ∀ ρ, T.ev ρ = t.ev ρ
theorem Blt.mono {N M : Nds} {es : List Int} {ts : List Tr} {cs : List Nat} (h : Blt N es ts cs) : Blt (N ++ M) es ts cs := ⟨h.1, fun i t c h1 h2 => by
  obtain ⟨T, a, b⟩ := h.2 i t c h1 h2
  exact ⟨T, a.mono, b⟩⟩
theorem Blt.snoc {N : Nds} {es : List Int} {ts : List Tr} {cs : List Nat} {t : Tr} {c : Nat} {T : Bd} (h : Blt N es ts cs) (a : At N c T) (b : Wf es T) (v : ∀ ρ, T.ev ρ = t.ev ρ) : Blt N es (ts ++ [t]) (cs ++ [c]) := by
  refine ⟨by rw [List.length_append, List.length_append, h.1]; rfl, fun i t' c' h1 h2 => ?_⟩
  by_cases hi : i < ts.length
  · rw [List.getElem?_append_left hi] at h1
    rw [List.getElem?_append_left (by rw [h.1]; exact hi)] at h2
    exact h.2 i t' c' h1 h2
  · rw [List.getElem?_append_right (by omega)] at h1
    rw [List.getElem?_append_right (by rw [h.1]; omega), h.1] at h2
    cases hk : i - ts.length with
    | zero =>
      rw [hk] at h1 h2
      have e1 : t = t' := Option.some.inj h1
      have e2 : c = c' := Option.some.inj h2
      subst e1 e2
      exact ⟨T, a, b, v⟩
    | succ k => rw [hk] at h1; simp at h1
theorem bls_eqvAll : ∀ a b : List Bool, PyData.eqvAll (a.map PyData.bool) (b.map PyData.bool) = decide (a = b)
  | [], [] => rfl
  | [], _ :: _ => rfl
  | _ :: _, [] => rfl
  | x :: a, y :: b => by
    rw [List.map_cons, List.map_cons]
    unfold PyData.eqvAll
    rw [bls_eqvAll a b]
    unfold PyData.eqv
    cases x <;> cases y <;> simp
theorem bls_eqv (a b : List Bool) : PyData.eqv (.list (a.map PyData.bool)) (.list (b.map PyData.bool)) = decide (a = b) := by
  unfold PyData.eqv
  exact bls_eqvAll a b
/-- one number for one condition -/
theorem num_eq {N : Nds} {es : List Int} (hN : N.Nodup) (hn : es.Nodup) {t u : Tr} (ht : t.ok es) (hu : u.ok es) {c d : Nat} {T U : Bd} (hT : At N c T) (hU : At N d U) (wT : Wf es T) (wU : Wf es U) (vT : ∀ ρ, T.ev ρ = t.ev ρ) (vU : ∀ ρ, U.ev ρ = u.ev ρ) : c = d ↔ tru es t = tru es u := by
  rw [tru_eq hn ht hu]
  constructor
  · intro e ρ
    subst e
    rw [← vT, ← vU, hT.fn hU]
  · intro h
    have := canon hn wT wU fun ρ => by rw [vT, vU, h]
    subst this
    exact hT.inj hN hU
theorem num_0 {N : Nds} {es : List Int} (hN : N.Nodup) (hn : es.Nodup) {t : Tr} (ht : t.ok es) {c : Nat} {T : Bd} (hT : At N c T) (wT : Wf es T) (vT : ∀ ρ, T.ev ρ = t.ev ρ) : c = 0 ↔ (tru es t).any id = false := by
  rw [tru_any hn ht]
  constructor
  · intro e ρ
    subst e
    rw [← vT, hT.fn .f]
    rfl
  · intro h
    have := canon hn wT (.lf (b := false)) fun ρ => by rw [vT, h]; rfl
    subst this
    exact hT.inj hN .f
theorem num_1 {N : Nds} {es : List Int} (hN : N.Nodup) (hn : es.Nodup) {t : Tr} (ht : t.ok es) {c : Nat} {T : Bd} (hT : At N c T) (wT : Wf es T) (vT : ∀ ρ, T.ev ρ = t.ev ρ) : c = 1 ↔ (tru es t).all id = true := by
  rw [tru_all hn ht]
  constructor
  · intro e ρ
    subst e
    rw [← vT, hT.fn .t]
    rfl
  · intro h
    have := canon hn wT (.lf (b := true)) fun ρ => by rw [vT, h]; rfl
    subst this
    exact hT.inj hN .t
/-- a list of conditions' trees -/
def TrL (K : PySem.W.Frag) (H : Hp) (D : Addr) (ts : List Tr) : Prop := ∃ vs, H D = some (.lst vs) ∧ DpAll K H vs (ts.map Tr.d)
theorem trs_only : ∀ ts : List Tr, tupOnlys (ts.map Tr.d) = true
  | [] => rfl
  | t :: ts => by
    rw [List.map_cons]
    unfold tupOnlys
    rw [tr_only, trs_only ts]
    rfl
theorem TrL.ext {K : PySem.W.Frag} {H H' : Hp} {D : Addr} {ts : List Tr} (e : Same H H') (h : TrL K H D ts) : TrL K H' D ts := by
  obtain ⟨vs, h1, h2⟩ := h
  exact ⟨vs, e _ _ h1, DpAll.ext e _ _ h2⟩
theorem TrL.snoc {K : PySem.W.Frag} {H : Hp} {D : Addr} {ts : List Tr} {vs : List V} {v : V} {t : Tr} (h : TrL K H D ts) (e : H D = some (.lst vs)) (hv : Dp K H v t.d) : TrL K (upd H D (.lst (vs ++ [v]))) D (ts ++ [t]) := by
  obtain ⟨vs', h1, h2⟩ := h
  have ev : vs' = vs := by rw [h1] at e; exact HO.lst.inj (Option.some.inj e)
  subst ev
  refine ⟨_, upd_same, ?_⟩
  rw [List.map_append]
  exact DpAll.snoc (DpAll.away h1 _ _ (trs_only ts) h2) (Dp.away h1 _ _ (tr_only t) hv)
theorem TrL.get {K : PySem.W.Frag} {H : Hp} {D : Addr} {ts : List Tr} (h : TrL K H D ts) : ∃ vs, H D = some (.lst vs) ∧ vs.length = ts.length ∧ ∀ (i : Nat) t, ts[i]? = some t → ∃ v, vs[i]? = some v ∧ Dp K H v t.d := by
  obtain ⟨vs, h1, h2⟩ := h
  refine ⟨vs, h1, by rw [DpAll.len h2, List.length_map], fun i t ht => DpAll.get h2 (by rw [List.getElem?_map, ht]; rfl)⟩
theorem TrL.fd {K : PySem.W.Frag} {H H' : Hp} {D d : Addr} {ts : List Tr} (hd : ∃ zs, H d = some (.lst zs)) (n : D ≠ d) (e : Fd d H H') (h : TrL K H D ts) : TrL K H' D ts := by
  obtain ⟨vs, h1, h2⟩ := h
  exact ⟨vs, e _ _ n h1, DpAll.fd hd e _ _ (trs_only ts) h2⟩
def intsV (cs : List Nat) : List V := cs.map fun c => .int ((c : Nat) : Int)
section
variable {P : Program} {w : World} {K : PySem.W.Frag} {mg : Str → Option Value} {base : Heap}
/-- conditions being built, one after another -/
def BuP (C : Addr) (K : PySem.W.Frag) (sa : SA) (N : Nds) (es : List Int) (b : Nat) (ts : List Tr) (H0 H : Hp) (B : Addr) (i : Nat) (Hi : Hp) : Prop := Same H0 Hi ∧ (∀ a o, H a = some o → a ≠ sa.k → a ≠ sa.u → a ≠ sa.m → Hi a = some o) ∧ ∃ M cs, Sto C K Hi sa (N ++ M) es (b + i * 33000) ∧ Hi B = some (.lst (intsV cs)) ∧ Blt (N ++ M) es (ts.take i) cs ∧ (N ++ M).length ≤ b + i * 33000
theorem bu_0 {C : Addr} {sa : SA} {N : Nds} {es : List Int} {L b : Nat} {ts : List Tr} {H0 H : Hp} {B : Addr} (S : Same H0 H) (st : Sto C K H sa N es L) (hb : N.length ≤ b ∧ L ≤ b) (nB : H B = none) : BuP C K sa N es b ts H0 H B 0 (upd H B (.lst [])) := by
  refine ⟨S.trans (same_upd nB), fun a o h _ _ _ => same_upd nB _ _ h, [], [], ?_, upd_same, ⟨rfl, fun i t c h _ => by simp at h⟩, ?_⟩
  · rw [List.append_nil]
    exact (st.ext (same_upd nB)).more (by omega)
  · rw [List.append_nil]
    omega
theorem bu_step {C : Addr} {sa : SA} {N : Nds} {es : List Int} {L b : Nat} {ts : List Tr} {H0 H Hi : Hp} {B : Addr} {i : Nat} {v : V} {t : Tr} {σ : L2.St} {i5 i11 : Nat} (S : Same H0 H) (st : Sto C K H sa N es L) (nk : H0 sa.k = none) (nu : H0 sa.u = none) (nm : H0 sa.m = none) (hl : es.length ≤ 5) (hb2 : b + ts.length * 33000 ≤ 400000) (nB : H B = none) (hp : BuP C K sa N es b ts H0 H B i Hi) (ht : ts[i]? = some t) (ok1 : t.ok es) (ht1 : t.ht < 9) (dp : Dp K H0 v t.d) (h5 : σ[i5]? = some (some (.ref sa.p))) (h11 : σ[i11]? = some (some v)) :
    tCall (sp_build C K 6 9) [] E0 (tCons (tVar i5) (tCons (tVar i11) tNil)) σ Hi fun y H4 => ∃ ys, H4 B = some (.lst ys) ∧ ys.length < sizeLine ∧ BuP C K sa N es b ts H0 H B (i + 1) (upd H4 B (.lst (ys ++ [y]))) := by
  have hob : opB es ≤ 64 := by
    have : 2 ^ es.length ≤ 2 ^ 5 := Nat.pow_le_pow_right (by decide) hl
    unfold opB
    omega
  have sl : (500000 : Nat) < sizeLine := by decide
  have nB0 := S.free nB
  have nBk := bu_ne st nB
  obtain ⟨si, fi, M, cs, sti, eB, bl, ln⟩ := hp
  have hi : i < ts.length := (List.getElem?_eq_some_iff.mp ht).1
  have hz : t.sz ≤ 511 := by
    have h1 := tr_sz t
    have h2 : 2 ^ (t.ht + 1) ≤ 2 ^ 9 := Nat.pow_le_pow_right (by decide) (by omega)
    omega
  have hzb : t.sz * opB es ≤ 511 * 64 := Nat.mul_le_mul hz hob
  have hib : i * 33000 + 33000 ≤ ts.length * 33000 := by
    have := Nat.mul_le_mul_right 33000 (show i + 1 ≤ ts.length by omega)
    omega
  refine ⟨_, h5, _, h11, sa, N ++ M, es, _, v, t, rfl, sti, by omega, ok1, ht1, Dp.ext si _ _ dp, by omega, by omega, fun H1 M1 r1 T1 f1 l1 st1 a1 w1 v1 => ?_⟩
  have eB1 := f1 _ _ nBk.1 nBk.2.1 nBk.2.2 eB
  have lcs : cs.length = i := by rw [bl.1, List.length_take]; omega
  refine ⟨_, eB1, ?_, ?_, ?_, M ++ M1, cs ++ [r1], ?_, ?_, ?_, ?_⟩
  · show (intsV cs).length < sizeLine
    unfold intsV
    rw [List.length_map, lcs]
    omega
  · intro x o e
    rw [upd_ne (ne_of_none e nB0)]
    exact f1.same si nk nu nm x o e
  · intro x o e n1 n2 n3
    rw [upd_ne (ne_of_none e nB)]
    exact f1 x o n1 n2 n3 (fi x o e n1 n2 n3)
  · rw [← List.append_assoc]
    exact (st1.fd ⟨_, eB1⟩ nBk.1 Fd.at).more (by omega)
  · rw [upd_same]
    unfold intsV
    rw [List.map_append]
    rfl
  · rw [← List.append_assoc, List.take_add_one, ht]
    exact bl.mono.snoc a1 w1 v1
  · rw [← List.append_assoc, List.length_append]
    omega
end

/-! ### x in l of data -/
theorem hu65 {k : Nat} {A : Around} (hr : Room k A) : A.units + 65 < cLine := by have := hr.un; omega
theorem inDK {X : Cx} (K : PySem.W.Frag) (hu : X.A.units + 65 < cLine) (h : X.K = K := by rfl) : OpR X (compareOp .In) (rInD K) := by subst h; exact op_inD hu
theorem notInDK {X : Cx} (K : PySem.W.Frag) (hu : X.A.units + 65 < cLine) (h : X.K = K := by rfl) : OpR X (compareOp .NotIn) (rNotInD K) := by subst h; exact op_notInD hu

/-! ### the law's costs and changes -/
theorem sortedK {X : Cx} (K : PySem.W.Frag) (h : X.K = K := by rfl) : CallR X (.builtin "sorted") (rSortedI K) := by subst h; exact cr_sortedI
theorem indexDK {X : Cx} (K : PySem.W.Frag) (hu : X.A.units + 65 < cLine) (h : X.K = K := by rfl) : MtR X "list.index" (rIndexD K) := by subst h; exact mt_indexD hu
def coP (es : List Int) (cst : Int → Option Nat) : List (Int × Int) := es.filterMap fun e => (cst e).map fun c => (e, ((c : Nat) : Int))
def coW (es : List Int) (cst : Int → Option Nat) : List (Key × V) := (coP es cst).map fun e => ((Sum.inl e.1 : Key), V.int e.2)
theorem co_val {cst : Int → Option Nat} {x : Int} : ∀ {es : List Int}, valV (coW es cst) (.inl x) = if x ∈ es then (cst x).map (fun c => V.int ((c : Nat) : Int)) else none
  | [] => rfl
  | y :: es => by
    have ih := co_val (cst := cst) (x := x) (es := es)
    cases hc : cst y with
    | none =>
      have e1 : coW (y :: es) cst = coW es cst := by
        unfold coW coP
        rw [List.filterMap_cons, hc]
        rfl
      rw [e1, ih]
      by_cases e : x = y
      · subst e
        rw [hc]
        simp
      · simp [e]
    | some c =>
      have e1 : coW (y :: es) cst = (Sum.inl y, V.int ((c : Nat) : Int)) :: coW es cst := by
        unfold coW coP
        rw [List.filterMap_cons, hc]
        rfl
      rw [e1]
      by_cases e : y = x
      · subst e
        rw [valV_pos rfl, if_pos List.mem_cons_self, hc]
        rfl
      · rw [valV_neg (fun z => e (Sum.inl.inj z)), ih]
        have e' : ¬ x = y := fun z => e z.symm
        simp [e']
theorem co_snoc (es : List Int) (x : Int) (cst : Int → Option Nat) : coP (es ++ [x]) cst = coP es cst ++ ((cst x).map fun c => (x, ((c : Nat) : Int))).toList := by
  unfold coP
  rw [List.filterMap_append]
  rw [List.filterMap_cons, List.filterMap_nil]
  cases cst x <;> rfl
theorem co_len (es : List Int) (cst : Int → Option Nat) : (coP es cst).length ≤ es.length := List.length_filterMap_le _ _
theorem co_congr {es : List Int} {c1 c2 : Int → Option Nat} (h : ∀ x ∈ es, c1 x = c2 x) : coP es c1 = coP es c2 := by
  induction es with
  | nil => rfl
  | cons y es ih =>
    have ih := ih fun x hx => h x (List.mem_cons_of_mem _ hx)
    unfold coP at ih ⊢
    rw [List.filterMap_cons, List.filterMap_cons, h y List.mem_cons_self, ih]
theorem castn_sum {α : Type} (f : α → Nat) : ∀ l : List α, (l.map fun x => ((f x : Nat) : Int)).sum = (((l.map f).sum : Nat) : Int)
  | [] => rfl
  | a :: l => by
    rw [List.map_cons, List.map_cons, List.sum_cons, List.sum_cons, castn_sum f l, Int.natCast_add]
/-- those there after a change -/
def trnd (pr es p : List Int) : List Int := es.filter fun x => decide (x ∈ pr) != decide (x ∈ p)
theorem subs_sub2 (es : List Int) : ∀ p ∈ subs es, p.Sublist es := by
  have h : ∀ (es pre : List Int) (f : List (List Int)), (∀ p ∈ f, p.Sublist pre) → ∀ p ∈ es.foldl (fun f e => f ++ f.map (· ++ [e])) f, p.Sublist (pre ++ es) := by
    intro es
    induction es with
    | nil => intro pre f h p hp; rw [List.append_nil]; exact h p hp
    | cons x es ih =>
      intro pre f h p hp
      rw [List.foldl_cons] at hp
      have := ih (pre ++ [x]) _ (fun q hq => ?_) p hp
      · rw [List.append_assoc] at this
        exact this
      · rcases List.mem_append.mp hq with hq | hq
        · exact (h q hq).trans (List.sublist_append_left _ _)
        · obtain ⟨r, hr, rfl⟩ := List.mem_map.mp hq
          exact List.Sublist.append (h r hr) (List.Sublist.refl _)
  intro p hp
  exact h es [] [[]] (by intro q hq; rw [List.mem_singleton.mp hq]; exact List.Sublist.refl _) p hp
theorem pw_ext2 : ∀ {a b : List Int}, a.Pairwise (· < ·) → b.Pairwise (· < ·) → (∀ x, x ∈ a ↔ x ∈ b) → a = b
  | [], [], _, _, _ => rfl
  | [], y :: b, _, _, h => absurd ((h y).mpr List.mem_cons_self) List.not_mem_nil
  | x :: a, [], _, _, h => absurd ((h x).mp List.mem_cons_self) List.not_mem_nil
  | x :: a, y :: b, ha, hb, h => by
    rw [List.pairwise_cons] at ha hb
    have e : x = y := by
      rcases List.mem_cons.mp ((h x).mp List.mem_cons_self) with e | m
      · exact e
      · rcases List.mem_cons.mp ((h y).mpr List.mem_cons_self) with e | m2
        · exact e.symm
        · have h1 := hb.1 x m
          have h2 := ha.1 y m2
          omega
    subst e
    refine congrArg (x :: ·) (pw_ext2 ha.2 hb.2 fun z => ⟨fun hz => ?_, fun hz => ?_⟩)
    · rcases List.mem_cons.mp ((h z).mp (List.mem_cons_of_mem _ hz)) with e | m
      · have := ha.1 z hz
        omega
      · exact m
    · rcases List.mem_cons.mp ((h z).mpr (List.mem_cons_of_mem _ hz)) with e | m
      · have := hb.1 z hz
        omega
      · exact m
/-- every part of the entries, in their order, is one of the law's sets -/
theorem subs_mem {es p : List Int} (hs : es.Pairwise (· < ·)) (hp : p.Sublist es) : p ∈ subs es := by
  have hn : es.Nodup := hs.imp fun h => by omega
  obtain ⟨q, hq, h⟩ := subs_all hn fun x => decide (x ∈ p)
  have sq := subs_sub2 es q hq
  have e : q = p := pw_ext2 (hs.sublist sq) (hs.sublist hp) fun x => by
    constructor
    · intro hx
      have := h x (sq.subset hx)
      rw [decide_eq_decide] at this
      exact this.mp hx
    · intro hx
      have := h x (hp.subset hx)
      rw [decide_eq_decide] at this
      exact this.mpr hx
  rw [← e]
  exact hq
def sp_trnd : Sp := fun vs H Q _ => ∃ (pa qa : Addr) (pr es p : List Int), vs = [.ref pa, .ref qa] ∧ H pa = some (.lst (pr.map V.int)) ∧ H qa = some (.lst (p.map V.int)) ∧ pr.Sublist es ∧ p.Sublist es ∧ es.Pairwise (· < ·) ∧ es.length ≤ 10 ∧ ∀ H' r, Same H H' → H' r = some (.lst ((trnd pr es p).map V.int)) → Q (.ref r) H'
section
variable {P : Program} {w : World} {K : PySem.W.Frag} {mg : Str → Option Value} {base : Heap}
theorem ok_trnd {f : Addr} {fd : FuncData} (F : Fun K "_law_turned" "_law_turned" s__law_turned f fd) (M : Mg mg) : FnOk P w K mg base CX0 1 f fd ["present", "part"] sp_trnd := by
  refine F.ok sc__law_turned (fun vs H Q E h => ?_) (fun cdv A0 outer s H vs Q E hr h => ?_)
  · obtain ⟨pa, qa, pr, es, p, rfl, _⟩ := h
    rfl
  · obtain ⟨pa, qa, pr, es, p, rfl, ha, hq, s1, s2, hs, hl, q⟩ := h
    have hnd : es.Nodup := hs.imp fun h => by omega
    have l1 := s1.length_le
    have l2 := s2.length_le
    have etk : ∀ (g : Int → Bool) (l : List Int) (j : Nat) (x : Int), l[j]? = some x → (l.take (j + 1)).filter g = (l.take j).filter g ++ if g x = true then [x] else [] := fun g l j x h => by
      rw [List.take_add_one, h, List.filter_append]
      show _ ++ List.filter _ [x] = _
      rw [List.filter_cons, List.filter_nil]
    refine ⟨_, (pss_cons (ps_setLc (i := 2) (own := [("entry", 3)]) (g := gName 3) rfl sc__law_turned.nd rfl rfl (sw_true rfl rfl rfl (by decide +kernel)) (pi_list (pv 0)) (blkOk_by (N := N__law_turned) (sc := defScope s__law_turned) (by decide +kernel)) (fun _ _ _ _ _ => (pg_name (i := 3) sc__law_turned.nd rfl (.inl rfl))) (fun _ _ _ _ _ => (pts_one (pt_cmpR (notInK K) (pv 3) (pv 1) (by rfl)))) (fun _ _ _ _ _ => (pv 3)))
      (pss_one (ps_ret (pe_callB (sortedK K) (by rfl) M.sorted (by decide +kernel) (pa_cons (pe_op op_cat (pv 2) (pe_lc (own := [("entry", 3)]) (g := gName 3) rfl sc__law_turned.nd (pi_list (pv 1)) (blkOk_by (N := N__law_turned) (sc := defScope s__law_turned) (by decide +kernel)) (fun _ _ _ _ _ => (pg_name (i := 3) sc__law_turned.nd rfl (.inl rfl))) (fun _ _ _ _ _ => (pts_one (pt_cmpR (notInK K) (pv 3) (pv 0) (by rfl)))) (fun _ _ _ _ _ => (pv 3)))) pa_nil))))), ?_⟩
    refine ⟨_, rfl, pa, rfl, ⟨_, .of ha⟩, fun D nD => ?_⟩
    refine lc_list (K := K) (a := pa) (xs := pr.map V.int) (fun j Hj => Same H Hj ∧ Hj D = some (.lst (((pr.take j).filter fun x => !decide (x ∈ p)).map V.int))) ⟨same_upd nD, upd_same⟩ (fun j Hj _ hp => .of (hp.1 _ _ ha)) (fun j y Hj hy hp => ?_) (fun H1 hp => ?_)
    · obtain ⟨sj, eD⟩ := hp
      rw [List.getElem?_map] at hy
      obtain ⟨x, hx, rfl⟩ := Option.map_eq_some_iff.mp hy
      have hj : j < pr.length := (List.getElem?_eq_some_iff.mp hx).1
      rw [etk _ pr j x hx]
      refine ⟨rfl, ?_⟩
      refine ⟨_, rfl, _, rfl, qa, _, rfl, .inl (.of (sj _ _ hq)), rfl, by rw [List.all_map]; exact List.all_eq_true.mpr fun _ _ => rfl, _, rfl, ?_⟩
      rw [if_pos rfl, inV_int]
      refine ite2 (fun hc => ?_) (fun hc => ?_)
      · refine ⟨_, rfl, _, eD, ?_, fun z o hz => ?_, ?_⟩
        · rw [List.length_map]
          have h1 := List.length_filter_le (fun x => !decide (x ∈ p)) (pr.take j)
          rw [List.length_take] at h1
          exact Nat.lt_of_le_of_lt (m := 100) (by omega) (by decide)
        · rw [upd_ne (ne_of_none hz nD)]
          exact sj _ _ hz
        · rw [upd_same, if_pos hc, List.map_append]
          rfl
      · refine ⟨sj, ?_⟩
        rw [if_neg hc, List.append_nil]
        exact eD
    obtain ⟨sa, eD⟩ := hp
    rw [List.length_map, List.take_of_length_le (Nat.le_refl _)] at eD
    refine ⟨_, rfl, _, rfl, qa, rfl, ⟨_, .of (sa _ _ hq)⟩, fun D2 nD2 => ?_⟩
    refine lc_list (K := K) (a := qa) (xs := p.map V.int) (fun j Hj => Same H1 Hj ∧ Hj D2 = some (.lst (((p.take j).filter fun x => !decide (x ∈ pr)).map V.int))) ⟨same_upd nD2, upd_same⟩ (fun j Hj _ hp => .of (hp.1 _ _ (sa _ _ hq))) (fun j y Hj hy hp => ?_) (fun H2 hp => ?_)
    · obtain ⟨sj, eD2⟩ := hp
      rw [List.getElem?_map] at hy
      obtain ⟨x, hx, rfl⟩ := Option.map_eq_some_iff.mp hy
      have hj : j < p.length := (List.getElem?_eq_some_iff.mp hx).1
      rw [etk _ p j x hx]
      refine ⟨rfl, ?_⟩
      refine ⟨_, rfl, _, rfl, pa, _, rfl, .inl (.of (sj _ _ (sa _ _ ha))), rfl, by rw [List.all_map]; exact List.all_eq_true.mpr fun _ _ => rfl, _, rfl, ?_⟩
      rw [if_pos rfl, inV_int]
      refine ite2 (fun hc => ?_) (fun hc => ?_)
      · refine ⟨_, rfl, _, eD2, ?_, fun z o hz => ?_, ?_⟩
        · rw [List.length_map]
          have h1 := List.length_filter_le (fun x => !decide (x ∈ pr)) (p.take j)
          rw [List.length_take] at h1
          exact Nat.lt_of_le_of_lt (m := 100) (by omega) (by decide)
        · rw [upd_ne (ne_of_none hz nD2)]
          exact sj _ _ hz
        · rw [upd_same, if_pos hc, List.map_append]
          rfl
      · refine ⟨sj, ?_⟩
        rw [if_neg hc, List.append_nil]
        exact eD2
    obtain ⟨sb, eD2⟩ := hp
    rw [List.length_map, List.take_of_length_le (Nat.le_refl _)] at eD2
    have lf1 := List.length_filter_le (fun x => !decide (x ∈ p)) pr
    have lf2 := List.length_filter_le (fun x => !decide (x ∈ pr)) p
    refine ⟨D, D2, _, _, rfl, rfl, sb _ _ eD, eD2, ?_, fun R nR => ?_⟩
    · rw [List.length_map, List.length_map]
      exact Nat.le_trans (m := 100) (by omega) (by decide)
    have sR := same_upd nR (o := .lst ((pr.filter fun x => !decide (x ∈ p)).map V.int ++ (p.filter fun x => !decide (x ∈ pr)).map V.int))
    refine ⟨R, (pr.filter fun x => !decide (x ∈ p)) ++ p.filter (fun x => !decide (x ∈ pr)), rfl, .of (by rw [upd_same, List.map_append]), fun ns r hpm hso nr => ?_⟩
    have e : ns = trnd pr es p := by
      refine pw_ext2 ?_ (hs.sublist List.filter_sublist) fun x => ?_
      · have nd : ns.Nodup := by
          rw [hpm.nodup_iff, List.nodup_append]
          refine ⟨(hnd.sublist s1).sublist List.filter_sublist, (hnd.sublist s2).sublist List.filter_sublist, fun x hx y hy z => ?_⟩
          subst z
          have h1 := (List.mem_filter.mp hx).1
          have h2 := (List.mem_filter.mp hy).2
          simp [h1] at h2
        exact (List.pairwise_and_iff.mpr ⟨hso, nd⟩).imp fun h => by
          obtain ⟨h1, h2⟩ := h
          omega
      · rw [hpm.mem_iff, List.mem_append, List.mem_filter, List.mem_filter]
        unfold trnd
        rw [List.mem_filter]
        by_cases a1 : x ∈ pr
        · have g1 : x ∈ es := s1.subset a1
          by_cases a2 : x ∈ p <;> simp [a1, a2, g1]
        · by_cases a2 : x ∈ p
          · have g2 : x ∈ es := s2.subset a2
            simp [a1, a2, g2]
          · simp [a1, a2]
    subst e
    exact q _ r (((sa.trans sb).trans sR).trans (same_upd nr)) upd_same
end

/-! ### the laws' sets in lists of their own -/
def LN (H0 H : Hp) (p : Addr) (ls : List (List Int)) : Prop := ∃ as : List Addr, H p = some (.lst (as.map V.ref)) ∧ as.length = ls.length ∧ ∀ (i : Nat) b l, as[i]? = some b → ls[i]? = some l → H0 b = none ∧ H b = some (.lst (l.map V.int))
theorem LN.ext {H0 H H' : Hp} {p : Addr} {ls : List (List Int)} (e : Same H H') (h : LN H0 H p ls) : LN H0 H' p ls := by
  obtain ⟨as, h1, h2, h3⟩ := h
  exact ⟨as, e _ _ h1, h2, fun i b l g1 g2 => ⟨(h3 i b l g1 g2).1, e _ _ (h3 i b l g1 g2).2⟩⟩
theorem LN.get {H0 H : Hp} {p : Addr} {ls : List (List Int)} (h : LN H0 H p ls) : ∃ as : List Addr, H p = some (.lst (as.map V.ref)) ∧ as.length = ls.length ∧ ∀ (i : Nat) v, (as.map V.ref)[i]? = some v → ∃ b l, v = .ref b ∧ ls[i]? = some l ∧ H b = some (.lst (l.map V.int)) := by
  obtain ⟨as, h1, h2, h3⟩ := h
  refine ⟨as, h1, h2, fun i v hv => ?_⟩
  rw [List.getElem?_map] at hv
  obtain ⟨b, hb, rfl⟩ := Option.map_eq_some_iff.mp hv
  have hi : i < ls.length := by rw [← h2]; exact (List.getElem?_eq_some_iff.mp hb).1
  exact ⟨b, ls[i], rfl, List.getElem?_eq_getElem hi, (h3 i b _ hb (List.getElem?_eq_getElem hi)).2⟩
theorem LN.fds {C : Addr} {K : PySem.W.Frag} {sa : SA} {N : Nds} {es : List Int} {L : Nat} {H0 H H' : Hp} {p : Addr} {ls : List (List Int)} (st : Sto C K H0 sa N es L) (n : H0 p = none) (f : FdS sa H H') (h : LN H0 H p ls) : LN H0 H' p ls := by
  obtain ⟨as, h1, h2, h3⟩ := h
  have g := bu_ne st n
  refine ⟨as, f _ _ g.1 g.2.1 g.2.2 h1, h2, fun i b l g1 g2 => ?_⟩
  obtain ⟨k1, k2⟩ := h3 i b l g1 g2
  have g' := bu_ne st k1
  exact ⟨k1, f _ _ g'.1 g'.2.1 g'.2.2 k2⟩
def sp_subsN : Sp := fun vs H Q _ => ∃ a, ∃ es : List Int, vs = [.ref a] ∧ H a = some (.lst (es.map V.int)) ∧ es.length ≤ 10 ∧ ∀ H' p, Same H H' → H p = none → LN H H' p (subs es) → Q (.ref p) H'
theorem LN.app {H0 H : Hp} {p q a b : Addr} {ls ms : List (List Int)} {xs ys : List V} (np : H p = none) (h1 : LN H0 H a ls) (h2 : LN H0 H b ms) (e1 : H a = some (.lst xs)) (e2 : H b = some (.lst ys)) : LN H0 (upd H p (.lst (xs ++ ys))) p (ls ++ ms) := by
  obtain ⟨as, g1, g2, g3⟩ := h1
  obtain ⟨bs, k1, k2, k3⟩ := h2
  have ex : xs = as.map V.ref := by rw [g1] at e1; exact (HO.lst.inj (Option.some.inj e1)).symm
  have ey : ys = bs.map V.ref := by rw [k1] at e2; exact (HO.lst.inj (Option.some.inj e2)).symm
  refine ⟨as ++ bs, by rw [upd_same, ex, ey, List.map_append], by rw [List.length_append, List.length_append, g2, k2], fun i c l hc hl => ?_⟩
  suffices z : H0 c = none ∧ H c = some (.lst (l.map V.int)) from ⟨z.1, same_upd np _ _ z.2⟩
  by_cases hi : i < as.length
  · rw [List.getElem?_append_left hi] at hc
    rw [List.getElem?_append_left (by omega)] at hl
    exact g3 i c l hc hl
  · rw [List.getElem?_append_right (by omega)] at hc
    rw [List.getElem?_append_right (by omega), ← g2] at hl
    exact k3 _ c l hc hl
section
variable {P : Program} {w : World} {K : PySem.W.Frag} {mg : Str → Option Value} {base : Heap}
theorem ok_subsN {f : Addr} {fd : FuncData} (F : Fun K "_law_subsets" "_law_subsets" s__law_subsets f fd) (M : Mg mg) : FnOk P w K mg base CX0 1 f fd ["entries"] sp_subsN := by
  refine F.ok sc__law_subsets (fun vs H Q E h => ?_) (fun cdv A outer s H vs Q E hr h => ?_)
  · obtain ⟨a, es, rfl, _⟩ := h
    rfl
  · obtain ⟨a, es, rfl, ha, hl, q⟩ := h
    refine ⟨_, (pss_cons (ps_set (i := 1) sc__law_subsets.nd rfl (.inl rfl) (pe_lst (pa_cons (pe_lst pa_nil) pa_nil)))
      (pss_cons (ps_for PassesOwn.never rfl (pi_list (pv 0)) (pg_name (i := 2) sc__law_subsets.nd rfl (.inr rfl)) (pss_one (ps_set (i := 1) sc__law_subsets.nd rfl (.inl rfl) (pe_op op_cat (pv 1) (pe_lc (own := [("part", 3)]) (g := gName 3) (tt := tYes) rfl sc__law_subsets.nd (pi_list (pv 1)) (blkOk_by (N := N__law_subsets) (sc := defScope s__law_subsets) (by decide +kernel)) (fun _ _ _ _ _ => (pg_name (i := 3) sc__law_subsets.nd rfl (.inl rfl))) (fun _ _ _ _ _ => pts_nil) (fun _ _ _ _ _ => (pe_op op_cat (pv 3) (pe_lst (pa_cons (pv 2) pa_nil)))))))))
      (pss_one (ps_ret (pv 1))))), ?_⟩
    refine ⟨by show 0 ≤ sizeLine; decide, fun p1 n1 => ?_⟩
    have s1 := same_upd n1 (o := .lst [])
    have e1 : (upd H p1 (.lst [])) p1 = some (.lst (([] : List Int).map V.int)) := upd_same
    generalize upd H p1 (.lst []) = H1 at s1 e1
    refine ⟨by show 1 ≤ sizeLine; decide, fun p2 n2 => ?_⟩
    have s2 := same_upd n2 (o := .lst [.ref p1])
    have e2 : (upd H1 p2 (.lst [.ref p1])) p2 = some (.lst ([p1].map V.ref)) := upd_same
    generalize upd H1 p2 (.lst [.ref p1]) = H2 at s2 e2
    refine ⟨_, rfl, a, rfl, ⟨_, .of ((s1.trans s2) _ _ ha)⟩, ?_⟩
    refine for_list (K := K) (a := a) (xs := es.map V.int) (fun i σ Hi => ∃ (p : Addr) (z y : Option V), σ = [some (.ref a), some (.ref p), z, y] ∧ Same H Hi ∧ H p = none ∧ LN H Hi p (subs (es.take i))) ⟨p2, none, none, rfl, s1.trans s2, s1.free n2, [p1], e2, rfl, fun i b l hb hl => ?_⟩ (fun i σ Hi _ hp => by obtain ⟨p, z, y, rfl, si, _⟩ := hp; exact .of (si _ _ ha)) (fun i x σ Hi hx hp => ?_) (fun σ Hn hp => ?_)
    · match i, hb, hl with
      | 0, hb, hl =>
        cases hb
        cases hl
        exact ⟨n1, s2 _ _ e1⟩
      | i + 1, hb, _ => simp at hb
    · obtain ⟨p, z, y, rfl, si, np, ll⟩ := hp
      rw [List.getElem?_map] at hx
      obtain ⟨e, he, rfl⟩ := Option.map_eq_some_iff.mp hx
      have hi : i < es.length := (List.getElem?_eq_some_iff.mp he).1
      have et : es.take (i + 1) = es.take i ++ [e] := by rw [List.take_add_one, he]; rfl
      have lsub : (subs (es.take i)).length ≤ 1024 := by
        rw [subs_len, List.length_take]
        exact Nat.le_trans (Nat.pow_le_pow_right (by decide) (show min i es.length ≤ 10 by omega)) (by decide)
      obtain ⟨as, g1, g2, g3⟩ := id ll
      obtain ⟨as', k1, k2, k3⟩ := ll.get
      refine ⟨_, rfl, _, rfl, p, rfl, ⟨_, .of k1⟩, fun D nD => ?_⟩
      refine lc_list (K := K) (a := p) (xs := as'.map V.ref) (fun j Hj => Same Hi Hj ∧ LN H Hj D ((subs (es.take i)).take j |>.map (· ++ [e]))) ⟨same_upd nD, [], upd_same, rfl, fun i b l hb _ => by simp at hb⟩ (fun j Hj _ hp => .of (hp.1 _ _ k1)) (fun j x Hj hx hp => ?_) (fun Hn hp => ?_)
      · obtain ⟨sj, cs, c1, c2, c3⟩ := hp
        obtain ⟨b, l, rfl, hl, hb⟩ := k3 j x hx
        have hj : j < (subs (es.take i)).length := (List.getElem?_eq_some_iff.mp hl).1
        refine ⟨rfl, ?_⟩
        refine ⟨_, rfl, _, rfl, by show 1 ≤ sizeLine; decide, fun q1 nq1 => ?_⟩
        have t1 := same_upd nq1 (o := .lst [.int e])
        have eq1 : (upd Hj q1 (.lst [.int e])) q1 = some (.lst [.int e]) := upd_same
        generalize upd Hj q1 (.lst [.int e]) = Hj1 at t1 eq1
        have ll1 : l.length ≤ 10 := by
          have := subs_le _ l (List.mem_of_getElem? hl)
          have h2 := this.1
          rw [List.length_take] at h2
          omega
        refine ⟨b, q1, _, _, rfl, rfl, (sj.trans t1) _ _ hb, eq1, by rw [List.length_map]; exact Nat.le_trans (m := 100) (by show _ + 1 ≤ 100; omega) (by decide), fun q2 nq2 => ?_⟩
        have t2 := same_upd nq2 (o := .lst (l.map V.int ++ [.int e]))
        have eq2 : (upd Hj1 q2 (.lst (l.map V.int ++ [.int e]))) q2 = some (.lst ((l ++ [e]).map V.int)) := by rw [upd_same, List.map_append]; rfl
        generalize upd Hj1 q2 (.lst (l.map V.int ++ [.int e])) = Hj2 at t2 eq2
        have sj2 := (sj.trans t1).trans t2
        have cD := (t1.trans t2) _ _ c1
        refine ⟨_, cD, ?_, ?_, ?_⟩
        · rw [List.length_map, c2, List.length_map, List.length_take]
          exact Nat.lt_of_le_of_lt (m := 1024) (by omega) (by decide)
        · intro x o hx'
          rw [upd_ne (ne_of_none hx' nD)]
          exact sj2 _ _ hx'
        · refine ⟨cs ++ [q2], by rw [upd_same, List.map_append]; rfl, ?_, fun i' b' l' hb' hl' => ?_⟩
          · rw [List.length_append, c2, List.take_add_one, hl, List.map_append, List.length_append]
            rfl
          · have lc : cs.length = j := by rw [c2, List.length_map, List.length_take]; omega
            have nbD : b' ≠ D := by
              by_cases hi' : i' < cs.length
              · rw [List.getElem?_append_left hi'] at hb'
                intro z
                subst z
                -- the new list's own address is not one of its items
                have := (c3 i' b' _ hb' (List.getElem?_eq_getElem (by rw [← c2]; exact hi'))).2
                rw [c1] at this
                have e := HO.lst.inj (Option.some.inj this)
                cases cs with
                | nil => simp at hi'
                | cons c cs =>
                  rw [List.map_cons] at e
                  generalize (List.map (fun x => x ++ [_]) _)[i'] = w at e
                  cases w with
                  | nil => cases e
                  | cons w1 w2 => rw [List.map_cons] at e; exact nomatch (List.cons.inj e).1
              · rw [List.getElem?_append_right (by omega)] at hb'
                have : b' = q2 := by
                  cases h : i' - cs.length with
                  | zero => rw [h] at hb'; exact (Option.some.inj hb').symm
                  | succ k => rw [h] at hb'; simp at hb'
                subst this
                exact (ne_of_none (t1 _ _ c1) nq2).symm
            rw [upd_ne nbD]
            rw [List.take_add_one, hl, List.map_append] at hl'
            by_cases hi' : i' < cs.length
            · rw [List.getElem?_append_left hi'] at hb'
              rw [List.getElem?_append_left (by rw [← c2]; exact hi')] at hl'
              exact ⟨(c3 i' b' l' hb' hl').1, (t1.trans t2) _ _ (c3 i' b' l' hb' hl').2⟩
            · rw [List.getElem?_append_right (by omega)] at hb'
              rw [List.getElem?_append_right (by rw [← c2]; omega), ← c2] at hl'
              cases h : i' - cs.length with
              | zero =>
                rw [h] at hb' hl'
                have e1 : q2 = b' := Option.some.inj hb'
                have e2 : l ++ [e] = l' := Option.some.inj hl'
                subst e1 e2
                exact ⟨((si.trans sj).trans t1).free nq2, eq2⟩
              | succ k => rw [h] at hb'; simp at hb'
      · obtain ⟨sn, ll2⟩ := hp
        have el : (as'.map V.ref).length = (subs (es.take i)).length := by rw [List.length_map, k2]
        rw [el, List.take_of_length_le (Nat.le_refl _)] at ll2
        obtain ⟨bs, b1, b2, b3⟩ := id ll2
        refine ⟨p, D, _, _, rfl, rfl, sn _ _ k1, b1, ?_, fun q' nq' => ?_⟩
        · rw [List.length_map, List.length_map, k2, b2, List.length_map]
          exact Nat.le_trans (m := 2048) (by omega) (by decide)
        · refine ⟨q', _, _, rfl, (si.trans sn).trans (same_upd nq'), (si.trans sn).free nq', ?_⟩
          rw [et, subs_snoc]
          exact LN.app (q := q') nq' (ll.ext sn) ll2 (sn _ _ k1) b1
    · obtain ⟨p, z, y, rfl, si, np, ll⟩ := hp
      rw [List.length_map, List.take_of_length_le (Nat.le_refl _)] at ll
      exact ⟨_, rfl, q Hn p si np ll⟩
end

/-! ### the law's costs and changes -/
def sp_lcosts : Sp := fun vs H Q _ => ∃ (d c ea : Addr) (es : List Int) (most : Nat), vs = [.ref d, .ref ea] ∧ Dr H d c ∧ EnA H ea d c es most ∧ most ≤ 8 ∧
  ∀ H' cd cst, Fd d H H' → Dr H' d c → H cd = none → H' cd = some (dctV (coP es cst)) → (∀ x k, cst x = some k → k ≤ 1000) → Q (.ref cd) H'
def sp_ckey : Sp := fun vs H Q _ => ∃ (t q : Addr) (k : Int) (p : List Int), vs = [.ref t] ∧ H t = some (.tup [.int k, .ref q]) ∧ H q = some (.lst (p.map V.int)) ∧ ∀ H' u, Same H H' → H' u = some (.tup [.int k, .int ((p.length : Nat) : Int), .ref q]) → Q (.ref u) H'
section
variable {P : Program} {w : World} {K : PySem.W.Frag} {mg : Str → Option Value} {base : Heap}
theorem ok_ckey {f : Addr} {fd : FuncData} (F : Fun K "_law_change_key" "_law_change_key" s__law_change_key f fd) (M : Mg mg) : FnOk P w K mg base CX0 1 f fd ["change"] sp_ckey := by
  refine F.ok sc__law_change_key (fun vs H Q E h => ?_) (fun cdv A0 outer s H vs Q E hr h => ?_)
  · obtain ⟨t, q, k, p, rfl, _⟩ := h
    rfl
  · obtain ⟨t, qa, k, p, rfl, ht, hq, q⟩ := h
    refine ⟨_, (pss_one (ps_ret (pe_tup (pa_cons (pe_ix (ix_tupK K) (pv 0) pe_int (fun _ _ => rfl)) (pa_cons (pe_callB (len_seqK K) (by rfl) M.len PySem.boot_len (pa_cons (pe_ix (ix_tupK K) (pv 0) pe_int (fun _ _ => rfl)) pa_nil)) (pa_cons (pe_ix (ix_tupK K) (pv 0) pe_int (fun _ _ => rfl)) pa_nil)))))), ?_⟩
    refine ⟨_, rfl, t, _, 0, _, rfl, rfl, .of ht, rfl, _, rfl, t, _, 1, _, rfl, rfl, .of ht, rfl, ?_⟩
    refine ⟨qa, _, rfl, .inl (.of hq), ?_⟩
    rw [List.length_map]
    refine ⟨_, rfl, t, _, 1, _, rfl, rfl, .of ht, rfl, by show 3 ≤ sizeLine; decide, fun u nu => ?_⟩
    exact q _ u (same_upd nu) upd_same
theorem ok_lcosts {f : Addr} {fd : FuncData} (F : Fun K "_law_costs" "_law_costs" s__law_costs f fd) (M : Mg mg) (c__law_next : Cl P w K mg base 1 "_law_next" sp_next) : FnOk P w K mg base CX0 2 f fd ["draw", "entries"] sp_lcosts := by
  refine F.ok sc__law_costs (fun vs H Q E h => ?_) (fun cdv A0 outer s H vs Q E hr h => ?_)
  · obtain ⟨d, c, ea, es, most, rfl, _⟩ := h
    rfl
  · obtain ⟨d, c, ea, es, most, rfl, dr, en, hmo, q⟩ := h
    have hnd : es.Nodup := en.2.2.2.1.imp fun h => by omega
    refine ⟨_, (pss_cons (ps_set (i := 2) sc__law_costs.nd rfl (.inl rfl) pe_dnewK)
      (pss_cons (ps_for PassesOwn.never rfl (pi_list (pv 1)) (pg_name (i := 3) sc__law_costs.nd rfl (.inl rfl)) (pss_one (ps_if (pt_truthK K (pe_u c__law_next hr (by first | decide | omega) (by rfl) (pa_cons (pv 0) (pa_cons pe_int pa_nil))) (by intro _; rfl)) (pss_one (ps_dput (hu_of hr) (pv 2) (pv 3) (pe_ifExp (pt_truthK K (pe_u c__law_next hr (by first | decide | omega) (by rfl) (pa_cons (pv 0) (pa_cons pe_int pa_nil))) (by intro _; rfl)) (pe_u c__law_next hr (by first | decide | omega) (by rfl) (pa_cons (pv 0) (pa_cons pe_int pa_nil))) (pe_u c__law_next hr (by first | decide | omega) (by rfl) (pa_cons (pv 0) (pa_cons pe_int pa_nil)))) rfl)) pss_nil)))
      (pss_one (ps_ret (pv 2))))), ?_⟩
    refine fun D nD => ?_
    have nDd := dr.nd nD
    have nDc := dr.nc nD
    refine ⟨_, rfl, ea, rfl, ⟨_, .of (by rw [upd_ne (ne_of_none en.2.2.1 nD)]; exact en.2.2.1)⟩, ?_⟩
    have em0 : (upd H D (.dK [])) D = some (dctV (coP (es.take 0) (fun _ => none))) := upd_same
    refine for_list (K := K) (a := ea) (xs := es.map V.int) (fun i σ Hi => ∃ (cst : Int → Option Nat) (z3 : Option V), σ = [some (.ref d), some (.ref ea), some (.ref D), z3] ∧ Dr Hi d c ∧ (∀ b x, b ≠ d → H b = some x → Hi b = some x) ∧ Hi D = some (dctV (coP (es.take i) cst)) ∧ (∀ x k, cst x = some k → k ≤ 1000) ∧ ∀ x, x ∉ es.take i → cst x = none) ⟨fun _ => none, none, rfl, dr.upd nDd nDc, fun b x n e => by rw [upd_ne (ne_of_none e nD)]; exact e, em0, (by intro x k h; cases h), fun _ _ => rfl⟩ (fun i σ Hi _ h => ?_) (fun i x σ Hi hx h => ?_) (fun σ Hn h => ?_)
    · obtain ⟨cst, z3, rfl, dri, fi, ed, hb, hn⟩ := h
      exact .of (fi _ _ en.1 en.2.2.1)
    · obtain ⟨cst, z3, rfl, dri, fi, ed, hb, hn⟩ := h
      rw [List.getElem?_map] at hx
      obtain ⟨e, hy, rfl⟩ := Option.map_eq_some_iff.mp hx
      have hi := (List.getElem?_eq_some_iff.mp hy).1
      have etk : es.take (i + 1) = es.take i ++ [e] := by rw [List.take_add_one, hy]; rfl
      have hne : e ∉ es.take i := fun z => by
        have h2 := List.nodup_append.mp ((List.take_append_drop i es).symm ▸ hnd : (es.take i ++ es.drop i).Nodup)
        have h3 : e ∈ es.drop i := by
          rw [List.drop_eq_getElem_cons hi]
          have : es[i] = e := by rw [List.getElem?_eq_getElem hi] at hy; exact Option.some.inj hy
          rw [this]
          exact List.mem_cons_self
        exact h2.2.2 e z e h3 rfl
      refine ⟨_, rfl, d, c, 5, rfl, dri, by decide, by decide, fun H2 r f2 e2 dr2 r0 r1 => ?_⟩
      have f2' : ∀ b x, b ≠ d → H b = some x → H2 b = some x := fun b x n hb => f2 b x n (fi b x n hb)
      have e2' := f2 _ _ nDd ed
      have fin : ∀ (v : Nat) (H3 : Hp), v ≤ 1000 → Dr H3 d c → (∀ b x, b ≠ d → H b = some x → H3 b = some x) → H3 D = some (dctV (coP (es.take i) cst)) → ∃ (cst' : Int → Option Nat) (z3 : Option V), [some (V.ref d), some (.ref ea), some (.ref D), some (.int e)] = [some (V.ref d), some (.ref ea), some (.ref D), z3] ∧ Dr (upd H3 D (.dK (putK (coW (es.take i) cst) (.inl e) (.int ((v : Nat) : Int))))) d c ∧ (∀ b x, b ≠ d → H b = some x → (upd H3 D (.dK (putK (coW (es.take i) cst) (.inl e) (.int ((v : Nat) : Int))))) b = some x) ∧ (upd H3 D (.dK (putK (coW (es.take i) cst) (.inl e) (.int ((v : Nat) : Int))))) D = some (dctV (coP (es.take (i + 1)) cst')) ∧ (∀ x k, cst' x = some k → k ≤ 1000) ∧ ∀ x, x ∉ es.take (i + 1) → cst' x = none := fun v H3 hv dr3 f3 e3 => by
        have same : ∀ x ∈ es.take i, (if x = e then some v else cst x) = cst x := fun x hx => if_neg fun z => hne (by rw [← z]; exact hx)
        refine ⟨fun x => if x = e then some v else cst x, _, rfl, dr3.upd nDd nDc, fun b x n hb => by rw [upd_ne (ne_of_none hb nD)]; exact f3 b x n hb, ?_, fun x k hk => ?_, fun x hx => ?_⟩
        · rw [upd_same, putK_new _ (by rw [co_val, if_neg hne]), etk, co_snoc, co_congr same]
          rw [if_pos rfl]
          unfold dctV coW
          rw [List.map_append]
          rfl
        · dsimp only at hk
          split at hk
          · cases hk
            exact hv
          · exact hb x k hk
        · rw [etk, List.mem_append, List.mem_singleton] at hx
          dsimp only
          rw [if_neg (fun z => hx (.inr z))]
          exact hn x fun z => hx (.inl z)
      have hl : (coW (es.take i) cst).length < sizeLine := by
        unfold coW
        rw [List.length_map]
        have h1 := en.2.2.2.2.2.1
        have h2 := co_len (es.take i) cst
        rw [List.length_take] at h2
        exact Nat.lt_of_le_of_lt (m := 8) (by omega) (by decide)
      refine ⟨_, rfl, ite2 (fun g => ?_) (fun g => ?_)⟩
      · refine ⟨_, rfl, d, c, 4, rfl, dr2, by decide, by decide, fun H3 r3 f3 e3 dr3 r30 r31 => ⟨_, rfl, ?_⟩⟩
        have f3' : ∀ b x, b ≠ d → H b = some x → H3 b = some x := fun b x n hb => f3 b x n (f2' b x n hb)
        have e3' := f3 _ _ nDd e2'
        refine ite2 (fun g => ?_) (fun g => ?_)
        · refine ⟨_, rfl, d, c, 4, rfl, dr3, by decide, by decide, fun H4 r4 f4 e4 dr4 r40 r41 => ?_⟩
          obtain ⟨v, rfl⟩ := Int.eq_ofNat_of_zero_le r40
          have e4' := f4 _ _ nDd e3'
          exact ⟨_, rfl, _, rfl, D, _, rfl, DPut.k (k := .inl e) (v := .int ((v : Nat) : Int)) e4' hl, fin v H4 (by omega) dr4 (fun b x n hb => f4 b x n (f3' b x n hb)) e4'⟩
        · refine ⟨_, rfl, d, c, 1001, rfl, dr3, by decide, by decide, fun H4 r4 f4 e4 dr4 r40 r41 => ?_⟩
          obtain ⟨v, rfl⟩ := Int.eq_ofNat_of_zero_le r40
          have e4' := f4 _ _ nDd e3'
          exact ⟨_, rfl, _, rfl, D, _, rfl, DPut.k (k := .inl e) (v := .int ((v : Nat) : Int)) e4' hl, fin v H4 (by omega) dr4 (fun b x n hb => f4 b x n (f3' b x n hb)) e4'⟩
      · have en2 : coP (es.take (i + 1)) cst = coP (es.take i) cst := by
          rw [etk, co_snoc, hn e hne]
          exact List.append_nil _
        exact ⟨cst, _, rfl, dr2, f2', by rw [en2]; exact e2', hb, fun x hx => hn x fun z => hx (by rw [etk]; exact List.mem_append_left _ z)⟩
    · obtain ⟨cst, z3, rfl, dri, fi, ed, hb, hn⟩ := h
      rw [List.length_map, List.take_of_length_le (Nat.le_refl _)] at ed hn
      exact ⟨_, rfl, q Hn D cst (fun b x n hb => fi b x n hb) dri nD ed hb⟩
theorem lay_all2 : ∀ {ds : List PyData}, (∀ d ∈ ds, d.canLay0 = true ∧ d.depth ≤ 40) → PyData.canLayAll0 ds = true ∧ PyData.depthAll ds ≤ 40
  | [], _ => ⟨rfl, by show 0 ≤ 40; omega⟩
  | d :: ds, h => by
    obtain ⟨h1, h2⟩ := lay_all2 (ds := ds) fun x hx => h x (List.mem_cons_of_mem _ hx)
    obtain ⟨g1, g2⟩ := h d List.mem_cons_self
    exact ⟨by unfold PyData.canLayAll0; rw [g1, h1]; rfl, by unfold PyData.depthAll; omega⟩
theorem shaped_list2 {ds : List PyData} (h : ∀ d ∈ ds, d.canLay0 = true ∧ d.depth ≤ 40) : SeqAt.shaped (.list ds) = true := by
  obtain ⟨h1, h2⟩ := lay_all2 h
  unfold SeqAt.shaped
  rw [Bool.and_eq_true]
  refine ⟨by unfold PyData.canLay0; exact h1, decide_eq_true (by unfold PyData.depth; omega)⟩
theorem ll_dpa {H : Hp} : ∀ {as : List Addr} {ls : List (List Int)}, as.length = ls.length → (∀ (i : Nat) (b : Addr) (l : List Int), as[i]? = some b → ls[i]? = some l → H b = some (.lst (l.map V.int))) → DpAll K H (as.map V.ref) (ls.map fun p => .list (p.map PyData.int))
  | [], [], _, _ => .nil
  | [], _ :: _, h, _ => by cases h
  | _ :: _, [], h, _ => by cases h
  | a :: as, l :: ls, hl, h => .cons (dp_ints (.of (h 0 a l rfl rfl))) (ll_dpa (Nat.succ.inj hl) fun i b l' h1 h2 => h (i + 1) b l' h1 h2)
theorem ints_lay (l : List Int) : (PyData.list (l.map PyData.int)).canLay0 = true ∧ (PyData.list (l.map PyData.int)).depth ≤ 40 := by
  have h := ints_shaped l
  unfold SeqAt.shaped at h
  rw [Bool.and_eq_true] at h
  refine ⟨h.1, ?_⟩
  have h2 : ∀ l : List Int, PyData.depthAll (l.map PyData.int) = 0 := by
    intro l
    induction l with
    | nil => rfl
    | cons x l ih =>
      rw [List.map_cons]
      unfold PyData.depthAll
      rw [ih]
      rfl
  unfold PyData.depth
  rw [h2]
  decide
theorem list_eqv (p q : List Int) : PyData.eqv (.list (p.map PyData.int)) (.list (q.map PyData.int)) = decide (p = q) := by
  unfold PyData.eqv
  exact eqv_intsL p q
/-- a change that is listed: its cost, and the set that stands in the list of the sets -/
def ChA (F : Addr → Prop) (H1 H : Hp) (y : V) (k : Nat) (p : List Int) : Prop := ∃ t q, y = .ref t ∧ H t = some (.tup [.int ((k : Nat) : Int), .ref q]) ∧ H1 q = some (.lst (p.map V.int)) ∧ F q
theorem ints_inj : ∀ {a b : List Int}, a.map V.int = b.map V.int → a = b
  | [], [], _ => rfl
  | [], _ :: _, h => by cases h
  | _ :: _, [], h => by cases h
  | x :: a, y :: b, h => by
    obtain ⟨h1, h2⟩ := List.cons.inj h
    rw [V.int.inj h1, ints_inj h2]
theorem ChA.uniq {F : Addr → Prop} {H1 H : Hp} {y : V} {k l : Nat} {p q : List Int} (h : ChA F H1 H y k p) (g : ChA F H1 H y l q) : k = l ∧ p = q := by
  obtain ⟨t, a, rfl, h1, h2, _⟩ := h
  obtain ⟨t', b, e, g1, g2, _⟩ := g
  cases e
  rw [h1] at g1
  have g1 := HO.tup.inj (Option.some.inj g1)
  obtain ⟨e1, e2⟩ := List.cons.inj g1
  obtain ⟨e2, _⟩ := List.cons.inj e2
  cases e2
  have e1 := V.int.inj e1
  rw [h2] at g2
  exact ⟨by omega, ints_inj (HO.lst.inj (Option.some.inj g2))⟩
theorem ck_shaped (a : Ck) : SeqAt.shaped (ckD a) = true := by
  obtain ⟨a1, a2, a3⟩ := a
  have h := ints_lay a3
  have hd := ck_dep (a1, a2, a3)
  unfold SeqAt.shaped
  rw [Bool.and_eq_true]
  refine ⟨?_, decide_eq_true (by omega)⟩
  unfold ckD PyData.canLay0 PyData.canLayAll0 PyData.canLayAll0 PyData.canLayAll0
  dsimp only
  rw [h.1]
  rfl
theorem ltD_ck (a b : Ck) : ltD (ckD a) (ckD b) = kLt a b := by
  obtain ⟨a1, a2, a3⟩ := a
  obtain ⟨b1, b2, b3⟩ := b
  have eI : ∀ x y : Nat, PyData.eqv (.int ((x : Nat) : Int)) (.int ((y : Nat) : Int)) = decide (x = y) := fun x y => by
    unfold PyData.eqv
    rw [Bool.eq_iff_iff, beq_iff_eq, decide_eq_true_iff]
    omega
  have lI : ∀ x y : Nat, ltD (.int ((x : Nat) : Int)) (.int ((y : Nat) : Int)) = decide (x < y) := fun x y => by
    unfold ltD
    rw [decide_eq_decide]
    omega
  have lL : ltD (.list (a3.map PyData.int)) (.list (b3.map PyData.int)) = lexI a3 b3 := by
    unfold ltD
    rw [PySem.W.dataLt_list, lt_ints]
  unfold ckD kLt ltD ltDs ltDs ltDs ltDs
  dsimp only
  rw [eI, eI, list_eqv, lI, lI, lL]
  by_cases e : a1 = b1
  · rw [if_pos e, if_pos (decide_eq_true e)]
    by_cases e2 : a2 = b2
    · rw [if_pos e2, if_pos (decide_eq_true e2)]
      by_cases e3 : a3 = b3
      · rw [if_pos (decide_eq_true e3), e3, lexI_irr]
      · rw [if_neg (fun z => e3 (of_decide_eq_true z))]
    · rw [if_neg e2, if_neg (fun z => e2 (of_decide_eq_true z))]
  · rw [if_neg e, if_neg (fun z => e (of_decide_eq_true z))]
theorem okD_ck (a b : Ck) : okD (ckD a) (ckD b) = true := by
  obtain ⟨a1, a2, a3⟩ := a
  obtain ⟨b1, b2, b3⟩ := b
  have al : PySem.W.alike (.list (a3.map PyData.int)) (.list (b3.map PyData.int)) = true := by
    unfold PySem.W.alike
    exact alike_ints _ _
  unfold ckD okD okDs okDs okDs okDs
  split
  · split
    · split
      · rfl
      · unfold okD
        exact al
    · rfl
  · rfl
theorem idx_nl : ∀ {l : List (List Int)} {m : Nat} {b a : List Int}, l[m]? = some b → m < l.idxOf a → b ≠ a
  | [], _, _, _, h, _ => by simp at h
  | x :: l, 0, b, a, h, hm => by
    have : x = b := Option.some.inj h
    subst this
    intro z
    subst z
    rw [List.idxOf_cons_self] at hm
    omega
  | x :: l, m + 1, b, a, h, hm => by
    have h : l[m]? = some b := by simpa using h
    by_cases e : x = a
    · subst e
      rw [List.idxOf_cons_self] at hm
      omega
    · have e1 : (x :: l).idxOf a = l.idxOf a + 1 := by rw [List.idxOf_cons, beq_false_of_ne e]; rfl
      exact idx_nl h (by omega)
def sp_lbest (K : PySem.W.Frag) : Sp := fun vs H Q _ => ∃ (tp ea pa cd : Addr) (es pr : List Int) (cst : Int → Option Nat) (t : Tr), vs = [.ref tp, .ref ea, .ref pa, .ref cd] ∧ H tp = some (.lst ((tru es t).map V.bl)) ∧ H ea = some (.lst (es.map V.int)) ∧ H pa = some (.lst (pr.map V.int)) ∧ H cd = some (dctV (coP es cst)) ∧ pr.Sublist es ∧ es.Pairwise (· < ·) ∧ es.length ≤ 5 ∧ t.ok es ∧ (∀ x k, cst x = some k → k ≤ 1000) ∧
  ∀ H' u o, Same H H' → Bst cst (Vld pr cst es t.ev) o → DpL (fun a => H a = none) K H' u (chD o) → Q u H'
theorem ok_lbest {f : Addr} {fd : FuncData} (F : Fun K "_law_best" "_law_best" s__law_best f fd) (M : Mg mg) (c__law_subsets : Cl P w K mg base 1 "_law_subsets" sp_subsN) (c__law_turned : Cl P w K mg base 1 "_law_turned" sp_trnd) (c__law_change_key : Cl P w K mg base 1 "_law_change_key" sp_ckey) : FnOk P w K mg base CX0 4 f fd ["truth", "entries", "present", "costs"] (sp_lbest K) := by
  obtain ⟨fk, hm__law_change_key, hdk⟩ := c__law_change_key.hd
  refine F.ok sc__law_best (fun vs H Q E h => ?_) (fun cdv A0 outer s H vs Q E hr h => ?_)
  · obtain ⟨tp, ea, pa, cd, es, pr, cst, t, rfl, _⟩ := h
    rfl
  · obtain ⟨tp, ea, pa, cd, es, pr, cst, t, rfl, htp, hea, hpa, hcd, hpr, hs, hl5, ok, hcb, q⟩ := h
    have hnd : es.Nodup := hs.imp fun h => by omega
    have lsub : (subs es).length ≤ 32 := by
      have hpow : 2 ^ es.length ≤ 2 ^ 5 := Nat.pow_le_pow_right (by decide) hl5
      rw [subs_len]
      omega
    refine ⟨_, (pss_cons (ps_set (i := 4) sc__law_best.nd rfl (.inl rfl) (pe_u c__law_subsets hr (by first | decide | omega) (by rfl) (pa_cons (pv 1) pa_nil)))
      (pss_cons (ps_set (i := 5) sc__law_best.nd rfl (.inl rfl) (pe_lst pa_nil))
      (pss_cons (ps_for PassesOwn.never rfl (pi_list (pv 4)) (pg_name (i := 6) sc__law_best.nd rfl (.inl rfl)) (pss_one (ps_if (PW.pt (pw_and (pt_val (pe_callB (allK K rfl) (by rfl) M.all (by decide +kernel) (pa_cons (pe_lc (own := [("entry", 7)]) (g := gName 7) (tt := tYes) rfl sc__law_best.nd (pi_list (pv 6)) (blkOk_by (N := N__law_best) (sc := defScope s__law_best) (by decide +kernel)) (fun _ _ _ _ _ => (pg_name (i := 7) sc__law_best.nd rfl (.inl rfl))) (fun _ _ _ _ _ => pts_nil) (fun _ _ _ _ _ => (pe_cmp (pc_din (hu_of hr) (pv 7) (pv 3)) rfl))) pa_nil))) (pw_and1 (pt_truthK K (pe_ix (ix_listK K) (pv 0) (pe_bmK K PySem.F.plainAttrs_list PySem.F.slot_list_index PySem.F.type_list_index (indexDK K (hu65 hr)) (pv 4) (pa_cons (pe_u c__law_turned hr (by first | decide | omega) (by rfl) (pa_cons (pv 2) (pa_cons (pv 6) pa_nil))) pa_nil)) (fun _ _ => rfl)) (by intro _; rfl))))) (pss_one (ps_expr (pe_bmK K PySem.F.plainAttrs_list PySem.F.slot_list_append PySem.F.type_list_append mt_append (pv 5) (pa_cons (pe_tup (pa_cons (pe_callB (cr_sum rfl) (by rfl) M.sum (by decide +kernel) (pa_cons (pe_lc (own := [("entry", 7)]) (g := gName 7) (tt := tYes) rfl sc__law_best.nd (pi_list (pv 6)) (blkOk_by (N := N__law_best) (sc := defScope s__law_best) (by decide +kernel)) (fun _ _ _ _ _ => (pg_name (i := 7) sc__law_best.nd rfl (.inl rfl))) (fun _ _ _ _ _ => pts_nil) (fun _ _ _ _ _ => (pe_dget (hu_of hr) (pv 3) (pv 7) (fun _ _ => rfl)))) pa_nil)) (pa_cons (pv 6) pa_nil))) pa_nil)))) pss_nil)))
      (pss_one (ps_ret (pe_ifExp (pt_truthK K (pv 5) (by intro _; rfl)) (pe_callBK (cr_min1K (P := P) (w := w) (K := K) (mg := mg) (base := base) (k := 1) hr (by first | decide | omega)) (by rfl) M.min (by decide +kernel) (pa_cons (pv 5) pa_nil) (pk_cons (C8.pe_gc (v := .ref _) (by rfl) ⟨_, hm__law_change_key, rfl⟩) pk_nil)) pe_non)))))), ?_⟩
    refine ⟨_, rfl, ea, es, rfl, hea, by omega, fun H1 sp s1 nsp ll => ?_⟩
    obtain ⟨as0, eS0, las0, g0'⟩ := ll
    have g0 : ∀ (i : Nat) (b : Addr) (l : List Int), as0[i]? = some b → (subs es)[i]? = some l → H1 b = some (.lst (l.map V.int)) := fun i b l h1 h2 => (g0' i b l h1 h2).2
    have dpS : Dp K H1 (.ref sp) (.list ((subs es).map fun p => .list (p.map PyData.int))) := .lst (.of eS0) (ll_dpa las0 g0)
    refine ⟨Nat.zero_le _, fun R nR => ?_⟩
    have nRs : sp ≠ R := ne_of_none eS0 nR
    have sR := same_upd nR (o := .lst [])
    have eR : (upd H1 R (.lst [])) R = some (.lst []) := upd_same
    have vb0 : ∃ vb : List Int → Bool, vb = fun l => (l.all fun x => (cst x).isSome) && t.ev fun x => decide (x ∈ pr) != decide (x ∈ l) := ⟨_, rfl⟩
    obtain ⟨vb, hvb⟩ := vb0
    refine ⟨_, rfl, sp, rfl, ⟨_, .of (sR _ _ eS0)⟩, ?_⟩
    refine for_list (K := K) (a := sp) (xs := as0.map V.ref) (fun i σ Hi => Same H1 Hi ∧ (∃ z6, σ = [some (.ref tp), some (.ref ea), some (.ref pa), some (.ref cd), some (.ref sp), some (.ref R), z6, none]) ∧ ∃ ys : List V, Hi R = some (.lst ys) ∧ ys.length = (((subs es).take i).filter vb).length ∧ ∀ (m : Nat) y p, ys[m]? = some y → (((subs es).take i).filter vb)[m]? = some p → ChA (fun a => H a = none) H1 Hi y (cS cst p) p) ⟨sR, ⟨none, rfl⟩, [], eR, rfl, by intro m y p h; simp at h⟩ (fun i σ Hi _ hp => .of (hp.1 _ _ eS0)) (fun i y σ Hi hy hp => ?_) (fun σ Hn hp => ?_)
    · obtain ⟨si, ⟨z6, rfl⟩, ys, eRi, lys, gys⟩ := hp
      rw [List.getElem?_map] at hy
      obtain ⟨b, hb0, rfl⟩ := Option.map_eq_some_iff.mp hy
      have hi : i < (subs es).length := by rw [← las0]; exact (List.getElem?_eq_some_iff.mp hb0).1
      have hb1 := g0 i b _ hb0 (List.getElem?_eq_getElem hi)
      have hbF := (g0' i b _ hb0 (List.getElem?_eq_getElem hi)).1
      have hl := List.getElem?_eq_getElem hi
      have hsl : (subs es)[i].Sublist es := subs_sub2 es _ (List.getElem_mem hi)
      generalize (subs es)[i] = l at hb1 hl hsl
      have ll10 := hsl.length_le
      have etk : ((subs es).take (i + 1)).filter vb = ((subs es).take i).filter vb ++ if vb l = true then [l] else [] := by
        rw [List.take_add_one, hl, List.filter_append]
        show _ ++ List.filter _ [l] = _
        rw [List.filter_cons, List.filter_nil]
      have sHi : Same H Hi := s1.trans si
      have hbi := si _ _ hb1
      refine ⟨_, rfl, b, rfl, ⟨_, .of hbi⟩, fun D nD => ?_⟩
      refine lc_list (K := K) (a := b) (xs := l.map V.int) (fun j Hj => Same Hi Hj ∧ Hj D = some (.lst ((l.take j).map fun x => V.bl (cst x).isSome))) ⟨same_upd nD, upd_same⟩ (fun j Hj _ hp => .of (hp.1 _ _ hbi)) (fun j y Hj hy hp => ?_) (fun H2 hp => ?_)
      · obtain ⟨sj, eD⟩ := hp
        rw [List.getElem?_map] at hy
        obtain ⟨x, hx, rfl⟩ := Option.map_eq_some_iff.mp hy
        have hj : j < l.length := (List.getElem?_eq_some_iff.mp hx).1
        have hxe : x ∈ es := hsl.subset (List.mem_of_getElem? hx)
        refine ⟨rfl, ?_⟩
        refine ⟨_, rfl, _, rfl, cd, _, rfl, .inl ⟨coW es cst, .inl x, .inl (sj _ _ (sHi _ _ hcd)), rfl, rfl⟩, ?_⟩
        rw [co_val, if_pos hxe]
        refine ⟨_, eD, ?_, fun z o hz => ?_, ?_⟩
        · rw [List.length_map, List.length_take]
          exact Nat.lt_of_le_of_lt (m := 10) (by omega) (by decide)
        · rw [upd_ne (ne_of_none hz nD)]
          exact sj _ _ hz
        · rw [upd_same, List.take_add_one, hx, List.map_append, Option.isSome_map]
          rfl
      obtain ⟨s2, eD⟩ := hp
      rw [List.length_map, List.take_of_length_le (Nat.le_refl _)] at eD
      refine ⟨D, l.map fun x => (cst x).isSome, rfl, .of (by rw [eD, List.map_map]; rfl), _, rfl, ?_⟩
      have eall : ((l.map fun x => (cst x).isSome).all id) = l.all fun x => (cst x).isSome := by rw [List.all_map]; rfl
      rw [eall]
      have ys2 := s2 _ _ eRi
      have skip : ∀ H3, Same Hi H3 → vb l = false → Same H1 H3 ∧ (∃ z6, [some (V.ref tp), some (.ref ea), some (.ref pa), some (.ref cd), some (.ref sp), some (.ref R), some (.ref b), none] = [some (.ref tp), some (.ref ea), some (.ref pa), some (.ref cd), some (.ref sp), some (.ref R), z6, none]) ∧ ∃ ys : List V, H3 R = some (.lst ys) ∧ ys.length = (((subs es).take (i + 1)).filter vb).length ∧ ∀ (m : Nat) y p, ys[m]? = some y → (((subs es).take (i + 1)).filter vb)[m]? = some p → ChA (fun a => H a = none) H1 H3 y (cS cst p) p := fun H3 s3 hv => by
        rw [etk, hv, if_neg Bool.false_ne_true, List.append_nil]
        refine ⟨si.trans s3, ⟨_, rfl⟩, ys, s3 _ _ eRi, lys, fun m y p h1 h2 => ?_⟩
        obtain ⟨t', q', e1, e2, e3⟩ := gys m y p h1 h2
        exact ⟨t', q', e1, s3 _ _ e2, e3⟩
      cases hA : (l.all fun x => (cst x).isSome) with
      | false =>
        refine iteF (iteF ?_)
        exact skip H2 s2 (by rw [hvb]; dsimp only; rw [hA]; rfl)
      | true =>
        refine iteT ?_
        have sH2 := sHi.trans s2
        have eS2 := s2 _ _ (si _ _ eS0)
        refine ⟨_, rfl, _, rfl, .inl ⟨rfl, _, .inl (.inl eS2)⟩, _, rfl, _, rfl, pa, b, pr, es, l, rfl, sH2 _ _ hpa, s2 _ _ hbi, hpr, hsl, hs, by omega, fun H3 r s3 er => ?_⟩
        have hm : trnd pr es l ∈ subs es := subs_mem hs List.filter_sublist
        have hj := List.idxOf_lt_length_of_mem hm
        have s13 := (si.trans s2).trans s3
        refine ⟨sp, _, .list ((trnd pr es l).map PyData.int), _, (subs es).idxOf (trnd pr es l), .list ((trnd pr es l).map PyData.int), rfl, rfl, Dp.ext s13 _ _ dpS, dp_ints (.of er), shaped_list2 (fun d hd => ?_), ints_shaped _, ?_, ints_eqv _, fun m z hm' hz => ?_, ?_⟩
        · obtain ⟨p, _, rfl⟩ := List.mem_map.mp hd
          exact ints_lay p
        · rw [List.getElem?_map, List.getElem?_eq_getElem hj, List.getElem_idxOf hj]
          rfl
        · rw [List.getElem?_map] at hz
          obtain ⟨p, hp, rfl⟩ := Option.map_eq_some_iff.mp hz
          rw [list_eqv]
          refine decide_eq_false fun e => ?_
          subst e
          exact idx_nl hp hm' rfl
        · have etv : t.ev (fun e => decide (e ∈ trnd pr es l)) = t.ev fun x => decide (x ∈ pr) != decide (x ∈ l) := tr_agree ok fun e he => by
            unfold trnd
            rw [Bool.eq_iff_iff, decide_eq_true_iff, List.mem_filter]
            exact ⟨fun h => h.2, fun h => ⟨he, h⟩⟩
          refine ⟨tp, _, _, .bl (t.ev fun x => decide (x ∈ pr) != decide (x ∈ l)), rfl, rfl, .of (s3 _ _ (sH2 _ _ htp)), atI_nat (j := (subs es).idxOf (trnd pr es l)) ?_, _, rfl, ?_⟩
          · unfold tru
            rw [List.getElem?_map, List.getElem?_map, List.getElem?_eq_getElem hj, List.getElem_idxOf hj, ← etv]
            rfl
          cases hE : (t.ev fun x => decide (x ∈ pr) != decide (x ∈ l)) with
          | false =>
            refine iteF ?_
            exact skip H3 (s2.trans s3) (by rw [hvb]; dsimp only; rw [hA, hE]; rfl)
          | true =>
            refine iteT ?_
            have hv : vb l = true := by rw [hvb]; dsimp only; rw [hA, hE]; rfl
            have s3i := s2.trans s3
            have eR3 := s3i _ _ eRi
            have hb3 := s3i _ _ hbi
            refine ⟨_, rfl, .inl ⟨rfl, _, .inl (.inl eR3)⟩, _, rfl, b, rfl, ⟨_, .of hb3⟩, fun D2 nD2 => ?_⟩
            refine lc_list (K := K) (a := b) (xs := l.map V.int) (fun j Hj => Same H3 Hj ∧ Hj D2 = some (.lst (((l.take j).map fun x => (((cst x).getD 0 : Nat) : Int)).map V.int))) ⟨same_upd nD2, upd_same⟩ (fun j Hj _ hp => .of (hp.1 _ _ hb3)) (fun j y Hj hy hp => ?_) (fun H4 hp => ?_)
            · obtain ⟨sj, eD2⟩ := hp
              rw [List.getElem?_map] at hy
              obtain ⟨x, hx, rfl⟩ := Option.map_eq_some_iff.mp hy
              have hj : j < l.length := (List.getElem?_eq_some_iff.mp hx).1
              have hxl := List.mem_of_getElem? hx
              have hxe : x ∈ es := hsl.subset hxl
              obtain ⟨c, hc⟩ := Option.isSome_iff_exists.mp (List.all_eq_true.mp hA x hxl)
              refine ⟨rfl, ?_⟩
              refine ⟨_, rfl, _, rfl, cd, .int ((c : Nat) : Int), rfl, .inl ⟨coW es cst, .inl x, .inl (sj _ _ (s3i _ _ (sHi _ _ hcd))), rfl, by rw [co_val, if_pos hxe, hc]; rfl⟩, ?_⟩
              refine ⟨_, eD2, ?_, fun z o hz => ?_, ?_⟩
              · rw [List.length_map, List.length_map, List.length_take]
                exact Nat.lt_of_le_of_lt (m := 10) (by omega) (by decide)
              · rw [upd_ne (ne_of_none hz nD2)]
                exact sj _ _ hz
              · rw [upd_same, List.take_add_one, hx, List.map_append, List.map_append]
                show _ = some (HO.lst (_ ++ [V.int (((cst x).getD 0 : Nat) : Int)]))
                rw [hc]
                rfl
            obtain ⟨s4, eD2⟩ := hp
            rw [List.length_map, List.take_of_length_le (Nat.le_refl _)] at eD2
            refine ⟨D2, _, rfl, .of eD2, _, rfl, by show 2 ≤ sizeLine; decide, fun T nT => ?_⟩
            rw [castn_sum]
            have sT := same_upd nT (o := .tup [.int ((cS cst l : Nat) : Int), .ref b])
            have eT : (upd H4 T (.tup [.int ((cS cst l : Nat) : Int), .ref b])) T = some (.tup [.int ((cS cst l : Nat) : Int), .ref b]) := upd_same
            show ∃ _, _
            refine ⟨R, ys, _, rfl, rfl, sT _ _ (s4 _ _ eR3), ?_, ?_⟩
            · have h1 := List.length_filter_le vb ((subs es).take i)
              rw [List.length_take] at h1
              exact Nat.lt_of_le_of_lt (m := 32) (by omega) (by decide)
            have si4 : Same Hi (upd H4 T (.tup [.int ((cS cst l : Nat) : Int), .ref b])) := (s3i.trans s4).trans sT
            have nTR : T ≠ R := fun z => by
              rw [z, s4 _ _ eR3] at nT
              cases nT
            have keep : ∀ b o, b ≠ R → (upd H4 T (.tup [.int ((cS cst l : Nat) : Int), .ref b])) b = some o → True := fun _ _ _ _ => trivial
            refine ⟨fun z o hz => ?_, ⟨_, rfl⟩, ys ++ [.ref T], upd_same, ?_, fun m y p h1 h2 => ?_⟩
            · rw [upd_ne (ne_of_none hz nR)]
              exact si4 _ _ (si _ _ hz)
            · rw [etk, if_pos hv, List.length_append, List.length_append, lys]
              rfl
            · rw [etk, if_pos hv] at h2
              by_cases hk : m < ys.length
              · rw [List.getElem?_append_left hk] at h1
                rw [List.getElem?_append_left (by omega)] at h2
                obtain ⟨t', q', e1, e2, e3⟩ := gys m y p h1 h2
                refine ⟨t', q', e1, ?_, e3⟩
                rw [upd_ne (fun z => by rw [z, eRi] at e2; cases e2)]
                exact si4 _ _ e2
              · rw [List.getElem?_append_right (by omega)] at h1
                rw [List.getElem?_append_right (by omega), ← lys] at h2
                cases hz : m - ys.length with
                | zero =>
                  rw [hz] at h1 h2
                  cases h1
                  cases h2
                  exact ⟨T, b, rfl, by rw [upd_ne nTR]; exact eT, hb1, hbF⟩
                | succ k => rw [hz] at h1; simp at h1
    · obtain ⟨sn, ⟨z6, rfl⟩, ys, eRn, lys, gys⟩ := hp
      rw [List.length_map, las0, List.take_of_length_le (Nat.le_refl _)] at lys gys
      have hV : ∀ p, Vld pr cst es t.ev p ↔ p ∈ (subs es).filter vb := fun p => by
        rw [List.mem_filter, hvb]
        dsimp only
        rw [Bool.and_eq_true, List.all_eq_true]
        exact ⟨fun ⟨h1, h2, h3⟩ => ⟨subs_mem hs h1, h2, h3⟩, fun ⟨h1, h2, h3⟩ => ⟨subs_sub2 es p h1, h2, h3⟩⟩
      generalize (subs es).filter vb = ls at lys gys hV
      have s1n : Same H Hn := s1.trans sn
      refine ⟨_, rfl, !ys.isEmpty, .inl ⟨ys, .of eRn, rfl⟩, ?_⟩
      have mem : ∀ y, y ∈ ys → ∃ p, p ∈ ls ∧ ChA (fun a => H a = none) H1 Hn y (cS cst p) p := fun y hy => by
        obtain ⟨m, hm, e⟩ := List.getElem_of_mem hy
        have hm2 : m < ls.length := by rw [← lys]; exact hm
        exact ⟨ls[m], List.getElem_mem hm2, gys m y ls[m] (by rw [List.getElem?_eq_getElem hm, e]) (List.getElem?_eq_getElem hm2)⟩
      have mem2 : ∀ p, p ∈ ls → ∃ y, y ∈ ys ∧ ChA (fun a => H a = none) H1 Hn y (cS cst p) p := fun p hp => by
        obtain ⟨m, hm, e⟩ := List.getElem_of_mem hp
        have hm2 : m < ys.length := by rw [lys]; exact hm
        exact ⟨ys[m], List.getElem_mem hm2, gys m ys[m] p (List.getElem?_eq_getElem hm2) (by rw [List.getElem?_eq_getElem hm, e])⟩
      by_cases ne : ys = []
      · subst ne
        refine iteF ?_
        refine q Hn .non none s1n (fun p hp => ?_) .non
        obtain ⟨y, hy, _⟩ := mem2 p ((hV p).mp hp)
        cases hy
      · have hne : (!ys.isEmpty) = true := by cases ys with | nil => exact absurd rfl ne | cons => rfl
        show if (!ys.isEmpty) = true then _ else _
        refine if_pos hne ▸ ?_
        obtain ⟨g, hg⟩ : ∃ g : V → Ck, ∀ y k p, ChA (fun a => H a = none) H1 Hn y k p → g y = (k, p.length, p) := by
          classical
          refine ⟨fun y => if h : ∃ kp : Nat × List Int, ChA (fun a => H a = none) H1 Hn y kp.1 kp.2 then ((Classical.choose h).1, (Classical.choose h).2.length, (Classical.choose h).2) else (0, 0, []), fun y k p h => ?_⟩
          have hx : ∃ kp : Nat × List Int, ChA (fun a => H a = none) H1 Hn y kp.1 kp.2 := ⟨(k, p), h⟩
          obtain ⟨e1, e2⟩ := ChA.uniq (Classical.choose_spec hx) h
          dsimp only
          rw [dif_pos hx, e1, e2]
        refine ⟨_, rfl, R, fk, sp_ckey, ys, fun y => ckD (g y), fun y z => ltD (ckD (g y)) (ckD (g z)), rfl, rfl, .of eRn, ne, hdk, fun y hy Ha Rr sa kq => ?_, fun y _ => ck_shaped _, fun y _ z _ => okD_ck _ _, fun _ _ => rfl, ?_, fun H' s' y hy => ?_⟩
        · obtain ⟨p, hp, hc⟩ := mem y hy
          have eg := hg _ _ _ hc
          obtain ⟨tt', qa, rfl, e1, e2, e3⟩ := hc
          refine ⟨tt', qa, _, p, rfl, sa _ _ e1, sa _ _ (sn _ _ e2), fun H2 u s2 eu => kq (.ref u) H2 s2 fun H3 kp => ?_⟩
          dsimp only
          rw [eg]
          exact .tup (.of (kp.2 _ _ (.inl ⟨_, rfl⟩) eu)) (.cons (.int _) (.cons (.int _) (.cons (dp_ints (.of (kp.1 _ _ (sn _ _ e2)))) .nil)))
        · rw [show (fun y z : V => ltD (ckD (g y)) (ckD (g z))) = fun y z => kLt (g y) (g z) from funext fun y => funext fun z => ltD_ck _ _]
          exact ⟨fun _ _ h => kLt_asym h, fun _ _ _ h k => kLt_ntr k h⟩
        · obtain ⟨h1, h2⟩ := hy
          obtain ⟨p, hp, hc⟩ := mem y h1
          have eg := hg _ _ _ hc
          have dy : DpL (fun a => H a = none) K H' y (chD (some (kyP cst p))) := by
            obtain ⟨tt', qa, rfl, e1, e2, e3⟩ := hc
            exact .tup (.of (s' _ _ e1)) (.cons (.int _) (.cons (.lst e3 (s' _ _ (sn _ _ e2)) (DpL.ofInts _)) .nil))
          refine q H' y (some (kyP cst p)) (s1n.trans s') ⟨⟨p, (hV p).mpr hp, rfl⟩, fun p' hp' => ?_⟩ dy
          obtain ⟨y', hy', hc'⟩ := mem2 p' ((hV p').mp hp')
          have h3 := h2 y' hy'
          dsimp only at h3
          rw [ltD_ck, eg, hg _ _ _ hc'] at h3
          exact h3
end

/-! ### conditions as truth tables over all sets -/
def tt (es : List Int) (a : Bd) : List Bool := (subs es).map fun p => a.ev fun e => decide (e ∈ p)
theorem tt_len (es : List Int) (a : Bd) : (tt es a).length = 2 ^ es.length := by rw [tt, List.length_map, subs_len]
/-- which sets have an input row: by the bits of their places -/
def sbr : List Int → List (List Int)
  | [] => [[]]
  | e :: r => sbr r ++ (sbr r).map (· ++ [e])
theorem sbr_eq : ∀ r : List Int, subs r.reverse = sbr r
  | [] => rfl
  | e :: r => by
    rw [List.reverse_cons, subs_snoc, sbr_eq r]
    rfl
theorem sbr_len : ∀ r : List Int, (sbr r).length = 2 ^ r.length
  | [] => rfl
  | e :: r => by
    show (sbr r ++ (sbr r).map _).length = 2 ^ (r.length + 1)
    rw [List.length_append, List.length_map, sbr_len r, Nat.pow_succ]
    omega
theorem sbr_mem : ∀ (r : List Int) (p : List Int), p ∈ sbr r → ∀ e ∈ p, e ∈ r
  | [], p, h, e, he => by
    have : p = [] := by simpa [sbr] using h
    rw [this] at he
    cases he
  | x :: r, p, h, e, he => by
    rcases List.mem_append.mp h with h | h
    · exact List.mem_cons_of_mem _ (sbr_mem r p h e he)
    · obtain ⟨q, hq, rfl⟩ := List.mem_map.mp h
      rcases List.mem_append.mp he with he | he
      · exact List.mem_cons_of_mem _ (sbr_mem r q hq e he)
      · rw [List.mem_singleton.mp he]
        exact List.mem_cons_self
theorem tb_add {m r k : Nat} (hk : k < m) : (2 ^ m + r).testBit k = r.testBit k := Nat.testBit_two_pow_add_gt hk r
theorem tb_top {m r : Nat} (hr : r < 2 ^ m) : (2 ^ m + r).testBit m = true := by
  rw [Nat.testBit_two_pow_add_eq, Nat.testBit_lt_two_pow hr]
  rfl
theorem sbr_bit : ∀ (r : List Int) (n : Nat) (p : List Int) (k : Nat) (e : Int), r.Nodup → (sbr r)[n]? = some p → r.reverse[k]? = some e → decide (e ∈ p) = n.testBit k
  | [], _, _, k, _, _, _, h => by simp at h
  | x :: r, n, p, k, e, hn, hp, he => by
    rw [List.nodup_cons] at hn
    rw [List.reverse_cons] at he
    have hp : (sbr r ++ (sbr r).map (· ++ [x]))[n]? = some p := hp
    have lr : r.reverse.length = r.length := List.length_reverse
    have ls := sbr_len r
    by_cases h1 : n < (sbr r).length
    · rw [List.getElem?_append_left h1] at hp
      by_cases h2 : k < r.reverse.length
      · rw [List.getElem?_append_left h2] at he
        exact sbr_bit r n p k e hn.2 hp he
      · rw [List.getElem?_append_right (by omega)] at he
        have hk : k = r.length := by
          cases h : k - r.reverse.length with
          | zero => omega
          | succ j => rw [h] at he; simp at he
        subst hk
        rw [lr, Nat.sub_self] at he
        have : x = e := Option.some.inj he
        subst this
        rw [Nat.testBit_lt_two_pow (by rw [← ls]; exact h1)]
        exact decide_eq_false fun z => hn.1 (sbr_mem r p (List.mem_of_getElem? hp) x z)
    · rw [List.getElem?_append_right (by omega), List.getElem?_map] at hp
      obtain ⟨q, hq, rfl⟩ := Option.map_eq_some_iff.mp hp
      have hlt : n - (sbr r).length < 2 ^ r.length := by
        rw [← ls]
        exact (List.getElem?_eq_some_iff.mp hq).1
      have en : n = 2 ^ r.length + (n - (sbr r).length) := by omega
      by_cases h2 : k < r.reverse.length
      · rw [List.getElem?_append_left h2] at he
        have ih := sbr_bit r _ q k e hn.2 hq he
        rw [en, tb_add (show k < r.length by omega), ← ih, decide_eq_decide, List.mem_append, List.mem_singleton]
        have hne : e ≠ x := fun z => by
          subst z
          exact hn.1 (List.mem_reverse.mp (List.mem_of_getElem? he))
        exact ⟨fun g => g.elim id (fun z => absurd z hne), .inl⟩
      · rw [List.getElem?_append_right (by omega)] at he
        have hk : k = r.length := by
          cases h : k - r.reverse.length with
          | zero => omega
          | succ j => rw [h] at he; simp at he
        subst hk
        rw [lr, Nat.sub_self] at he
        have : x = e := Option.some.inj he
        subst this
        rw [en, tb_top hlt]
        exact decide_eq_true (List.mem_append_right _ (List.mem_singleton.mpr rfl))
theorem subs_bit {es : List Int} (hn : es.Nodup) {n k : Nat} {p : List Int} {e : Int} (hp : (subs es)[n]? = some p) (he : es[k]? = some e) : decide (e ∈ p) = n.testBit k := by
  have h := sbr_eq es.reverse
  rw [List.reverse_reverse] at h
  rw [h] at hp
  exact sbr_bit es.reverse n p k e (by rw [List.nodup_iff_pairwise_ne, List.pairwise_reverse]; exact (List.nodup_iff_pairwise_ne.mp hn).imp fun h => h.symm) hp (by rw [List.reverse_reverse]; exact he)
/-- the place of a set with one input row put in or left out -/
def fxI (k : Nat) (b : Bool) (n : Nat) : Nat := (if n.testBit k = true then n - 2 ^ k else n) + (if b = true then 2 ^ k else 0)
theorem fxI_eq (k : Nat) (b : Bool) (n : Nat) : fxI k b n = 2 ^ k * (2 * (n / 2 ^ k / 2) + (if b = true then 1 else 0)) + n % 2 ^ k := by
  have hp : 0 < 2 ^ k := Nat.two_pow_pos k
  have en := Nat.div_add_mod n (2 ^ k)
  have h2 := Nat.div_add_mod (n / 2 ^ k) 2
  unfold fxI
  rw [Nat.testBit_eq_decide_div_mod_eq, Nat.mul_add]
  generalize n / 2 ^ k = c at *
  generalize n % 2 ^ k = r at *
  have hb : 2 ^ k * (if b = true then 1 else 0) = if b = true then 2 ^ k else 0 := by cases b <;> simp
  rw [hb]
  by_cases h : c % 2 = 1
  · rw [if_pos (decide_eq_true h)]
    have hc : c = 2 * (c / 2) + 1 := by omega
    have e1 : 2 ^ k * c = 2 ^ k * (2 * (c / 2)) + 2 ^ k := by
      conv => lhs; rw [hc, Nat.mul_add, Nat.mul_one]
    omega
  · rw [if_neg (by rw [decide_eq_true_iff]; exact h)]
    have hc : c = 2 * (c / 2) := by omega
    have e1 : 2 ^ k * c = 2 ^ k * (2 * (c / 2)) := by
      conv => lhs; rw [hc]
    omega
theorem fxI_bit (k : Nat) (b : Bool) (n j : Nat) : (fxI k b n).testBit j = if j = k then b else n.testBit j := by
  have hp : 0 < 2 ^ k := Nat.two_pow_pos k
  rw [fxI_eq, Nat.testBit_two_pow_mul_add _ (Nat.mod_lt n hp)]
  by_cases h1 : j < k
  · rw [if_pos h1, if_neg (by omega), Nat.testBit_mod_two_pow, decide_eq_true h1, Bool.true_and]
  · rw [if_neg h1]
    by_cases h2 : j = k
    · subst h2
      rw [if_pos rfl, Nat.sub_self, Nat.testBit_zero]
      cases b
      · exact decide_eq_false (by rw [if_neg Bool.false_ne_true]; omega)
      · exact decide_eq_true (by rw [if_pos rfl]; omega)
    · rw [if_neg h2]
      obtain ⟨d, rfl⟩ : ∃ d, j = k + (d + 1) := ⟨j - k - 1, by omega⟩
      rw [Nat.add_sub_cancel_left, Nat.testBit_succ]
      have e : (2 * (n / 2 ^ k / 2) + (if b = true then 1 else 0)) / 2 = n / 2 ^ k / 2 := by
        cases b
        · rw [if_neg Bool.false_ne_true]; omega
        · rw [if_pos rfl]; omega
      rw [e, ← Nat.testBit_succ, Nat.testBit_div_two_pow, Nat.add_comm]
theorem fxI_lt {k m n : Nat} {b : Bool} (hk : k < m) (hn : n < 2 ^ m) : fxI k b n < 2 ^ m := by
  refine Nat.lt_pow_two_of_testBit _ fun i hi => ?_
  rw [fxI_bit, if_neg (by omega)]
  exact Nat.testBit_lt_two_pow (Nat.lt_of_lt_of_le hn (Nat.pow_le_pow_right (by decide) hi))
/-- the table with one input row put in or left out -/
def fixL (l : List Bool) (k : Nat) (b : Bool) : List Bool := (List.range l.length).map fun n => l.getD (fxI k b n) false
theorem tt_get {es : List Int} {a : Bd} {n : Nat} {p : List Int} (h : (subs es)[n]? = some p) : (tt es a)[n]? = some (a.ev fun e => decide (e ∈ p)) := by
  unfold tt
  rw [List.getElem?_map, h]
  rfl
theorem fixL_get {es : List Int} (hn : es.Nodup) {a : Bd} (wa : Wf es a) {k n : Nat} {b : Bool} {p : List Int} {x : Int} (hx : es[k]? = some x) (hp : (subs es)[n]? = some p) : (fixL (tt es a) k b)[n]? = some (a.ev (setR (fun e => decide (e ∈ p)) x b)) := by
  have hk : k < es.length := (List.getElem?_eq_some_iff.mp hx).1
  have hn2 : n < 2 ^ es.length := by rw [← subs_len]; exact (List.getElem?_eq_some_iff.mp hp).1
  have hf := fxI_lt (b := b) hk hn2
  have hq : fxI k b n < (subs es).length := by rw [subs_len]; exact hf
  unfold fixL
  rw [List.getElem?_map, List.getElem?_range (by rw [tt_len]; exact hn2)]
  show some ((tt es a).getD (fxI k b n) false) = _
  rw [List.getD_eq_getElem?_getD, tt_get (List.getElem?_eq_getElem hq)]
  refine congrArg some (wf_agree wa fun e he => ?_)
  obtain ⟨j, hj⟩ := List.getElem?_of_mem he
  rw [subs_bit hn (List.getElem?_eq_getElem hq) hj, fxI_bit]
  by_cases ejk : j = k
  · subst ejk
    have : x = e := Option.some.inj (hx.symm.trans hj)
    subst this
    rw [if_pos rfl, setR_same]
  · have hne : e ≠ x := fun z => by
      subst z
      exact ejk (nodup_at hn hj hx)
    rw [if_neg ejk, setR_ne hne]
    exact (subs_bit hn hp hj).symm
/-- put in, left out: a condition whose least question this is, or none of whose questions this is -/
theorem fixL_eq {es : List Int} (hn : es.Nodup) {a c : Bd} (wa : Wf es a) {k : Nat} {b : Bool} {x : Int} (hx : es[k]? = some x) (h : ∀ r, a.ev (setR r x b) = c.ev r) : fixL (tt es a) k b = tt es c := by
  refine List.ext_getElem? fun n => ?_
  by_cases hl : n < (subs es).length
  · rw [fixL_get hn wa hx (List.getElem?_eq_getElem hl), tt_get (List.getElem?_eq_getElem hl), h]
  · rw [List.getElem?_eq_none, List.getElem?_eq_none]
    · rw [tt_len, ← subs_len]; omega
    · unfold fixL
      rw [List.length_map, List.length_range, tt_len, ← subs_len]; omega
theorem tt_inj {es : List Int} (hn : es.Nodup) {a c : Bd} (wa : Wf es a) (wc : Wf es c) (h : tt es a = tt es c) : a = c := by
  refine canon hn wa wc fun r => ?_
  obtain ⟨p, hp, hr⟩ := subs_all hn r
  have := List.map_inj_left.mp h p hp
  rw [wf_agree wa hr, wf_agree wc hr] at this
  exact this
theorem top_at {pre po : List Int} {x : Int} (hn : (pre ++ x :: po).Nodup) : (pre ++ x :: po).idxOf x = pre.length := by
  rw [List.idxOf_append, if_neg]
  · rw [List.idxOf_cons_self, Nat.zero_add]
  · intro h
    rw [List.nodup_append] at hn
    exact hn.2.2 x h x List.mem_cons_self rfl
/-- fixed at the least question; fixed at one ahead of it -/
theorem fix_top {es : List Int} (hn : es.Nodup) {x : Int} {w t : Bd} (h : Wf es (.nd x w t)) : fixL (tt es (.nd x w t)) (es.idxOf x) false = tt es w ∧ fixL (tt es (.nd x w t)) (es.idxOf x) true = tt es t ∧ tt es w ≠ tt es t ∧ es.idxOf x < es.length ∧ es[es.idxOf x]? = some x ∧
    ∀ k, k < es.idxOf x → ∀ b, fixL (tt es (.nd x w t)) k b = tt es (.nd x w t) := by
  obtain ⟨w1, w2⟩ := wf_kids h
  obtain ⟨pre, po, rfl, h1, h2, h3⟩ := wf_nd h
  have hx : (pre ++ x :: po)[pre.length]? = some x := by rw [List.getElem?_append_right (Nat.le_refl _), Nat.sub_self]; rfl
  have hnp : x ∉ po := by
    rw [List.nodup_append, List.nodup_cons] at hn
    exact hn.2.1.1
  have ni := top_at hn
  rw [ni]
  refine ⟨fixL_eq hn h hx fun r => ?_, fixL_eq hn h hx fun r => ?_, fun z => h3 (tt_inj hn w1 w2 z), by simp, hx, fun k hk b => ?_⟩
  · show (if setR r x false x = true then _ else _) = _
    rw [setR_same, if_neg Bool.false_ne_true, h1.away hnp]
  · show (if setR r x true x = true then _ else _) = _
    rw [setR_same, if_pos rfl, h2.away hnp]
  · have hy : (pre ++ x :: po)[k]? = some pre[k] := by rw [List.getElem?_append_left hk, List.getElem?_eq_getElem hk]
    refine fixL_eq hn h hy fun r => ?_
    have hw : Wf (x :: po) (.nd x w t) := .here h1 h2 h3
    refine hw.away fun z => ?_
    rw [List.nodup_append] at hn
    exact hn.2.2 _ (List.getElem_mem hk) _ z rfl
theorem fix_lf {es : List Int} (hn : es.Nodup) {v : Bool} {k : Nat} (hk : k < es.length) (b : Bool) : fixL (tt es (.lf v)) k b = tt es (.lf v) := fixL_eq hn .lf (List.getElem?_eq_getElem hk) fun _ => rfl

/-! ### the laws' truth tables -/
def bDt (es : List Int) (a : Bd) : PyData := .tuple ((tt es a).map PyData.bool)
theorem dp_tt {K : PySem.W.Frag} {H : Hp} {p : Addr} {l : List Bool} (h : SqT K H p (l.map V.bl)) : Dp K H (.ref p) (.tuple (l.map PyData.bool)) := .tup h (dpa_map _ _ (fun i => .bl i) l)
theorem bDt_only (es : List Int) : ∀ as : List Bd, tupOnlys (as.map (bDt es)) = true
  | [] => rfl
  | a :: as => by
    rw [List.map_cons]
    unfold tupOnlys
    rw [bDt_only es as, Bool.and_true]
    unfold bDt tupOnly
    induction tt es a with
    | nil => rfl
    | cons b bs ih =>
      rw [List.map_cons]
      unfold tupOnlys
      rw [ih]
      rfl
theorem bDt_1 (es : List Int) (a : Bd) : tupOnly (bDt es a) = true := by
  have := bDt_only es [a]
  rw [List.map_cons] at this
  unfold tupOnlys at this
  rw [Bool.and_eq_true] at this
  exact this.1
theorem tup_shaped (l : List Bool) : SeqAt.shaped (.tuple (l.map PyData.bool)) = true := by
  have h := bls_shaped l
  unfold SeqAt.shaped at h ⊢
  unfold PyData.canLay0 PyData.depth at h ⊢
  exact h
theorem tup_eqv (a b : List Bool) : PyData.eqv (.tuple (a.map PyData.bool)) (.tuple (b.map PyData.bool)) = decide (a = b) := by
  unfold PyData.eqv
  exact bls_eqvAll a b
theorem bDt_eqv {es : List Int} (hn : es.Nodup) {a b : Bd} (wa : Wf es a) (wb : Wf es b) : PyData.eqv (bDt es a) (bDt es b) = decide (a = b) := by
  unfold bDt
  rw [tup_eqv, decide_eq_decide]
  exact ⟨tt_inj hn wa wb, fun h => by rw [h]⟩
theorem bDts_shaped (es : List Int) (as : List Bd) : SeqAt.shaped (.list (as.map (bDt es))) = true := by
  have e1 : PyData.canLayAll0 (as.map (bDt es)) = true := by
    induction as with
    | nil => rfl
    | cons x xs ih =>
      rw [List.map_cons]
      unfold PyData.canLayAll0
      rw [ih, Bool.and_true]
      have := SeqAt.canLay_of_shaped (tup_shaped (tt es x))
      exact this
  have e2 : PyData.depthAll (as.map (bDt es)) ≤ 1 := by
    clear e1
    induction as with
    | nil => exact Nat.zero_le _
    | cons x xs ih =>
      rw [List.map_cons]
      unfold PyData.depthAll
      refine Nat.max_le.mpr ⟨?_, ih⟩
      unfold bDt PyData.depth
      have : PyData.depthAll ((tt es x).map PyData.bool) = 0 := by
        induction tt es x with
        | nil => rfl
        | cons b bs ih =>
          rw [List.map_cons]
          unfold PyData.depthAll
          rw [ih]
          rfl
      omega
  unfold SeqAt.shaped
  rw [Bool.and_eq_true]
  refine ⟨by unfold PyData.canLay0; exact e1, decide_eq_true ?_⟩
  unfold PyData.depth
  omega
theorem any_eqv {es : List Int} (hn : es.Nodup) {a : Bd} (wa : Wf es a) : ∀ {as : List Bd}, (∀ b ∈ as, Wf es b) → ((as.map (bDt es)).any fun z => PyData.eqv z (bDt es a)) = decide (a ∈ as)
  | [], _ => rfl
  | b :: as, h => by
    rw [List.map_cons, List.any_cons, any_eqv hn wa fun c hc => h c (List.mem_cons_of_mem _ hc), bDt_eqv hn (h b List.mem_cons_self) wa]
    by_cases e : b = a
    · subst e
      rw [decide_eq_true rfl, Bool.true_or]
      exact (decide_eq_true List.mem_cons_self).symm
    · rw [decide_eq_false e, Bool.false_or, decide_eq_decide, List.mem_cons]
      exact ⟨.inr, fun z => z.elim (fun z => absurd z.symm e) id⟩
/-- a list of truth tables -/
def TtL (K : PySem.W.Frag) (H : Hp) (p : Addr) (es : List Int) (as : List Bd) : Prop := ∃ vs, H p = some (.lst vs) ∧ DpAll K H vs (as.map (bDt es))
theorem TtL.ext {K : PySem.W.Frag} {H H' : Hp} {p : Addr} {es : List Int} {as : List Bd} (e : Same H H') (h : TtL K H p es as) : TtL K H' p es as := by
  obtain ⟨vs, h1, h2⟩ := h
  exact ⟨vs, e _ _ h1, DpAll.ext e _ _ h2⟩
theorem TtL.dp {K : PySem.W.Frag} {H : Hp} {p : Addr} {es : List Int} {as : List Bd} (h : TtL K H p es as) : Dp K H (.ref p) (.list (as.map (bDt es))) := by
  obtain ⟨vs, h1, h2⟩ := h
  exact .lst (.of h1) h2
theorem TtL.get {K : PySem.W.Frag} {H : Hp} {p : Addr} {es : List Int} {as : List Bd} (h : TtL K H p es as) : ∃ vs, H p = some (.lst vs) ∧ vs.length = as.length ∧ ∀ (i : Nat) v, vs[i]? = some v → ∃ q a, v = .ref q ∧ as[i]? = some a ∧ SqT K H q ((tt es a).map V.bl) := by
  obtain ⟨vs, h1, h2⟩ := h
  have hl : vs.length = as.length := by rw [DpAll.len h2, List.length_map]
  refine ⟨vs, h1, hl, fun i v hv => ?_⟩
  have hi : i < as.length := by rw [← hl]; exact (List.getElem?_eq_some_iff.mp hv).1
  obtain ⟨u, hu, hd⟩ := DpAll.get h2 (show (as.map (bDt es))[i]? = some (bDt es as[i]) by rw [List.getElem?_map, List.getElem?_eq_getElem hi]; rfl)
  have e : u = v := Option.some.inj (hu.symm.trans hv)
  subst e
  obtain ⟨q, xs, rfl, hs, hx⟩ := dp_tup hd
  refine ⟨q, as[i], rfl, List.getElem?_eq_getElem hi, ?_⟩
  have : xs = (tt es as[i]).map V.bl := by
    generalize tt es as[i] = l at hx
    clear hu hv hd hs
    induction l generalizing xs with
    | nil => cases hx; rfl
    | cons b l ih =>
      rw [List.map_cons] at hx
      cases hx with
      | cons h1 h2 =>
        cases h1
        rw [List.map_cons, ih _ h2]
  rw [this] at hs
  exact hs
theorem TtL.snoc {K : PySem.W.Frag} {H : Hp} {p q : Addr} {es : List Int} {as : List Bd} {a : Bd} {vs : List V} (h : TtL K H p es as) (e : H p = some (.lst vs)) (hq : SqT K H q ((tt es a).map V.bl)) : TtL K (upd H p (.lst (vs ++ [.ref q]))) p es (as ++ [a]) := by
  obtain ⟨vs', h1, h2⟩ := h
  have ev : vs' = vs := by rw [h1] at e; exact HO.lst.inj (Option.some.inj e)
  subst ev
  refine ⟨_, upd_same, ?_⟩
  rw [List.map_append]
  exact DpAll.snoc (DpAll.away h1 _ _ (bDt_only es as) h2) (Dp.away h1 _ _ (bDt_1 es a) (dp_tt hq))
theorem fixL_len (l : List Bool) (k : Nat) (b : Bool) : (fixL l k b).length = l.length := by unfold fixL; rw [List.length_map, List.length_range]
def bI (b : Bool) : Int := if b = true then 1 else 0
def sp_truth (K : PySem.W.Frag) (n : Nat) : Sp := fun vs H Q _ => ∃ v ea es t, vs = [v, .ref ea] ∧ Dp K H v (Tr.d t) ∧ H ea = some (.lst (es.map V.int)) ∧ es.length ≤ 10 ∧ Tr.ht t < n ∧ ∀ H' p, Same H H' → H' p = some (.tup ((tru es t).map V.bl)) → Q (.ref p) H'
def sp_fixed (K : PySem.W.Frag) : Sp := fun vs H Q _ => ∃ p, ∃ l : List Bool, ∃ k b n, vs = [.ref p, .int ((k : Nat) : Int), .int (bI b)] ∧ SqT K H p (l.map V.bl) ∧ l.length = 2 ^ n ∧ k < n ∧ n ≤ 10 ∧ ∀ H' q, Same H H' → H' q = some (.tup ((fixL l k b).map V.bl)) → Q (.ref q) H'
def topV (es : List Int) : Bd → V
  | .lf _ => .non
  | .nd e _ _ => .int ((es.idxOf e : Nat) : Int)
def sp_ltop (K : PySem.W.Frag) : Sp := fun vs H Q _ => ∃ p es a, vs = [.ref p, .int ((es.length : Nat) : Int)] ∧ SqT K H p ((tt es a).map V.bl) ∧ Wf es a ∧ es.Nodup ∧ es.length ≤ 10 ∧ ∀ H', Same H H' → Q (topV es a) H'

theorem tIf_val {c : Bool} {ta tb : TE} {σ : L2.St} {H : Hp} {Q : VK} {v : V} (h1 : c = true → ∀ Q : VK, Q v H → ta σ H Q) (h2 : c = false → ∀ Q : VK, Q v H → tb σ H Q) (q : Q v H) : if c = true then ta σ H Q else tb σ H Q := by
  cases c with
  | true => exact iteT (h1 rfl Q q)
  | false => exact iteF (h2 rfl Q q)
section
variable {P : Program} {w : World} {K : PySem.W.Frag} {mg : Str → Option Value} {base : Heap}
theorem ok_truth (n : Nat) {f : Addr} {fd : FuncData} (F : Fun K "_law_truth" "_law_truth" s__law_truth f fd) (M : Mg mg) (c__law_subsets : Cl P w K mg base 1 "_law_subsets" sp_subs) (c__law_true : Cl P w K mg base (n + 1) "_law_true" (sp_true K n)) : FnOk P w K mg base CX0 (n + 2) f fd ["tree", "entries"] (sp_truth K n) := by
  refine F.ok sc__law_truth (fun vs H Q E h => ?_) (fun cdv A outer s H vs Q E hr h => ?_)
  · obtain ⟨v, ea, es, t, rfl, _⟩ := h
    rfl
  · obtain ⟨v, ea, es, t, rfl, dp, he, hl, hn, q⟩ := h
    refine ⟨_, (pss_one (ps_ret (pe_callTy (tupleK K) (by rfl) M.tuple (by decide +kernel) (pa_cons (pe_lc (own := [("part", 2)]) (g := gName 2) (tt := tYes) rfl sc__law_truth.nd (pi_list (pe_u c__law_subsets hr (by first | decide | omega) (by rfl) (pa_cons (pv 1) pa_nil))) (blkOk_by (N := N__law_truth) (sc := defScope s__law_truth) (by decide +kernel)) (fun _ _ _ _ _ => (pg_name (i := 2) sc__law_truth.nd rfl (.inl rfl))) (fun _ _ _ _ _ => pts_nil) (fun _ _ _ _ _ => (pe_u c__law_true hr (by first | decide | omega) (by rfl) (pa_cons (pv 0) (pa_cons (pv 2) pa_nil))))) pa_nil)))), ?_⟩
    refine ⟨_, rfl, ea, es, rfl, he, hl, fun Hs sp ss nsp ll => ?_⟩
    obtain ⟨as, l1', l2', l3'⟩ := ll.get
    refine ⟨sp, rfl, ⟨_, .of l1'⟩, fun D nD => ?_⟩
    have lsub : (subs es).length ≤ 1024 := by
      rw [subs_len]
      exact Nat.le_trans (Nat.pow_le_pow_right (by decide) hl) (by decide)
    refine lc_list (K := K) (a := sp) (xs := as.map V.ref) (fun j Hj => Same Hs Hj ∧ Hj D = some (.lst ((((subs es).take j).map fun p => t.ev fun e => decide (e ∈ p)).map V.bl))) ⟨same_upd nD, upd_same⟩ (fun j Hj _ hp => .of (hp.1 _ _ l1')) (fun j y Hj hy hp => ?_) (fun Hm hp => ?_)
    · obtain ⟨sj, eD⟩ := hp
      obtain ⟨b, l, rfl, hl2, hb⟩ := l3' j y hy
      have hj : j < (subs es).length := (List.getElem?_eq_some_iff.mp hl2).1
      refine ⟨rfl, ?_⟩
      refine ⟨_, rfl, _, rfl, v, b, t, l, rfl, Dp.ext (ss.trans sj) _ _ dp, .of (sj _ _ hb), hn, ?_⟩
      refine ⟨_, eD, ?_, ?_, ?_⟩
      · rw [List.length_map, List.length_map, List.length_take]
        exact Nat.lt_of_le_of_lt (m := 1024) (by omega) (by decide)
      · intro z o e
        rw [upd_ne (ne_of_none e nD)]
        exact sj _ _ e
      · rw [upd_same, List.take_add_one, hl2, List.map_append, List.map_append]
        rfl
    · obtain ⟨sm, eD⟩ := hp
      rw [List.length_map, l2', List.take_of_length_le (Nat.le_refl _)] at eD
      refine ⟨D, _, rfl, .inl ⟨.of eD, fun T nT => ?_⟩⟩
      exact q _ T ((ss.trans sm).trans (same_upd nT)) upd_same
theorem ok_fixed {f : Addr} {fd : FuncData} (F : Fun K "_law_fixed" "_law_fixed" s__law_fixed f fd) (M : Mg mg) : FnOk P w K mg base CX0 1 f fd ["truth", "k", "there"] (sp_fixed K) := by
  refine F.ok sc__law_fixed (fun vs H Q E h => ?_) (fun cdv A outer s H vs Q E hr h => ?_)
  · obtain ⟨p, l, k, b, n, rfl, _⟩ := h
    rfl
  · obtain ⟨p, l, k, b, n, rfl, hp, hl, hk, hn, q⟩ := h
    have p10 : ∀ {j : Nat}, j ≤ 10 → 2 ^ j ≤ 1024 := fun {j} h => Nat.le_trans (Nat.pow_le_pow_right (by decide) h) (by decide)
    have hl2 : l.length ≤ 1024 := by rw [hl]; exact p10 hn
    have hk2 := p10 (show k ≤ 10 by omega)
    have hb : 0 ≤ bI b ∧ bI b ≤ 1 := by cases b <;> decide
    refine ⟨_, (pss_cons (ps_set (i := 3) sc__law_fixed.nd rfl (.inl rfl) pe_int)
      (pss_cons (ps_for PassesOwn.never rfl (pi_range1 (by rfl) M.range (pa_cons (pv 1) pa_nil)) (pg_name (i := 4) sc__law_fixed.nd rfl (.inl rfl)) (pss_one (ps_set (i := 3) sc__law_fixed.nd rfl (.inl rfl) (pe_op op_mul (pv 3) pe_int))))
      (pss_cons (ps_set (i := 5) sc__law_fixed.nd rfl (.inl rfl) (pe_lst pa_nil))
      (pss_cons (ps_for PassesOwn.never rfl (pi_range1 (by rfl) M.range (pa_cons (pe_callB (len_seqK K) (by rfl) M.len PySem.boot_len (pa_cons (pv 0) pa_nil)) pa_nil)) (pg_name (i := 6) sc__law_fixed.nd rfl (.inl rfl)) (pss_cons (ps_set (i := 7) sc__law_fixed.nd rfl (.inl rfl) (pe_ifExp (pt_cmpR op_eq (pe_op op_mod (pe_op op_fdivW (pv 6) (pv 3)) pe_int) pe_int (nomark _)) (pe_op op_sub (pv 6) (pv 3)) (pv 6)))
      (pss_one (ps_expr (pe_bmK K PySem.F.plainAttrs_list PySem.F.slot_list_append PySem.F.type_list_append mt_append (pv 5) (pa_cons (pe_ix (ix_tupK K) (pv 0) (pe_op op_add (pv 7) (pe_op op_mul (pv 3) (pv 2))) (fun _ _ => rfl)) pa_nil))))))
      (pss_one (ps_ret (pe_callTy (tupleK K) (by rfl) M.tuple (by decide +kernel) (pa_cons (pv 5) pa_nil)))))))), ?_⟩
    refine ⟨_, rfl, _, rfl, by omega, by omega, ?_⟩
    refine for_range (lo := 0) (n := ((k : Nat) : Int).toNat) (fun i σ Hi => Hi = H ∧ ∃ z, σ = [some (.ref p), some (.int ((k : Nat) : Int)), some (.int (bI b)), some (.int ((2 ^ i : Nat) : Int)), z, none, none, none]) ⟨rfl, _, rfl⟩ (fun i σ Hi hi hp' => ?_) (fun σ Hn hp' => ?_)
    · obtain ⟨rfl, z, rfl⟩ := hp'
      have hi2 := p10 (show i ≤ 10 by omega)
      refine ⟨_, rfl, _, _, rfl, rfl, .inr ⟨by decide, by decide⟩, rfl, some (.int (0 + (i : Int))), ?_⟩
      rw [Nat.pow_succ]
      rfl
    · obtain ⟨rfl, z, rfl⟩ := hp'
      rw [Int.toNat_natCast]
      refine ⟨by show 0 ≤ sizeLine; decide, fun D nD => ?_⟩
      refine ⟨_, rfl, p, _, rfl, .inr (SqT.ext (same_upd nD) hp), ?_⟩
      rw [List.length_map]
      refine ⟨_, rfl, by omega, by omega, ?_⟩
      refine for_range (lo := 0) (n := ((l.length : Nat) : Int).toNat) (fun i σ Hi => Same Hn Hi ∧ (∃ z5 z6 z7, σ = [some (.ref p), some (.int ((k : Nat) : Int)), some (.int (bI b)), some (.int ((2 ^ k : Nat) : Int)), z5, some (.ref D), z6, z7]) ∧ Hi D = some (.lst (((fixL l k b).take i).map V.bl))) ⟨same_upd nD, ⟨_, _, _, rfl⟩, upd_same⟩ (fun i σ Hi hi hp' => ?_) (fun σ Hm hp' => ?_)
      · obtain ⟨si, ⟨z5, z6, z7, rfl⟩, eD⟩ := hp'
        have hi : i < l.length := by omega
        have h2k : 0 < 2 ^ k := Nat.two_pow_pos k
        have hdv : CDivW ((0 : Int) + (i : Int)) ((2 ^ k : Nat) : Int) := wide_div (b := 64) (by omega) (by omega) (by decide) (by decide)
        have ebit : decide (V.int (((0 : Int) + (i : Int)) / ((2 ^ k : Nat) : Int) % 2) = V.int 1) = i.testBit k := by
          rw [Int.zero_add, Nat.testBit_eq_decide_div_mod_eq, decide_eq_decide, ← Int.natCast_ediv]
          constructor
          · intro z
            have := V.int.inj z
            omega
          · intro z
            refine congrArg V.int ?_
            omega
        have hsub : i.testBit k = true → 2 ^ k ≤ i := fun h => Nat.ge_two_pow_of_testBit h
        refine ⟨_, rfl, _, rfl, _, _, rfl, rfl, hdv, _, _, rfl, rfl, by show (0 : Int) < 2; decide, rfl, _, rfl, ?_⟩
        dsimp only
        rw [ebit]
        refine tIf_val (v := .int (((if i.testBit k = true then i - 2 ^ k else i) : Nat) : Int)) (fun e Q q => ⟨_, rfl, _, rfl, _, _, rfl, rfl, ?_⟩) (fun e Q q => ⟨_, rfl, ?_⟩) ?_
        · have := hsub e
          rw [e, if_pos rfl] at q
          dsimp only
          rw [show (0 : Int) + (i : Int) - ((2 ^ k : Nat) : Int) = ((i - 2 ^ k : Nat) : Int) by omega]
          exact q
        · rw [e, if_neg Bool.false_ne_true] at q
          rw [Int.zero_add]
          exact q
        have hf : fxI k b i < l.length := by rw [hl] at hi ⊢; exact fxI_lt hk hi
        have eix : (((if i.testBit k = true then i - 2 ^ k else i) : Nat) : Int) + ((2 ^ k : Nat) : Int) * bI b = ((fxI k b i : Nat) : Int) := by
          unfold fxI bI
          cases b
          · rw [if_neg Bool.false_ne_true, if_neg Bool.false_ne_true, Int.mul_zero]
            omega
          · rw [if_pos rfl, if_pos rfl, Int.mul_one]
            omega
        refine ⟨_, rfl, .inl ⟨rfl, _, .inl (.inl eD)⟩, _, rfl, _, rfl, _, rfl, _, rfl, _, _, rfl, rfl, .inl ⟨by omega, by omega⟩, _, _, rfl, rfl, ?_⟩
        dsimp only
        rw [eix]
        refine ⟨p, _, _, .bl (l.getD (fxI k b i) false), rfl, rfl, SqT.ext si hp, atI_nat (by rw [List.getElem?_map, List.getElem?_eq_getElem hf, List.getD_eq_getElem?_getD, List.getElem?_eq_getElem hf]; rfl), ?_⟩
        refine ⟨D, _, _, rfl, rfl, eD, ?_, ?_, ⟨_, _, _, rfl⟩, ?_⟩
        · rw [List.length_map, List.length_take]
          exact Nat.lt_of_le_of_lt (m := 1024) (by omega) (by decide)
        · intro z o e
          rw [upd_ne (ne_of_none e nD)]
          exact si _ _ e
        · have hg : (fixL l k b)[i]? = some (l.getD (fxI k b i) false) := by
            unfold fixL
            rw [List.getElem?_map, List.getElem?_range hi]
            rfl
          rw [upd_same, List.take_add_one, hg, List.map_append]
          rfl
      · obtain ⟨sm, ⟨z5, z6, z7, rfl⟩, eD⟩ := hp'
        rw [Int.toNat_natCast, ← fixL_len l k b, List.take_of_length_le (Nat.le_refl _)] at eD
        refine ⟨_, rfl, D, _, rfl, .inl ⟨.of eD, fun T nT => ?_⟩⟩
        exact q _ T (sm.trans (same_upd nT)) upd_same
end

theorem idx_ne : ∀ {l : List Bd} {m : Nat} {b a : Bd}, l[m]? = some b → m < l.idxOf a → b ≠ a
  | [], _, _, _, h, _ => by simp at h
  | x :: l, 0, b, a, h, hm => by
    have : x = b := Option.some.inj h
    subst this
    intro z
    subst z
    rw [List.idxOf_cons_self] at hm
    omega
  | x :: l, m + 1, b, a, h, hm => by
    have h : l[m]? = some b := by simpa using h
    by_cases e : x = a
    · subst e
      rw [List.idxOf_cons_self] at hm
      omega
    · have e1 : (x :: l).idxOf a = l.idxOf a + 1 := by rw [List.idxOf_cons, beq_false_of_ne e]; rfl
      exact idx_ne h (by omega)
def sp_lnum (K : PySem.W.Frag) : Sp := fun vs H Q _ => ∃ p kp es acc a, vs = [.ref p, .ref kp] ∧ SqT K H p ((tt es a).map V.bl) ∧ TtL K H kp es acc ∧ es.Nodup ∧ Wf es a ∧ (∀ b ∈ acc, Wf es b ∧ ∃ e w t, b = .nd e w t) ∧ knw acc a = true ∧ ∀ H', Same H H' → Q (.int ((nmb acc a : Nat) : Int)) H'
def sp_llis (K : PySem.W.Frag) (n : Nat) : Sp := fun vs H Q _ => ∃ p ea kp es acc a, vs = [.ref p, .ref ea, .ref kp] ∧ SqT K H p ((tt es a).map V.bl) ∧ H ea = some (.lst (es.map V.int)) ∧ TtL K H kp es acc ∧ es.Nodup ∧ es.length ≤ 10 ∧ Wf es a ∧ a.ht < n ∧ (∀ b ∈ acc, Wf es b) ∧ acc.length + a.sz ≤ 100000 ∧ ∀ H' kp', Same H H' → TtL K H' kp' es (post acc a) → Q (.ref kp') H'
theorem nd_ex {a : Bd} (h : ∀ b, a ≠ .lf b) : ∃ e w t, a = .nd e w t := by
  cases a with
  | lf b => exact absurd rfl (h b)
  | nd e w t => exact ⟨e, w, t, rfl⟩
theorem ht_le {es : List Int} {a : Bd} (h : Wf es a) : a.ht ≤ es.length := by
  induction h with
  | lf => exact Nat.zero_le _
  | here _ _ _ iw it => exact Nat.succ_le_succ (Nat.max_le.mpr ⟨iw, it⟩)
  | skip _ ih => exact Nat.le_succ_of_le ih
section
variable {P : Program} {w : World} {K : PySem.W.Frag} {mg : Str → Option Value} {base : Heap}
theorem ok_ltop {f : Addr} {fd : FuncData} (F : Fun K "_law_top" "_law_top" s__law_top f fd) (M : Mg mg) (c__law_fixed : Cl P w K mg base 1 "_law_fixed" (sp_fixed K)) : FnOk P w K mg base CX0 2 f fd ["truth", "count"] (sp_ltop K) := by
  refine F.ok sc__law_top (fun vs H Q E h => ?_) (fun cdv A outer s H vs Q E hr h => ?_)
  · obtain ⟨p, es, a, rfl, _⟩ := h
    rfl
  · obtain ⟨p, es, a, rfl, hp, wa, hn, hl, q⟩ := h
    refine ⟨_, (pss_cons (ps_for PassesOwn.never rfl (pi_range1 (by rfl) M.range (pa_cons (pv 1) pa_nil)) (pg_name (i := 2) sc__law_top.nd rfl (.inl rfl)) (pss_one (ps_if (pt_cmpR (neDK K hr.units) (pe_u c__law_fixed hr (by first | decide | omega) (by rfl) (pa_cons (pv 0) (pa_cons (pv 2) (pa_cons pe_int pa_nil)))) (pe_u c__law_fixed hr (by first | decide | omega) (by rfl) (pa_cons (pv 0) (pa_cons (pv 2) (pa_cons pe_int pa_nil)))) (nomark _)) (pss_one (ps_ret (pv 2))) pss_nil)))
      (pss_one (ps_ret pe_non))), ?_⟩
    refine ⟨_, rfl, _, rfl, by omega, by omega, ?_⟩
    refine for_range (lo := 0) (n := ((es.length : Nat) : Int).toNat) (fun i σ Hi => Same H Hi ∧ (∃ z, σ = [some (.ref p), some (.int ((es.length : Nat) : Int)), z]) ∧ ∀ e w t, a = .nd e w t → i ≤ es.idxOf e) ⟨fun _ _ h => h, ⟨_, rfl⟩, fun _ _ _ _ => Nat.zero_le _⟩ (fun i σ Hi hi hp' => ?_) (fun σ Hn hp' => ?_)
    · obtain ⟨si, ⟨z, rfl⟩, hx⟩ := hp'
      have hi : i < es.length := by omega
      rw [Int.zero_add]
      refine ⟨_, rfl, _, rfl, p, _, i, false, es.length, rfl, SqT.ext si hp, tt_len es a, hi, hl, fun H1 q1 s1 e1 => ?_⟩
      refine ⟨_, rfl, _, rfl, p, _, i, true, es.length, rfl, SqT.ext (si.trans s1) hp, tt_len es a, hi, hl, fun H2 q2 s2 e2 => ?_⟩
      refine ⟨_, _, dp_tt (.of (s2 _ _ e1)), dp_tt (.of e2), tup_shaped _, tup_shaped _, _, rfl, ?_⟩
      rw [tup_eqv]
      have s02 := (si.trans s1).trans s2
      cases a with
      | lf v =>
        rw [fix_lf hn hi, fix_lf hn hi, decide_eq_true rfl]
        exact iteF ⟨s02, ⟨_, rfl⟩, fun _ _ _ h => nomatch h⟩
      | nd e w t =>
        obtain ⟨t1, t2, t3, t4, t5, t6⟩ := fix_top hn wa
        have hx := hx e w t rfl
        by_cases hie : i = es.idxOf e
        · subst hie
          rw [t1, t2, decide_eq_false t3]
          refine iteT ⟨_, rfl, ?_⟩
          exact q H2 s02
        · have hlt : i < es.idxOf e := by omega
          rw [t6 i hlt, t6 i hlt, decide_eq_true rfl]
          refine iteF ⟨s02, ⟨_, rfl⟩, fun e' w' t' h => ?_⟩
          cases h
          exact hlt
    · obtain ⟨sn, ⟨z, rfl⟩, hx⟩ := hp'
      cases a with
      | lf v => exact q Hn sn
      | nd e w t =>
        have h1 := hx e w t rfl
        obtain ⟨_, _, _, t4, _⟩ := fix_top hn wa
        omega
end

/-! ### all diagrams of some conditions -/
def sp_ldia (K : PySem.W.Frag) : Sp := fun vs H Q _ => ∃ p es as, vs = [.ref p, .int ((es.length : Nat) : Int)] ∧ TtL K H p es as ∧ es.Nodup ∧ es.length ≤ 10 ∧ (∀ a ∈ as, Wf es a) ∧ as.length ≤ 100 ∧ (∀ a ∈ as, a.sz ≤ 1000) ∧ ∀ H' q fs, Same H H' → TtL K H' q es fs → fs.Nodup → (∀ x, x ∈ fs ↔ ∃ a ∈ as, x ∈ subN a) → Q (.ref q) H'
/-- the pile's weight: each diagram's nodes, twice and one more -/
def pile : List Bd → Nat
  | [] => 0
  | a :: as => 2 * a.sz + 1 + pile as
theorem pile_app : ∀ as bs : List Bd, pile (as ++ bs) = pile as + pile bs
  | [], bs => by rw [List.nil_append]; show _ = 0 + _; omega
  | a :: as, bs => by
    show 2 * a.sz + 1 + pile (as ++ bs) = 2 * a.sz + 1 + pile as + pile bs
    rw [pile_app as bs]
    omega
theorem pile_len : ∀ as : List Bd, as.length ≤ pile as
  | [] => Nat.le_refl _
  | a :: as => by
    have := pile_len as
    show _ + 1 ≤ 2 * a.sz + 1 + pile as
    omega
theorem pile_le : ∀ (as : List Bd) (b : Nat), (∀ a ∈ as, a.sz ≤ b) → pile as ≤ as.length * (2 * b + 1)
  | [], _, _ => Nat.zero_le _
  | a :: as, b, h => by
    have h1 := pile_le as b fun x hx => h x (List.mem_cons_of_mem _ hx)
    have h2 := h a List.mem_cons_self
    have h3 : (as.length + 1) * (2 * b + 1) = as.length * (2 * b + 1) + (2 * b + 1) := Nat.succ_mul _ _
    show 2 * a.sz + 1 + pile as ≤ (as.length + 1) * (2 * b + 1)
    omega
theorem sub_trans : ∀ {a x y : Bd}, x ∈ subN a → y ∈ subN x → y ∈ subN a
  | .lf _, _, _, h, _ => by cases h
  | .nd e w t, x, y, h, hy => by
    rcases List.mem_cons.mp h with rfl | h
    · exact hy
    · refine List.mem_cons_of_mem _ ?_
      rcases List.mem_append.mp h with h | h
      · exact List.mem_append_left _ (sub_trans h hy)
      · exact List.mem_append_right _ (sub_trans h hy)
theorem sub_sz : ∀ {a x : Bd}, x ∈ subN a → x.sz ≤ a.sz
  | .lf _, _, h => by cases h
  | .nd e w t, x, h => by
    show x.sz ≤ w.sz + t.sz + 1
    rcases List.mem_cons.mp h with rfl | h
    · exact Nat.le_refl _
    · rcases List.mem_append.mp h with h | h
      · have := sub_sz h; omega
      · have := sub_sz h; omega
theorem sub_nd : ∀ {a x : Bd}, x ∈ subN a → ∃ e w t, x = .nd e w t
  | .lf _, _, h => by cases h
  | .nd e w t, x, h => by
    rcases List.mem_cons.mp h with rfl | h
    · exact ⟨_, _, _, rfl⟩
    · rcases List.mem_append.mp h with h | h
      · exact sub_nd h
      · exact sub_nd h
/-- the node, then all of one side, then all of the other: what is found already is passed over -/
def pre : List Bd → Bd → List Bd
  | fs, .lf _ => fs
  | fs, .nd e w t => if Bd.nd e w t ∈ fs then fs else pre (pre (fs ++ [.nd e w t]) t) w
theorem pre_nodup : ∀ (a : Bd) (fs : List Bd), fs.Nodup → (pre fs a).Nodup
  | .lf _, _, h => h
  | .nd e w t, fs, h => by
    unfold pre
    split
    · exact h
    · rename_i hn
      refine pre_nodup w _ (pre_nodup t _ ?_)
      rw [List.nodup_append]
      refine ⟨h, List.nodup_cons.mpr ⟨List.not_mem_nil, List.nodup_nil⟩, fun x hx y hy z => ?_⟩
      rw [List.mem_singleton] at hy
      subst z hy
      exact hn hx
def ClB (fs : List Bd) (n : Nat) : Prop := ∀ b ∈ fs, b.sz ≤ n → ∀ x ∈ subN b, x ∈ fs
theorem pre_iff : ∀ (a : Bd) (fs : List Bd), ClB fs a.sz → ∀ x, x ∈ pre fs a ↔ x ∈ fs ∨ x ∈ subN a
  | .lf _, fs, _, x => ⟨.inl, fun h => h.elim id (fun z => by cases z)⟩
  | .nd e w t, fs, hc, x => by
    have hsz : (Bd.nd e w t).sz = w.sz + t.sz + 1 := rfl
    by_cases hm : Bd.nd e w t ∈ fs
    · rw [pre, if_pos hm]
      exact ⟨.inl, fun h => h.elim id (hc _ hm (Nat.le_refl _) x)⟩
    · have c1 : ClB (fs ++ [.nd e w t]) t.sz := fun b hb hs y hy => by
        rcases List.mem_append.mp hb with hb | hb
        · exact List.mem_append_left _ (hc b hb (by omega) y hy)
        · rw [List.mem_singleton] at hb
          subst hb
          omega
      have i1 := pre_iff t (fs ++ [.nd e w t]) c1
      have c2 : ClB (pre (fs ++ [.nd e w t]) t) w.sz := fun b hb hs y hy => by
        rw [i1] at hb ⊢
        rcases hb with hb | hb
        · rcases List.mem_append.mp hb with hb | hb
          · exact .inl (List.mem_append_left _ (hc b hb (by omega) y hy))
          · rw [List.mem_singleton] at hb
            subst hb
            omega
        · exact .inr (sub_trans hb hy)
      rw [pre, if_neg hm, pre_iff w _ c2, i1, List.mem_append, List.mem_singleton]
      constructor
      · rintro (((h | h) | h) | h)
        · exact .inl h
        · subst h; exact .inr List.mem_cons_self
        · exact .inr (List.mem_cons_of_mem _ (List.mem_append_right _ h))
        · exact .inr (List.mem_cons_of_mem _ (List.mem_append_left _ h))
      · rintro (h | h)
        · exact .inl (.inl (.inl h))
        · rcases List.mem_cons.mp h with h | h
          · exact .inl (.inl (.inr h))
          · rcases List.mem_append.mp h with h | h
            · exact .inr h
            · exact .inl (.inr h)
theorem pres_iff : ∀ (as fs : List Bd), (∀ n, ClB fs n) → ∀ x, x ∈ as.foldl pre fs ↔ x ∈ fs ∨ ∃ a ∈ as, x ∈ subN a
  | [], fs, _, x => ⟨.inl, fun h => h.elim id (fun ⟨a, h, _⟩ => by cases h)⟩
  | a :: as, fs, hc, x => by
    have i1 := pre_iff a fs (hc _)
    rw [List.foldl_cons, pres_iff as _ (fun n b hb hs y hy => by
      rw [i1] at hb ⊢
      rcases hb with hb | hb
      · exact .inl (hc b.sz b hb (Nat.le_refl _) y hy)
      · exact .inr (sub_trans hb hy)), i1]
    constructor
    · rintro ((h | h) | ⟨b, hb, h⟩)
      · exact .inl h
      · exact .inr ⟨a, List.mem_cons_self, h⟩
      · exact .inr ⟨b, List.mem_cons_of_mem _ hb, h⟩
    · rintro (h | ⟨b, hb, h⟩)
      · exact .inl (.inl h)
      · rcases List.mem_cons.mp hb with rfl | hb
        · exact .inl (.inr h)
        · exact .inr ⟨b, hb, h⟩
theorem pres_nodup : ∀ (as fs : List Bd), fs.Nodup → (as.foldl pre fs).Nodup
  | [], _, h => h
  | a :: as, fs, h => pres_nodup as _ (pre_nodup a fs h)
theorem pre_pre : ∀ (a : Bd) (fs : List Bd), fs <+: pre fs a
  | .lf _, fs => List.prefix_refl fs
  | .nd e w t, fs => by
    unfold pre
    split
    · exact List.prefix_refl fs
    · exact ((List.prefix_append _ _).trans (pre_pre t _)).trans (pre_pre w _)
theorem pres_pre : ∀ (as fs : List Bd), fs <+: as.foldl pre fs
  | [], fs => List.prefix_refl fs
  | a :: as, fs => (pre_pre a fs).trans (pres_pre as _)
theorem pre_len : ∀ (a : Bd) (fs : List Bd), (pre fs a).length ≤ fs.length + a.sz
  | .lf _, _ => Nat.le_refl _
  | .nd e w t, fs => by
    have h1 := pre_len t (fs ++ [.nd e w t])
    have h2 := pre_len w (pre (fs ++ [.nd e w t]) t)
    rw [List.length_append] at h1
    have h3 : ([Bd.nd e w t] : List Bd).length = 1 := rfl
    unfold pre
    show _ ≤ fs.length + (w.sz + t.sz + 1)
    split <;> omega
theorem pres_len : ∀ (as fs : List Bd), (as.foldl pre fs).length ≤ fs.length + pile as
  | [], fs => by simp [pile]
  | a :: as, fs => by
    have h1 := pre_len a fs
    have h2 := pres_len as (pre fs a)
    rw [List.foldl_cons]
    show _ ≤ fs.length + (2 * a.sz + 1 + pile as)
    omega
def LdW (K : PySem.W.Frag) (H : Hp) (es : List Int) (p fl wl : Addr) (fin : List Bd) (M0 : Nat) (m : Nat) (σ : L2.St) (Hi : Hp) : Prop :=
  ∃ fs ws z4 z5, m = pile ws ∧ pile ws ≤ M0 ∧ σ = [some (.ref p), some (.int ((es.length : Nat) : Int)), some (.ref fl), some (.ref wl), z4, z5] ∧ Same H Hi ∧ TtL K Hi fl es fs ∧ TtL K Hi wl es ws.reverse ∧ (∀ a ∈ fs, Wf es a) ∧ (∀ a ∈ ws, Wf es a) ∧ ws.foldl pre fs = fin
theorem TtL.away {K : PySem.W.Frag} {H : Hp} {p D : Addr} {es : List Int} {as : List Bd} {zs : List V} {o : HO} (h : TtL K H p es as) (hD : H D = some (.lst zs)) (n : p ≠ D) : TtL K (upd H D o) p es as := by
  obtain ⟨vs, h1, h2⟩ := h
  exact ⟨vs, by rw [upd_ne n]; exact h1, DpAll.away hD _ _ (bDt_only es as) h2⟩
theorem DpAll.last {K : PySem.W.Frag} {H : Hp} : ∀ {ds : List PyData} {vs : List V} {d : PyData}, DpAll K H vs (ds ++ [d]) → ∃ us v, vs = us ++ [v] ∧ DpAll K H us ds ∧ Dp K H v d
  | [], _, _, h => by
    cases h with
    | cons h1 h2 =>
      cases h2
      exact ⟨[], _, rfl, .nil, h1⟩
  | x :: ds, _, d, h => by
    cases h with
    | cons h1 h2 =>
      obtain ⟨us, v, rfl, g1, g2⟩ := DpAll.last h2
      exact ⟨_ :: us, v, rfl, .cons h1 g1, g2⟩
theorem tt_seq {K : PySem.W.Frag} {H : Hp} {v : V} {es : List Int} {a : Bd} (h : Dp K H v (bDt es a)) : ∃ q, v = .ref q ∧ SqT K H q ((tt es a).map V.bl) := by
  obtain ⟨q, xs, rfl, hs, hx⟩ := dp_tup h
  refine ⟨q, rfl, ?_⟩
  have : xs = (tt es a).map V.bl := by
    generalize tt es a = l at hx
    clear hs h
    induction l generalizing xs with
    | nil => cases hx; rfl
    | cons b l ih =>
      rw [List.map_cons] at hx
      cases hx with
      | cons h1 h2 =>
        cases h1
        rw [List.map_cons, ih _ h2]
  rw [this] at hs
  exact hs
section
variable {P : Program} {w : World} {K : PySem.W.Frag} {mg : Str → Option Value} {base : Heap}
theorem ok_ldia {f : Addr} {fd : FuncData} (F : Fun K "_law_diagrams" "_law_diagrams" s__law_diagrams f fd) (M : Mg mg) (c__law_fixed : Cl P w K mg base 1 "_law_fixed" (sp_fixed K)) (c__law_top : Cl P w K mg base 2 "_law_top" (sp_ltop K)) : FnOk P w K mg base CX0 3 f fd ["truths", "count"] (sp_ldia K) := by
  refine F.ok sc__law_diagrams (fun vs H Q E h => ?_) (fun cdv A outer s H vs Q E hr h => ?_)
  · obtain ⟨p, es, as, rfl, _⟩ := h
    rfl
  · obtain ⟨p, es, as, rfl, tl, hn, hl, hwf, hal, hsz, q⟩ := h
    have hpl : pile as.reverse ≤ 300000 := by
      have h1 := pile_le as.reverse 1000 fun b hb => hsz b (List.mem_reverse.mp hb)
      rw [List.length_reverse] at h1
      have h3 := Nat.mul_le_mul_right (2 * 1000 + 1) hal
      omega
    generalize hfin : as.reverse.foldl pre [] = fin
    have hq : ∀ H' q', Same H H' → TtL K H' q' es fin → Q (.ref q') H' := fun H' q' s' t' => by
      refine q H' q' fin s' t' (by rw [← hfin]; exact pres_nodup _ _ List.nodup_nil) fun x => ?_
      rw [← hfin, pres_iff _ _ (fun n b hb => by cases hb)]
      constructor
      · rintro (h | ⟨a, ha, h⟩)
        · cases h
        · exact ⟨a, List.mem_reverse.mp ha, h⟩
      · rintro ⟨a, ha, h⟩
        exact .inr ⟨a, List.mem_reverse.mpr ha, h⟩
    have sl : (1000000 : Nat) < sizeLine := by decide
    refine ⟨_, (pss_cons (ps_set (i := 2) sc__law_diagrams.nd rfl (.inl rfl) (pe_lst pa_nil))
      (pss_cons (ps_set (i := 3) sc__law_diagrams.nd rfl (.inl rfl) (pe_callTy (listK K) (by rfl) M.list (by decide +kernel) (pa_cons (pv 0) pa_nil)))
      (pss_cons (ps_while PassesOwn.never (pt_truthK K (pv 3) (by intro _; rfl)) (pss_cons (ps_set (i := 4) sc__law_diagrams.nd rfl (.inl rfl) (pe_bm0 PySem.F.plainAttrs_list PySem.F.slot_list_pop PySem.F.type_list_pop mt_pop (pv 3)))
      (pss_cons (ps_set (i := 5) sc__law_diagrams.nd rfl (.inl rfl) (pe_u c__law_top hr (by first | decide | omega) (by rfl) (pa_cons (pv 4) (pa_cons (pv 1) pa_nil))))
      (pss_one (ps_if (PW.pt (pw_and (pt_cmpR op_notN (pv 5) pe_non (nomark _)) (pw_and1 (pt_cmpR (notInDK K (hu65 hr)) (pv 4) (pv 2) (by rfl))))) (pss_cons (ps_expr (pe_bmK K PySem.F.plainAttrs_list PySem.F.slot_list_append PySem.F.type_list_append mt_append (pv 2) (pa_cons (pv 4) pa_nil)))
      (pss_cons (ps_expr (pe_bmK K PySem.F.plainAttrs_list PySem.F.slot_list_append PySem.F.type_list_append mt_append (pv 3) (pa_cons (pe_u c__law_fixed hr (by first | decide | omega) (by rfl) (pa_cons (pv 4) (pa_cons (pv 5) (pa_cons pe_int pa_nil)))) pa_nil)))
      (pss_one (ps_expr (pe_bmK K PySem.F.plainAttrs_list PySem.F.slot_list_append PySem.F.type_list_append mt_append (pv 3) (pa_cons (pe_u c__law_fixed hr (by first | decide | omega) (by rfl) (pa_cons (pv 4) (pa_cons (pv 5) (pa_cons pe_int pa_nil)))) pa_nil)))))) pss_nil)))))
      (pss_one (ps_ret (pv 2)))))), ?_⟩
    refine ⟨by show 0 ≤ sizeLine; decide, fun fl nfl => ?_⟩
    have s1 := same_upd nfl (o := .lst [])
    have e1 : (upd H fl (.lst [])) fl = some (.lst []) := upd_same
    generalize upd H fl (.lst []) = H1 at s1 e1
    obtain ⟨vs0, ep0, dp0⟩ := id tl
    refine ⟨_, rfl, p, _, rfl, .inl (.of (s1 _ _ ep0)), fun wl nwl => ?_⟩
    have s2 := same_upd nwl (o := .lst vs0)
    have e2 : (upd H1 wl (.lst vs0)) wl = some (.lst vs0) := upd_same
    have nwfl : wl ≠ fl := (ne_of_none e1 nwl).symm
    generalize upd H1 wl (.lst vs0) = H2 at s2 e2
    have nwl0 := s1.free nwl
    have fresh : ∀ {Hi : Hp} {p : Addr} {o : HO}, Same H Hi → H p = none → Same H (upd Hi p o) := fun sm np b o e => by
      rw [upd_ne (ne_of_none e np)]
      exact sm b o e
    refine ⟨LdW K H es p fl wl fin 300000, ⟨_, [], as.reverse, none, none, rfl, hpl, rfl, s1.trans s2, ⟨[], s2 _ _ e1, .nil⟩, ⟨vs0, e2, by rw [List.reverse_reverse]; exact DpAll.ext (s1.trans s2) _ _ dp0⟩, (by intro _ h; cases h), fun a ha => hwf a (List.mem_reverse.mp ha), hfin⟩, ?_⟩
    rintro m σ Hi ⟨fs, ws, z4, z5, rfl, hm, rfl, si, tf, tw, hfs, hws, hf⟩
    obtain ⟨vs, ew, dw⟩ := id tw
    refine ⟨_, rfl, _, .inl ⟨_, .of ew, rfl⟩, ?_⟩
    cases ws with
    | nil =>
      have hv : vs = [] := by
        have := DpAll.len dw
        exact List.eq_nil_of_length_eq_zero (by rw [this]; rfl)
      subst hv
      refine iteF ⟨_, rfl, ?_⟩
      have hf : fs = fin := hf
      subst hf
      exact hq Hi fl si tf
    | cons a ws =>
      rw [List.reverse_cons, List.map_append] at dw
      obtain ⟨us, v, rfl, dus, dv⟩ := DpAll.last dw
      obtain ⟨ap, rfl, hap⟩ := tt_seq dv
      have wa := hws a List.mem_cons_self
      have hws' : ∀ b ∈ ws, Wf es b := fun b hb => hws b (List.mem_cons_of_mem _ hb)
      have hne : (us ++ [V.ref ap]).isEmpty = false := by cases us <;> rfl
      rw [hne]
      refine iteT ⟨fun σ' H' => ∃ m', m' < pile (a :: ws) ∧ LdW K H es p fl wl fin 300000 m' σ' H', fun _ _ h => h, ?_⟩
      refine ⟨_, rfl, .inl ⟨rfl, _, .inl (.inl ew)⟩, wl, _, .ref ap, rfl, rfl, ew, ?_, ?_⟩
      · rw [List.length_append]
        show (us ++ [V.ref ap])[us.length + 1 - 1]? = _
        rw [Nat.add_sub_cancel, List.getElem?_append_right (Nat.le_refl _), Nat.sub_self]
        rfl
      rw [List.dropLast_concat]
      have ew1 : (upd Hi wl (.lst us)) wl = some (.lst us) := upd_same
      have tw1 : TtL K (upd Hi wl (.lst us)) wl es ws.reverse := ⟨us, upd_same, DpAll.away ew _ _ (bDt_only es _) dus⟩
      have tf1 : TtL K (upd Hi wl (.lst us)) fl es fs := tf.away ew nwfl.symm
      have hap1 : SqT K (upd Hi wl (.lst us)) ap ((tt es a).map V.bl) := (tt_seq (Dp.away ew _ _ (bDt_1 es a) dv)).elim fun q hq => by
        obtain ⟨e, h⟩ := hq
        cases e
        exact h
      have sw1 := fresh (o := .lst us) si nwl0
      generalize upd Hi wl (.lst us) = H3 at ew1 tw1 tf1 hap1 sw1
      refine ⟨_, rfl, _, rfl, ap, es, a, rfl, hap1, wa, hn, hl, fun H4 s4 => ?_⟩
      have tw4 := tw1.ext s4
      have tf4 := tf1.ext s4
      have hap4 := SqT.ext s4 hap1
      have s04 := sw1.trans s4
      have hf : ws.foldl pre (pre fs a) = fin := hf
      have hpw : pile ws < pile (a :: ws) := by show _ < 2 * a.sz + 1 + pile ws; omega
      cases a with
      | lf v => exact ⟨_, rfl, rfl, _, rfl, iteF ⟨pile ws, hpw, fs, ws, _, _, rfl, by omega, rfl, s04, tf4, tw4, hfs, hws', hf⟩⟩
      | nd e w t =>
        obtain ⟨w1, w2⟩ := wf_kids wa
        obtain ⟨t1, t2, t3, t4, t5, t6⟩ := fix_top hn wa
        refine ⟨_, rfl, rfl, _, rfl, ?_⟩
        rw [show decide (topV es (.nd e w t) = V.non) = false from decide_eq_false (fun z => nomatch z)]
        refine iteT ⟨_, rfl, _, rfl, bDt es (.nd e w t), _, dp_tt hap4, tf4.dp, tup_shaped _, bDts_shaped es fs, _, rfl, ?_⟩
        rw [any_eqv hn wa hfs]
        by_cases hm2 : Bd.nd e w t ∈ fs
        · rw [decide_eq_true hm2]
          refine iteF ⟨pile ws, hpw, fs, ws, _, _, rfl, by omega, rfl, s04, tf4, tw4, hfs, hws', ?_⟩
          rw [pre, if_pos hm2] at hf
          exact hf
        · rw [decide_eq_false hm2]
          refine iteT ?_
          rw [pre, if_neg hm2] at hf
          obtain ⟨fv, ef, lf, _⟩ := tf4.get
          have lfs : fs.length ≤ 300000 := by
            have h1 := (pres_pre ws (pre (pre (fs ++ [.nd e w t]) t) w)).length_le
            have h2 := (((List.prefix_append fs [.nd e w t]).trans (pre_pre t _)).trans (pre_pre w _)).length_le
            have h3 := pres_len as.reverse []
            rw [hfin] at h3
            rw [hf] at h1
            have h4 : ([] : List Bd).length = 0 := rfl
            omega
          refine ⟨_, rfl, .inl ⟨rfl, _, .inl (.inl ef)⟩, _, rfl, fl, _, _, rfl, rfl, ef, by omega, ?_⟩
          have tf5 := tf4.snoc ef hap4
          obtain ⟨wv, ewv, lwv, _⟩ := tw4.get
          have tw5 : TtL K (upd H4 fl (.lst (fv ++ [.ref ap]))) wl es ws.reverse := tw4.away ef nwfl
          have hap5 : SqT K (upd H4 fl (.lst (fv ++ [.ref ap]))) ap ((tt es (.nd e w t)).map V.bl) := (tt_seq (Dp.away ef _ _ (bDt_1 es _) (dp_tt hap4))).elim fun q hq => by
            obtain ⟨e, h⟩ := hq
            cases e
            exact h
          have s05 := fresh (o := .lst (fv ++ [.ref ap])) s04 nfl
          generalize upd H4 fl (.lst (fv ++ [.ref ap])) = H5 at tf5 tw5 hap5 s05
          obtain ⟨w5v, ew5, lw5, _⟩ := tw5.get
          have lws : ws.length ≤ 300000 := by
            have := pile_len ws
            omega
          refine ⟨_, rfl, .inl ⟨rfl, _, .inl (.inl ew5)⟩, ?_⟩
          refine ⟨_, rfl, _, rfl, ap, _, es.idxOf e, false, es.length, rfl, hap5, tt_len es _, t4, hl, fun H6 q6 s6 e6 => ?_⟩
          rw [t1] at e6
          have ew6 := s6 _ _ ew5
          refine ⟨wl, _, _, rfl, rfl, ew6, by rw [lw5, List.length_reverse]; omega, ?_⟩
          have tw7 := (tw5.ext s6).snoc ew6 (.of e6)
          have ef6 : ∃ zs, H6 fl = some (.lst zs) := by
            obtain ⟨zs, h, _⟩ := tf5.ext s6
            exact ⟨zs, h⟩
          have tf7 : TtL K (upd H6 wl (.lst (w5v ++ [.ref q6]))) fl es (fs ++ [.nd e w t]) := (tf5.ext s6).away ew6 nwfl.symm
          have hap7 : SqT K (upd H6 wl (.lst (w5v ++ [.ref q6]))) ap ((tt es (.nd e w t)).map V.bl) := (tt_seq (Dp.away ew6 _ _ (bDt_1 es _) (dp_tt (SqT.ext s6 hap5)))).elim fun q hq => by
            obtain ⟨e, h⟩ := hq
            cases e
            exact h
          have s07 := fresh (o := .lst (w5v ++ [.ref q6])) (s05.trans s6) nwl0
          generalize upd H6 wl (.lst (w5v ++ [.ref q6])) = H7 at tw7 tf7 hap7 s07
          obtain ⟨w7v, ew7, lw7, _⟩ := tw7.get
          refine ⟨_, rfl, .inl ⟨rfl, _, .inl (.inl ew7)⟩, ?_⟩
          refine ⟨_, rfl, _, rfl, ap, _, es.idxOf e, true, es.length, rfl, hap7, tt_len es _, t4, hl, fun H8 q8 s8 e8 => ?_⟩
          rw [t2] at e8
          have ew8 := s8 _ _ ew7
          refine ⟨wl, _, _, rfl, rfl, ew8, by rw [lw7, List.length_append, List.length_reverse]; show _ + 1 < _; omega, ?_⟩
          have tw9 := (tw7.ext s8).snoc ew8 (.of e8)
          have tf9 : TtL K (upd H8 wl (.lst (w7v ++ [.ref q8]))) fl es (fs ++ [.nd e w t]) := (tf7.ext s8).away ew8 nwfl.symm
          have hpp : pile (t :: w :: ws) + 1 = pile (.nd e w t :: ws) := by
            show 2 * t.sz + 1 + (2 * w.sz + 1 + pile ws) + 1 = 2 * (w.sz + t.sz + 1) + 1 + pile ws
            omega
          refine ⟨pile (t :: w :: ws), by omega, fs ++ [.nd e w t], t :: w :: ws, _, _, rfl, by omega, rfl, fresh (s07.trans s8) nwl0, tf9, ?_, fun b hb => ?_, fun b hb => ?_, hf⟩
          · rw [List.reverse_cons, List.reverse_cons]
            exact tw9
          · rcases List.mem_append.mp hb with hb | hb
            · exact hfs b hb
            · rw [List.mem_singleton.mp hb]; exact wa
          · rcases List.mem_cons.mp hb with rfl | hb
            · exact w2
            · rcases List.mem_cons.mp hb with rfl | hb
              · exact w1
              · exact hws' b hb
end

/-! ### max of numbers where an error is handled -/
section
open HotX
variable {prog : Program} {w : World} {A : Around} {E : Value → Shared → Prop} {s : Shared}
theorem lnext_hot {it l x1 : Addr} {i : Nat} {its : Array Value} {Q : Option Value → Shared → Prop} (hot : HotAt A x1 s.heap) (nx : x1 ≠ it) (hit : s.heap.IsListIter it l i) (hl : s.heap.IsList l its) (hx : its[i]? = none) (hQ : ∀ h', (∀ b o, b ≠ it → s.heap.get? b = some o → h'.get? b = some o) → Q none { s with heap := h' }) : wpAny (model prog w) A (pyNext (.ref it)) Q E s := by
  obtain ⟨oi, ho, _, hd⟩ := id hit
  obtain ⟨olst, hol, _, _, hdl⟩ := hl
  obtain ⟨hh, o1, vs1, h1, d1, c1⟩ := hot
  unfold pyNext
  refine (wpAny_bind (wpAny_attempt (wpAny_callSpecial?_slot (name := Str.ofString "__next__") hit.typeIs slot_listiter_next (wpAny_call_entry slot_listiter_next hit.typeIs entry_listiter_next ?_ (args_listiter_next _)))))
  show wpAny (model prog w) _ (field (.ref it) 0 >>= _) _ _ s
  refine (wpAny_bind ((wpAny_field ho hd (x := .ref l) rfl ?_)))
  show wpAny (model prog w) _ (if (Value.ref l == Value.none) = true then _ else _) _ _ s
  rw [if_neg (show ¬ (Value.ref l == Value.none) = true from fun z => Bool.noConfusion z)]
  show wpAny (model prog w) _ (field (.ref it) 1 >>= _) _ _ s
  refine (wpAny_bind ((wpAny_field ho hd (x := .int i 0) rfl ?_)))
  show wpAny (model prog w) _ (seqItems? (.ref l) >>= _) _ _ s
  refine (wpAny_bind ((wpAny_seqItems hol hdl ?_)))
  simp only [hx, Int.toNat_natCast]
  refine (wpAny_bind ((wpAny_rule ((wpAny_bind (wpAny_setField ho hd (by simp) ?_))))))
  show wpAny (model prog w) _ (newExc (.type "StopIteration") [] >>= _) _ _ _
  refine (wpAny_bind ?_)
  simp only [newTuple, newExc]
  refine (wpAny_bind ((wpAny_newObj_type ?_ (by size_fits))))
  refine (wpAny_bind (m := firstArgMember _ _) ((wpAny_of_eq (a := Value.none) (by first | rfl | (simp only [firstArgMember]; rfl)) ?_)))
  refine (wpAny_newObj_type ?_ (by size_fits))
  have h1u : (s.heap.update it (Obj.mapFields (·.setIfInBounds 0 .none))).get? x1 = some o1 := by
    rw [Heap.get?_update_other _ _ nx.symm]
    exact h1
  refine (raiseNew_hot ⟨hh, o1, vs1, Heap.get?_push_of_some _ (Heap.get?_push_of_some _ h1u), d1, c1⟩ ((Nat.ne_of_lt (Heap.lt_size (Heap.get?_push_of_some _ h1u)))) (Heap.get?_push_size _ rfl) rfl (by first | (simp; done) | (simp; omega) | (simp only [Array.size_append]; simp; omega)) ?_)
  refine (wpAny_bind ((wpAny_isInstance (T := "StopIteration") (b := true) ⟨_, Heap.get?_update_self _ (Heap.get?_push_size _ rfl) rfl, rfl⟩ isSubtype_stop ?_)))
  refine (wpAny_pure (hQ _ fun b o nb e => ?_))
  have eu : (s.heap.update it (Obj.mapFields (·.setIfInBounds 0 .none))).get? b = some o := by
    rw [Heap.get?_update_other _ _ nb.symm]
    exact e
  rw [Heap.get?_update_other _ _ (Nat.ne_of_gt (Heap.lt_size (Heap.get?_push_of_some _ eu)))]
  exact (Heap.get?_push_of_some _ (Heap.get?_push_of_some _ eu))
theorem hot_keep {x1 : Addr} {h h' : Heap} (hot : HotAt A x1 h) (k : ∀ o, h.get? x1 = some o → h'.get? x1 = some o) : HotAt A x1 h' := by
  obtain ⟨hh, o1, vs1, h1, d1, c1⟩ := hot
  exact ⟨hh, o1, vs1, k _ h1, d1, c1⟩
theorem walks_hot (I ax x1 : Addr) (hne : ax ≠ I) (nx : x1 ≠ I) (items : Array Value) : Walks prog w A I [I, ax, x1] [I] items.size (fun i v => items[i]? = some v) (fun i h => (h.IsListIter I ax i ∧ h.IsList ax items) ∧ HotAt A x1 h) where
  sub := fun b hb => (by simp at hb; simp [hb])
  frame := fun _ _ _ st hk => ⟨⟨st.1.1.at fun o e => hk I (by simp) o e, st.1.2.at fun o e => hk ax (by simp) o e⟩, hot_keep st.2 fun o e => hk x1 (by simp) o e⟩
  item := fun i s Q E hi st hQ => (by
    refine (wpAny_pyNext_list_item st.1.1 st.1.2 (x := items[i]) (by simp [hi]) fun h' hit' hs' => ?_)
    exact (hQ _ h' s.toks (by simp [hi]) ⟨⟨hit', st.1.2.extBut hs'.extBut hne⟩, hot_keep st.2 fun o e => hs'.extBut x1 o nx e⟩ fun b o hb e => hs'.extBut b o (fun h => hb (by simp [h])) e))
  done := fun s Q E st hQ => (lnext_hot st.2 nx st.1.1 st.1.2 (by simp) fun h' he' => hQ h' s.toks fun b o hb e => he' b o (fun h => hb (by simp [h])) e)
  self := fun _ _ _ _ st hQ => (wpAny_pyIter_listiter st.1.1 hQ)
theorem max_hot {x1 l : Addr} {its : List Value} {ns : List Int} {Q : Value → Shared → Prop} (hot : HotAt A x1 s.heap) (hl : s.heap.IsList l its.toArray) (hi : IntsAre its ns) (hne : 0 < ns.length)
    (h : ∀ g tk mx tm, (∀ b o, s.heap.get? b = some o → g.get? b = some o) → mx ∈ ns → (∀ a, a ∈ ns → a ≤ mx) → Q (.int mx tm) { s with heap := g, toks := tk }) : wpAny (model prog w) A (call (.builtin "max") [.ref l]) Q E s := by
  obtain ⟨xs, e⟩ := (hi.allInts.items)
  have hn : numsOf (intItems xs).toList = ns := (by rw [← e]; exact hi.numsOf)
  rw [nums_intItems] at hn
  subst hn
  rw [e] at hl
  have hsz : 0 < xs.size := (by simpa using hne)
  have lx : x1 < s.heap.objs.size := by
    obtain ⟨_, o1, _, h1, _⟩ := hot
    exact Heap.lt_size h1
  refine (call_max_walk (iter_intList hl fun s₂ e st hfp hlI => ?_))
  subst e
  refine ⟨_, _, _, _, _, _, _, rfl, walks_hot (A := A.in1) _ l x1 hlI (Nat.ne_of_lt lx) (intItems xs), ⟨st, hot_keep (A := A.in1) (h := s.heap) hot fun o e => Heap.get?_push_of_some _ e⟩, fun b hb => ?_, by simpa [intItems] using hsz, CmpOf.ints_gt (numAt xs) (fun _ _ => intItems_at), fun v h' tk hP hk => ?_⟩
  · rcases List.mem_cons.mp hb with rfl | hb
    · exact hfp _ (by simp)
    · rcases List.mem_cons.mp hb with rfl | hb
      · exact hfp _ (by simp)
      · rw [List.mem_singleton.mp hb]
        show x1 < (s.heap.push _).objs.size
        rw [Heap.size_push]
        exact Nat.lt_succ_of_lt lx
  · have hP : (intItems xs)[argBest (fun i j => decide (numAt xs i > numAt xs j)) (xs.size - 1)]? = some v := (by simpa [intItems] using hP)
    obtain ⟨t, rfl⟩ := intItems_at hP
    obtain ⟨k1, k2⟩ := argBest_gt (numAt xs) (xs.size - 1)
    refine (h h' tk _ t (old_kept hk) ?_ fun a ha => ?_)
    · rw [numAt_eq]
      exact PySem.getD_mem (by rw [List.length_map, Array.length_toList]; omega)
    · obtain ⟨j, hj, rfl⟩ := mem_getD ha
      simp only [List.length_map, Array.length_toList] at hj
      rw [← numAt_eq]
      exact k2 j (by omega)
theorem cr_maxH {X : Cx} (K : PySem.W.Frag) (hc : L2H.HotC X) (h : X.K = K := by rfl) : CallR X (.builtin "max") (rMax K) := by
  subst h
  intro pins s σ H vs us Q I r h
  obtain ⟨a, xs, rfl, hs, hne, q⟩ := h
  obtain ⟨us', rv, hl, _⟩ := I.list hs
  obtain ⟨x1, hot⟩ := hc.at I
  rw [Vals.ref1 r]
  exact (max_hot hot hl.isList rv.ints hne fun h' tk m t' hk h1 h2 => ⟨.int _, H, I.kept hk, ⟨_, rfl⟩, q m h1 h2⟩)
theorem cr_maxKK {X : Cx} (K : PySem.W.Frag) (hc : X.calm = true) (h : X.K = K := by rfl) : CallR X (.builtin "max") (rMax K) := by
  subst h
  exact cr_max hc
theorem hot_suite {X : Cx} {a : Addr} {oe : Obj} {cls : Value} {d : Option Addr} {pn : List (Addr × Obj)} (hz : L2N.Zn cls d oe) (hf : ∃ vs, oe.data = .fields vs) : L2H.HotC (X.suite a ((a, oe) :: pn)) := by
  obtain ⟨vs, e⟩ := hf
  exact ⟨(a, oe), ⟨rfl, vs, e, hz.2.2 vs e⟩, List.mem_cons_self⟩
theorem takes0N {X : Cx} : L2N.Takes X (fun _ _ _ _ => False) := fun _ _ ⟨_, _, _, _, _, _, _, _, _, _, _, _, _, _, _, _, z⟩ => z.elim
end
section
variable {P : Program} {w : World} {K : PySem.W.Frag} {mg : Str → Option Value} {base : Heap}
/-- a def that may raise, where nothing is handled -/
theorem okXN {x qual : Str} {st : Stmt} {f : Addr} {fd : FuncData} {N ps : List Str} {k : Nat} {sp : Sp} (F : Fun K x qual st f fd) (S : FnScope N ps (defScope st)) (len : ∀ vs H Q E, sp vs H Q E → vs.length = ps.length) (hbody : ∀ (cdv : Value) (A : Around) (outer : List Env) (s : Shared) (H : Hp) (vs : List V) (Q : VK) (E : XK), Room k (A.deeper (envOfC qual (defScope st) s.heap.objs.size f cdv)) → sp vs H Q E →
    ∃ t, PSs (cxOf (L2N.CX P w) P w K mg base N qual (defScope st) f cdv A outer s H E) (defBody st) t ∧ t { nx := fun _ H' => Q .non H', rt := Q } (start N vs) H) : FnOk P w K mg base (L2N.CX P w) (k + 1) f fd ps sp := by
  obtain ⟨_, _, _, _, _, _, cd0, _, _, rfl, lk, hcd⟩ := F.ex
  exact fn_of lk hcd S len (fun A outer s H vs Q E hr hsp => hbody cd0 A outer s H vs Q E hr hsp)
end

/-! ### lists in order -/
theorem pw_len {a b : List Int} (ha : a.Pairwise (· < ·)) (hb : b.Pairwise (· < ·)) (h : ∀ x ∈ a, x ∈ b) : a.length ≤ b.length := by
  have h1 : (b.filter fun x => decide (x ∈ a)).Perm a := by
    refine (List.perm_ext_iff_of_nodup ((hb.imp fun h => by omega : b.Nodup).sublist List.filter_sublist) (ha.imp fun h => by omega)).mpr fun x => ?_
    rw [List.mem_filter, decide_eq_true_eq]
    exact ⟨fun h => h.2, fun z => ⟨h x z, z⟩⟩
  rw [← h1.length_eq]
  exact List.length_filter_le _ _
theorem pw_ext3 : ∀ {a b : List Int}, a.Pairwise (· < ·) → b.Pairwise (· < ·) → (∀ x, x ∈ a ↔ x ∈ b) → a = b
  | [], [], _, _, _ => rfl
  | [], y :: b, _, _, h => absurd ((h y).mpr List.mem_cons_self) (by simp)
  | x :: a, [], _, _, h => absurd ((h x).mp List.mem_cons_self) (by simp)
  | x :: a, y :: b, ha, hb, h => by
    obtain ⟨a1, a2⟩ := List.pairwise_cons.mp ha
    obtain ⟨b1, b2⟩ := List.pairwise_cons.mp hb
    have e : x = y := by
      have h1 := (h x).mp List.mem_cons_self
      have h2 := (h y).mpr List.mem_cons_self
      rcases List.mem_cons.mp h1 with h1 | h1
      · exact h1
      · rcases List.mem_cons.mp h2 with h2 | h2
        · exact h2.symm
        · have := b1 x h1
          have := a1 y h2
          omega
    subst e
    rw [pw_ext3 a2 b2 fun z => ⟨fun hz => ?_, fun hz => ?_⟩]
    · rcases List.mem_cons.mp ((h z).mp (List.mem_cons_of_mem _ hz)) with g | g
      · have := a1 z hz
        omega
      · exact g
    · rcases List.mem_cons.mp ((h z).mpr (List.mem_cons_of_mem _ hz)) with g | g
      · have := b1 z hz
        omega
      · exact g

/-! ### own errors without an __init__ of their own -/
structure PlE (K : PySem.W.Frag) (mg : Str → Option Value) (C : Addr) (x : Str) : Prop where
  q : PySem.W.excIn K C [.type "ValueError", .type "Exception", .type "BaseException", .type "object"] "ValueError.__new__" = true
  nm : mg x = some (.ref C)
  k : PySem.W.keepIn K (.ref C) = true
  s : PySem.W.subIn K (.ref C) (.type "BaseException") = some true
  t : PySem.W.typeIn K (.ref C) = some (.type "type")
theorem ps_raiseP {X : Cx} {C : Addr} {W : WX} {x m : Str} {j : Nat} {p p2 pos pos' : Pos} (S : PlE X.K X.mg C x) (hc : X.calm = true) (tk : L2N.Takes X W) (hg : L2.Gl X x) (hdb : (x == ("__debug__" : Str)) = false := by decide) :
    PS X (.Raise (some (.Call (.Name x p) [.Constant (.str m) j p2] [] pos)) none pos') (fun _ σ H => W (.ref C) none σ H) := L2N.ps_raise hc tk (L2N.pmk_own PySem.F.excBase_ValueError S.q S.nm S.k (raises_own S.s S.t) hg hdb)
/-- a def that may raise, called by its name -/
structure ClX (P : Program) (w : World) (K : PySem.W.Frag) (mg : Str → Option Value) (base : Heap) (k : Nat) (x : Str) (sp : Sp) : Prop where
  ex : ∃ (f : Addr) (fd : FuncData) (ps : List Str), FnOk P w K mg base (L2N.CX P w) k f fd ps sp ∧ mg x = some (.ref f) ∧ PySem.W.keepIn K (.ref f) = true ∧ Binds K fd ps []
theorem FnOk.clx {P : Program} {w : World} {K : PySem.W.Frag} {mg : Str → Option Value} {base : Heap} {k : Nat} {x q : Str} {st : Stmt} {f : Addr} {fd : FuncData} {ps : List Str} {sp : Sp} (h : FnOk P w K mg base (L2N.CX P w) k f fd ps sp) (F : Fun K x q st f fd) (g : mg x = some (.ref f)) (b : Binds K fd ps []) : ClX P w K mg base k x sp := ⟨f, fd, ps, h, g, F.kp, b⟩
theorem passX {X : Cx} {E : XK} (tk : L2N.Takes X (fun cls d _ H => E cls d H)) : Passes (L2N.CX X.prog X.w) X E := fun pins σ H s e s' I c => L2N.passAt (W := fun cls d _ H => E cls d H) tk σ pins H s e s' I c
structure ClDX (P : Program) (w : World) (K : PySem.W.Frag) (mg : Str → Option Value) (base : Heap) (k : Nat) (x : Str) (dvs : List V) (sp : Sp) : Prop where
  ex : ∃ (f : Addr) (fd : FuncData) (ps : List Str) (ds : List Value), FnOk P w K mg base (L2N.CX P w) k f fd ps sp ∧ mg x = some (.ref f) ∧ PySem.W.keepIn K (.ref f) = true ∧ Binds K fd ps ds ∧ Vals dvs ds
structure ClNX (P : Program) (w : World) (K : PySem.W.Frag) (mg : Str → Option Value) (base : Heap) (k : Nat) (x : Str) (n : Nat) (ks : List Str) (gV : List V → List V → List V) (sp : Sp) : Prop where
  ex : ∃ (f : Addr) (fd : FuncData) (ps : List Str) (g : List Value → List Value → List Value), FnOk P w K mg base (L2N.CX P w) k f fd ps sp ∧ mg x = some (.ref f) ∧ PySem.W.keepIn K (.ref f) = true ∧ KBn K fd ps n ks g gV
section
variable {X : Cx} {k j n : Nat} {x : Str} {sp : Sp} {E : XK} {dvs : List V} {ks : List Str} {gV : List V → List V → List V} {p pos : Pos} {e : Expr} {es : List Expr} {kws : List Keyword} {t tk : TA}
theorem pe_ux (c : ClX X.prog X.w X.K X.mg X.base k x sp) (hr : Room j X.A) (hk : k ≤ j) (hp : Passes (L2N.CX X.prog X.w) X E) (hg : L2.Gl X x) (ha : PA X (e :: es) t)
    (hdb : (x == ("__debug__" : Str)) = false := by decide) (he : starEach (e :: es) X.env = (false, eval e X.env) :: starEach es X.env := by rfl) (hpl : (backTo pos (starEach es X.env)).any (·.1) = false := by rfl) :
    PE X (.Call (.Name x p) (e :: es) [] pos) (tCall sp [] E t) := by
  obtain ⟨f, fd, ps, F, hm, kp, b⟩ := c.ex
  exact pe_call F (hr.mono hk) hg hm kp b .nil hp ha hdb he hpl
theorem pe_udx (c : ClDX X.prog X.w X.K X.mg X.base k x dvs sp) (hr : Room j X.A) (hk : k ≤ j) (hp : Passes (L2N.CX X.prog X.w) X E) (hg : Gl X x) (ha : PA X (e :: es) t)
    (hdb : (x == ("__debug__" : Str)) = false := by decide) (he : starEach (e :: es) X.env = (false, eval e X.env) :: starEach es X.env := by rfl) (hpl : (backTo pos (starEach es X.env)).any (·.1) = false := by rfl) :
    PE X (.Call (.Name x p) (e :: es) [] pos) (tCall sp dvs E t) := by
  obtain ⟨f, fd, ps, ds, F, hm, kp, b, hd⟩ := c.ex
  exact pe_call F (hr.mono hk) hg hm kp b hd hp ha hdb he hpl
end

/-! ### defs with keyword-only parameters: called with the defaults, or with keywords -/
structure ClD (P : Program) (w : World) (K : PySem.W.Frag) (mg : Str → Option Value) (base : Heap) (k : Nat) (x : Str) (dvs : List V) (sp : Sp) : Prop where
  ex : ∃ (f : Addr) (fd : FuncData) (ps : List Str) (ds : List Value), FnOk P w K mg base CX0 k f fd ps sp ∧ mg x = some (.ref f) ∧ PySem.W.keepIn K (.ref f) = true ∧ Binds K fd ps ds ∧ Vals dvs ds
structure ClN (P : Program) (w : World) (K : PySem.W.Frag) (mg : Str → Option Value) (base : Heap) (k : Nat) (x : Str) (n : Nat) (ks : List Str) (gV : List V → List V → List V) (sp : Sp) : Prop where
  ex : ∃ (f : Addr) (fd : FuncData) (ps : List Str) (g : List Value → List Value → List Value), FnOk P w K mg base CX0 k f fd ps sp ∧ mg x = some (.ref f) ∧ PySem.W.keepIn K (.ref f) = true ∧ KBn K fd ps n ks g gV
section
variable {X : Cx} {k j n : Nat} {x : Str} {sp : Sp} {dvs : List V} {ks : List Str} {gV : List V → List V → List V} {p pos : Pos} {e : Expr} {es : List Expr} {kws : List Keyword} {t tk : TA}
theorem pe_ud (c : ClD X.prog X.w X.K X.mg X.base k x dvs sp) (hr : Room j X.A) (hk : k ≤ j) (hg : Gl X x) (ha : PA X (e :: es) t)
    (hdb : (x == ("__debug__" : Str)) = false := by decide) (he : starEach (e :: es) X.env = (false, eval e X.env) :: starEach es X.env := by rfl) (hpl : (backTo pos (starEach es X.env)).any (·.1) = false := by rfl) :
    PE X (.Call (.Name x p) (e :: es) [] pos) (tCall sp dvs E0 t) := by
  obtain ⟨f, fd, ps, ds, F, hm, kp, b, hd⟩ := c.ex
  exact pe_call F (hr.mono hk) hg hm kp b hd pass0 ha hdb he hpl
theorem pe_kn (c : ClN X.prog X.w X.K X.mg X.base k x n ks gV sp) (hr : Room j X.A) (hk : k ≤ j) (hg : Gl X x) (ha : PA X (e :: es) t) (hkw : PK X kws tk) (hall : (backToKw pos (keywordEach kws X.env)).all (·.1.isSome) = true := by rfl) (hks : (backToKw pos (keywordEach kws X.env)).filterMap (·.1) = ks := by rfl)
    (hdb : (x == ("__debug__" : Str)) = false := by decide) (he : starEach (e :: es) X.env = (false, eval e X.env) :: starEach es X.env := by rfl)
    (hpl : ((backTo pos (starEach (e :: es) X.env)).any (·.1) || (backToKw pos (keywordEach kws X.env)).any (·.1.isNone)) = false := by rfl) :
    PE X (.Call (.Name x p) (e :: es) kws pos) (tCallN n ks.length sp gV E0 t tk) := by
  obtain ⟨f, fd, ps, g, F, hm, kp, b⟩ := c.ex
  exact pe_callN F (hr.mono hk) hg hm kp b pass0 ha hkw hall hks hdb he hpl
end
theorem fund_mk {K : PySem.W.Frag} {x qual : Str} {st : Stmt} {f D : Addr} {oc : Value} {od an : Option Addr} {osl : Array (Option Value)} {doc pm cdv ct : Value} {kws : List (Str × V)} (l : K.lookup f = some ⟨oc, od, .func (PySem.W.fnOf x qual (defArgs st) (defBody st) (defScope st) .none (.ref D) doc pm an cdv ct), osl⟩)
    (c : PySem.W.codeIn K cdv qual = true) (k : PySem.W.keepIn K (.ref f) = true) (h : ∀ q ∈ kws, ∃ u, PySem.W.nsIn K D q.1 = some (some u) ∧ RelV q.2 u) : FunD K x qual (defArgs st) (defBody st) (defScope st) [] kws f (PySem.W.fnOf x qual (defArgs st) (defBody st) (defScope st) .none (.ref D) doc pm an cdv ct) :=
  ⟨⟨oc, od, .none, .ref D, doc, pm, an, cdv, ct, osl, rfl, l, c, .inl ⟨rfl, rfl⟩, .inr ⟨D, rfl, h⟩⟩, k⟩

/-! ### errors that a law catches: calls with keywords, isinstance of what was caught -/
def tCallNS (n m : Nat) (sp : Sp) (gV : List V → List V → List V) (E : L2.St → XK) (t tk : TA) : TE := fun σ H Q => t σ H fun vs H1 => tk σ H1 fun zs H2 => vs.length = n ∧ zs.length = m ∧ sp (gV vs zs) H2 Q (E σ)
section
variable {X : Cx} {k j n : Nat} {x : Str} {sp : Sp} {E : L2.St → XK} {ks : List Str} {gV : List V → List V → List V} {p pos : Pos} {e : Expr} {es : List Expr} {kws : List Keyword} {t tk : TA}
theorem pe_knS (c : ClNX X.prog X.w X.K X.mg X.base k x n ks gV sp) (hr : Room j X.A) (hk : k ≤ j) (hx : ∀ σ, PassesAt (L2N.CX X.prog X.w) X σ (E σ)) (hg : Gl X x) (ha : PA X (e :: es) t) (hkw : PK X kws tk) (hall : (backToKw pos (keywordEach kws X.env)).all (·.1.isSome) = true := by rfl) (hks : (backToKw pos (keywordEach kws X.env)).filterMap (·.1) = ks := by rfl)
    (hdb : (x == ("__debug__" : Str)) = false := by decide) (he : starEach (e :: es) X.env = (false, eval e X.env) :: starEach es X.env := by rfl)
    (hpl : ((backTo pos (starEach (e :: es) X.env)).any (·.1) || (backToKw pos (keywordEach kws X.env)).any (·.1.isNone)) = false := by rfl) :
    PE X (.Call (.Name x p) (e :: es) kws pos) (tCallNS n ks.length sp gV E t tk) := by
  obtain ⟨f, fd, ps, g, F, hm, kp, hb⟩ := c.ex
  refine ⟨fun pins s σ H Q I h => ?_⟩
  refine wpAny_Call_Name_kw (ld_glob I hg hm ?_ hdb)
  refine PySem.W.callWith_KW (h₀ := X.base) I.ok.mod.kin kp hall (thn (ha.run pos pins s σ H _ I h) fun us s1 ⟨vs, H1, I1, r, q⟩ => ?_) hpl he
  refine thn (hkw.run pos pins s1 σ H1 _ I1 q) fun ws s2 ⟨zs, H2, I2, rz, l1, l2, q2⟩ => ⟨I2.kIn, ?_⟩
  rw [hks]
  have r2 := hb.rel r rz
  refine wpAny_call (codeAny_mono (F.run X.A X.stack s2 H2 ⟨us, ks.zip ws⟩ (g us ws) (gV vs zs) Q (E σ) (hr.mono hk) I2.env0 (hb.to s2 us ws I2.kIn (r.length.symm.trans l1) (rz.length.symm.trans l2)) r2 q2) fun r s' hq => ?_)
  cases r with
  | error e => exact hx σ pins H2 s2 e s' I2 hq
  | ok fl =>
    cases fl with
    | ret u => exact I2.after hq
    | next => exact False.elim hq
    | brk => exact False.elim hq
    | cont => exact False.elim hq
end
/-- isinstance of what was caught: it is an instance of an own class without a dict of its own -/
def rIsX (K : PySem.W.Frag) (cls : Value) (d : Option Addr) (a : Addr) : List V → Hp → VK → Prop := fun xs H Q => ∃ (D : Addr) (c : V) (cv : Value) (b : Bool), cls = .ref D ∧ d = none ∧ ExcC K D ∧ xs = [.ref a, c] ∧ (∀ u, RelV c u → u = cv) ∧ PySem.W.kitOne K (.ref D) cv = some b ∧ Q (.bl b) H
theorem call_isX {X : Cx} {a : Addr} {oe : Obj} {cls : Value} {d : Option Addr} {pn : List (Addr × Obj)} (hz : Zc cls d oe) (hf : ∃ vs, oe.data = .fields vs) : CallR (X.suite a ((a, oe) :: pn)) (.builtin "isinstance") (rIsX X.K cls d a) := by
  intro pins s σ H xs us Q I r h
  obtain ⟨D, c, cv, b, rfl, rfl, C, h⟩ := h
  exact call_isE C hz hf pins s σ H xs us Q I r ⟨c, cv, b, h⟩
/-- what a law asks of an error that it catches: it is caught as L, and no instance of O -/
structure Cat (K : PySem.W.Frag) (C L O : Addr) : Prop where
  ex : PySem.W.exmOne K (.ref C) (.ref L) = some true
  xc : ExcC K C
  k1 : PySem.W.kitOne K (.ref C) (.ref C) = some true
  k2 : PySem.W.kitOne K (.ref C) (.ref O) = some false
theorem kit_refT {K : PySem.W.Frag} {C : Addr} : PySem.W.kitOne K (.ref C) (.ref C) = some true := by
  unfold PySem.W.kitOne
  rw [if_pos (beq_self_eq_true _)]
theorem kit_refF {K : PySem.W.Frag} {C O : Addr} (hb : PySem.W.subIn K (.ref O) (.type "BaseException") = some true) (hd : PySem.W.hasDictIn K O = true) (ht : PySem.W.typeIn K (.ref O) = some (.type "type")) (h1 : PySem.W.subIn K (.ref C) (.ref C) = some true) (h2 : PySem.W.subIn K (.ref C) (.ref O) = some false) : PySem.W.kitOne K (.ref C) (.ref O) = some false := by
  have h3 := PySem.W.exm_ref hb hd ht h2
  unfold PySem.W.exmOne at h3
  rw [hb, if_pos (beq_self_eq_true _)] at h3
  unfold PySem.W.kitOne
  rw [if_neg, h3]
  intro z
  have e := eq_of_beq z
  cases e
  rw [h1] at h2
  cases h2

def sp_size (C : Addr) (K : PySem.W.Frag) : Sp := fun vs H Q _ => ∃ s N es L a cs as, vs = [.ref s.p, .ref a] ∧ Sto C K H s N es L ∧ SqL K H a (natsV cs) ∧ Rel2 N cs as ∧ cs.length ≤ 100 ∧ (∀ b ∈ as, b.sz ≤ 1000) ∧ ∀ H', Same H H' → Q (.int (((as.reverse.foldl post []).length : Nat) : Int)) H'
section
variable {P : Program} {w : World} {K : PySem.W.Frag} {mg : Str → Option Value} {base : Heap}
theorem ok_size {f C : Addr} {fd : FuncData} (F : Fun K "size" "Diagrams.size" s_Diagrams_size f fd) (M : Mg mg) (G : DgC K C mg) (c_Diagrams_listed : ClM P w K mg base 2 C "listed" (sp_listed C K)) : FnOk P w K mg base CX0 3 f fd ["self", "conditions"] (sp_size C K) := by
  refine F.ok sc_Diagrams_size (fun vs H Q E h => ?_) (fun cdv A outer s H vs Q E hr h => ?_)
  · obtain ⟨s, N, es, L, a, cs, as, rfl, _⟩ := h
    rfl
  · obtain ⟨s, N, es, L, a, cs, as, rfl, st, ha, rel, hl, hsz, q⟩ := h
    refine ⟨_, (pss_cons (ps_asg (pe_mt c_Diagrams_listed hr (by first | decide | omega) (pv 0) (pa_cons (pv 1) pa_nil)) (pg_tup (by rfl) (pgs_cons (pg_name (i := 2) sc_Diagrams_size.nd rfl (.inl rfl)) (pgs_cons (pg_name (i := 3) sc_Diagrams_size.nd rfl (.inl rfl)) pgs_nil))))
      (pss_one (ps_ret (pe_callB (len_seqK K) (by rfl) M.len PySem.boot_len (pa_cons (pv 2) pa_nil))))), ?_⟩
    refine ⟨_, rfl, st.go (by decide +kernel) (by decide +kernel) (by decide +kernel) ⟨_, rfl, ?_⟩⟩
    refine ⟨s, N, es, L, a, cs, as, rfl, st, ha, rel, hl, hsz, fun H2 q2 nl nu xs ks s2 e2 nnl enl enu rk dx => ?_⟩
    refine ⟨q2, _, rfl, .of e2, rfl, _, _, rfl, _, _, rfl, rfl, ?_⟩
    refine ⟨_, rfl, nl, _, rfl, .inl (.of enl), ?_⟩
    rw [DpAll.len dx, List.length_map]
    exact q H2 s2
end

/-! ### methods that may raise -/
structure ClMX (P : Program) (w : World) (K : PySem.W.Frag) (mg : Str → Option Value) (base : Heap) (k : Nat) (C : Addr) (m : Str) (sp : Sp) : Prop where
  ex : ∃ (f : Addr) (fd : FuncData) (ps : List Str), FnOk P w K mg base (L2N.CX P w) k f fd ps sp ∧ Meth K C m f ∧ Cls K C ∧ Binds K fd ps []
theorem FnOk.clmx {P : Program} {w : World} {K : PySem.W.Frag} {mg : Str → Option Value} {base : Heap} {k : Nat} {C : Addr} {m : Str} {f : Addr} {fd : FuncData} {ps : List Str} {sp : Sp} (h : FnOk P w K mg base (L2N.CX P w) k f fd ps sp) (mt : Meth K C m f) (cl : Cls K C) (b : Binds K fd ps []) : ClMX P w K mg base k C m sp := ⟨f, fd, ps, h, mt, cl, b⟩
section
variable {X : Cx} {k j i : Nat} {m x : Str} {C : Addr} {sp : Sp} {E : XK} {p pos apos : Pos} {o e : Expr} {es : List Expr} {t : TA} {ta : TE}
theorem pe_mtx {pl : Sem Bool} (c : ClMX X.prog X.w X.K X.mg X.base k C m sp) (hr : Room j X.A) (hk : k ≤ j) (hp : Passes (L2N.CX X.prog X.w) X E) (he : PE X o ta) (ha : PA X (e :: es) t) (hst : starEach (e :: es) X.env = (false, eval e X.env) :: starEach es X.env := by rfl) (hpl : (backTo pos (starEach es X.env)).any (·.1) = false := by rfl)
    (ht : eval (.Call (.Attribute o m apos) (e :: es) [] pos) X.env = (do let ov ← eval o X.env; standAt apos.atName; let (f, first) ← holding [ov] (getMethod ov m pl); callWith pos f first (backTo pos (starEach (e :: es) X.env)) (backToKw pos (keywordEach [] X.env))) := by rfl) : PE X (.Call (.Attribute o m apos) (e :: es) [] pos) (tMeth C m sp [] E ta t) := by
  obtain ⟨f, fd, ps, F, hm, cl, b⟩ := c.ex
  exact pe_meth he cl hm F (hr.mono hk) b .nil hp ha hst hpl ht
theorem pe_mtx0 {pl : Sem Bool} (c : ClMX X.prog X.w X.K X.mg X.base k C m sp) (hr : Room j X.A) (hk : k ≤ j) (hp : Passes (L2N.CX X.prog X.w) X E) (he : PE X o ta)
    (ht : eval (.Call (.Attribute o m apos) [] [] pos) X.env = (do let ov ← eval o X.env; standAt apos.atName; let (f, first) ← holding [ov] (getMethod ov m pl); callWith pos f first (backTo pos (starEach [] X.env)) (backToKw pos (keywordEach [] X.env))) := by rfl) : PE X (.Call (.Attribute o m apos) [] [] pos) (tMeth C m sp [] E ta tNil) := by
  obtain ⟨f, fd, ps, F, hm, cl, b⟩ := c.ex
  exact pe_meth0 he cl hm F (hr.mono hk) b .nil hp ht
end

/-! ### conditions joined under a limit of their size -/
def szN (a : Bd) : Nat := (post [] a).length
def JT (es : List Int) (gs : List ((Int → Bool) → Bool)) (T : Bd) : Prop := Wf es T ∧ ∀ ρ, T.ev ρ = gs.any fun g => g ρ
def Small (es : List Int) (mn : Nat) (gs : List ((Int → Bool) → Bool)) : Prop := ∀ k, k < gs.length → ∀ T, JT es (gs.drop k) T → szN T ≤ mn
theorem JT.uq {es : List Int} (hn : es.Nodup) {as : List ((Int → Bool) → Bool)} {T U : Bd} (h : JT es as T) (g : JT es as U) : T = U := canon hn h.1 g.1 fun ρ => by rw [h.2, g.2]
def wfl (s : SA) (mn : Nat) (pd : Addr) : List (Str × V) := [("store", .ref s.p), ("most_rows", .int 0), ("most_nodes", .int ((mn : Nat) : Int)), ("passed", .ref pd)]
def Pas (N : Nds) (es : List Int) (mn : Nat) (kvs : List (Key × V)) : Prop := ∀ (c : Nat) v, valV kvs (.inl (c : Int)) = some v → ∃ T, At N c T ∧ Wf es T ∧ szN T ≤ mn
/-- the way, and what it has let pass -/
def Wy (CW : Addr) (H : Hp) (s : SA) (N : Nds) (es : List Int) (mn n : Nat) (wy pd : Addr) : Prop := (∃ dx, H wy = some (.ins CW dx (wfl s mn pd))) ∧ ∃ kvs, H pd = some (.dK kvs) ∧ kvs.length ≤ n ∧ Pas N es mn kvs
def FdK (pd : Addr) (s : SA) (H H' : Hp) : Prop := ∀ b o, b ≠ pd → b ≠ s.k → b ≠ s.u → b ≠ s.m → H b = some o → H' b = some o
section
variable {P : Program} {w : World} {K : PySem.W.Frag} {mg : Str → Option Value} {base : Heap}
theorem Sto.fdK {C : Addr} {H H' : Hp} {s : SA} {N : Nds} {es : List Int} {L : Nat} {d : Addr} {kvs0 : List (Key × V)} (st : Sto C K H s N es L) (hz : H d = some (.dK kvs0)) (f : Fd d H H') : Sto C K H' s N es L := by
  obtain ⟨⟨dx, h1⟩, ⟨xs, h2, h3⟩, ⟨kvs, h4, h5⟩, ⟨cvs, h6, h7⟩, h8⟩ := st
  have kp : ∀ b o, (∃ ys, o = HO.tup ys) ∨ (∃ q u, o = HO.frz q u) → H b = some o → H' b = some o := by
    rintro b o (⟨ys, rfl⟩ | ⟨q, u, rfl⟩) hb
    · exact f _ _ (ne_of hb hz (fun z => nomatch z)) hb
    · exact f _ _ (ne_of hb hz (fun z => nomatch z)) hb
  exact ⟨⟨dx, f _ _ (ne_of h1 hz (fun z => nomatch z)) h1⟩, ⟨xs, f _ _ (ne_of h2 hz (fun z => nomatch z)) h2, DpAll.tsn kp _ _ (nD_only _) h3⟩, ⟨kvs, f _ _ (ne_of h4 hz (fun z => nomatch z)) h4, h5⟩, ⟨cvs, f _ _ (ne_of h6 hz (fun z => nomatch z)) h6, h7⟩, h8⟩
theorem Wy.fds {C CW : Addr} {H H' : Hp} {s : SA} {N M : Nds} {es : List Int} {L mn n : Nat} {wy pd : Addr} (st : Sto C K H s N es L) (h : Wy CW H s N es mn n wy pd) (f : FdS s H H') : Wy CW H' s (N ++ M) es mn n wy pd := by
  obtain ⟨_, ⟨xs, h2, _⟩, ⟨kvs, h4, _⟩, ⟨cvs, h6, _⟩, _⟩ := st
  obtain ⟨⟨dx, g1⟩, kv2, g2, g3, g4⟩ := h
  refine ⟨⟨dx, f _ _ (ne_of g1 h2 (fun z => nomatch z)) (ne_of g1 h4 (fun z => nomatch z)) (ne_of g1 h6 (fun z => nomatch z)) g1⟩, kv2, f _ _ (ne_of g2 h2 (fun z => nomatch z)) (ne_of g2 h4 (fun z => nomatch z)) (ne_of g2 h6 (fun z => nomatch z)) g2, g3, fun c v hv => ?_⟩
  obtain ⟨T, k1, k2, k3⟩ := g4 c v hv
  exact ⟨T, k1.mono, k2, k3⟩
theorem Wy.ext {CW : Addr} {H H' : Hp} {s : SA} {N : Nds} {es : List Int} {mn n : Nat} {wy pd : Addr} (h : Wy CW H s N es mn n wy pd) (f : Same H H') : Wy CW H' s N es mn n wy pd := by
  obtain ⟨⟨dx, g1⟩, kv2, g2, g3, g4⟩ := h
  exact ⟨⟨dx, f _ _ g1⟩, kv2, f _ _ g2, g3, g4⟩
def sp_winit (CW : Addr) : Sp := fun vs H Q _ => ∃ (wy dx sp : Addr) (a b : Int), vs = [.ref wy, .ref sp, .int a, .int b] ∧ H wy = some (.ins CW dx []) ∧ ∀ H' pd, Fd wy H H' → H pd = none → H' wy = some (.ins CW dx [("store", .ref sp), ("most_rows", .int a), ("most_nodes", .int b), ("passed", .ref pd)]) → H' pd = some (.dK []) → Q .non H'
def sp_meet (C CW C2 : Addr) (K : PySem.W.Frag) : Sp := fun vs H Q E => ∃ s N es L mn n c T, ∃ wy pd : Addr, vs = [.ref wy, .int ((c : Nat) : Int)] ∧ Sto C K H s N es L ∧ Wy CW H s N es mn n wy pd ∧ n ≤ 1000 ∧ At N c T ∧ Wf es T ∧ T.sz ≤ 1000 ∧
  (szN T ≤ mn → ∀ H', Fd pd H H' → Sto C K H' s N es L → Wy CW H' s N es mn (n + 1) wy pd → Q (.int ((c : Nat) : Int)) H') ∧ (mn < szN T → ∀ H', Fd pd H H' → Sto C K H' s N es L → E (.ref C2) none H')
def sp_either (C CW C2 : Addr) (K : PySem.W.Frag) (n0 : Nat) : Sp := fun vs H Q E => ∃ s N es L mn n a b A B, ∃ wy pd : Addr, vs = [.ref wy, .int ((a : Nat) : Int), .int ((b : Nat) : Int)] ∧ Sto C K H s N es L ∧ Wy CW H s N es mn n wy pd ∧ n ≤ 1000 ∧ es.length < n0 ∧ 2 ^ es.length ≤ 32 ∧ At N a A ∧ At N b B ∧ Wf es A ∧ Wf es B ∧ N.length + opB es < sizeLine ∧ L + opB es < sizeLine ∧
  ∀ M r T H', FdK pd s H H' → M.length ≤ opB es → Sto C K H' s (N ++ M) es (L + opB es) → At (N ++ M) r T → Wf es T → (∀ ρ, T.ev ρ = (A.ev ρ || B.ev ρ)) → (szN T ≤ mn → Wy CW H' s (N ++ M) es mn (n + 1) wy pd → Q (.int ((r : Nat) : Int)) H') ∧ (mn < szN T → E (.ref C2) none H')
def sp_joined (C CW C2 : Addr) (K : PySem.W.Frag) (n0 : Nat) : Sp := fun vs H Q E => ∃ s N es L mn cs as, ∃ wy pd ca : Addr, vs = [.ref wy, .ref ca] ∧ Sto C K H s N es L ∧ Wy CW H s N es mn 0 wy pd ∧ es.length < n0 ∧ 2 ^ es.length ≤ 32 ∧ H ca = some (.lst (natsV cs)) ∧ ca ≠ s.k ∧ Rel2 N cs as ∧ (∀ a ∈ as, Wf es a) ∧ cs.length ≤ 10 ∧ N.length + 11 * opB es < sizeLine ∧ L + 11 * opB es < sizeLine ∧
  ∀ M H', FdK pd s H H' → M.length ≤ 10 * opB es → Sto C K H' s (N ++ M) es (L + 10 * opB es) → (∀ r T, Small es mn (as.map Bd.ev) → At (N ++ M) r T → JT es (as.map Bd.ev) T → Wy CW H' s (N ++ M) es mn 11 wy pd → Q (.int ((r : Nat) : Int)) H') ∧ (¬ Small es mn (as.map Bd.ev) → E (.ref C2) none H')
theorem rel2_get {N : Nds} : ∀ {cs : List Nat} {as : List Bd} {j c : Nat}, Rel2 N cs as → cs[j]? = some c → ∃ A, as[j]? = some A ∧ At N c A
  | [], _, _, _, _, h => by simp at h
  | _ :: _, [], _, _, h, _ => h.elim
  | x :: cs, a :: as, 0, c, h, e => ⟨a, rfl, (Option.some.inj e : x = c) ▸ h.1⟩
  | x :: cs, a :: as, j + 1, c, h, e => by
    obtain ⟨A, h1, h2⟩ := rel2_get h.2 (show cs[j]? = some c by simpa using e)
    exact ⟨A, by simpa using h1, h2⟩
structure WyG (K : PySem.W.Frag) (C : Addr) : Prop where
  cl : Cls K C
  nS : NoAttr K C "store"
  nR : NoAttr K C "most_rows"
  nN : NoAttr K C "most_nodes"
  nP : NoAttr K C "passed"
theorem wf_store (s : SA) (mn : Nat) (pd : Addr) : (wfl s mn pd).lookup ("store" : Str) = some (.ref s.p) := rfl
theorem wf_mn (s : SA) (mn : Nat) (pd : Addr) : (wfl s mn pd).lookup ("most_nodes" : Str) = some (.int ((mn : Nat) : Int)) := rfl
theorem wf_pd (s : SA) (mn : Nat) (pd : Addr) : (wfl s mn pd).lookup ("passed" : Str) = some (.ref pd) := rfl
theorem wd1 : ¬ (("store" : Str) = "most_rows") := by decide +kernel
theorem wd2 : ¬ (("store" : Str) = "most_nodes") := by decide +kernel
theorem wd3 : ¬ (("most_rows" : Str) = "most_nodes") := by decide +kernel
theorem wd4 : ¬ (("store" : Str) = "passed") := by decide +kernel
theorem wd5 : ¬ (("most_rows" : Str) = "passed") := by decide +kernel
theorem wd6 : ¬ (("most_nodes" : Str) = "passed") := by decide +kernel
theorem wf_mk (sp pd : Addr) (a b : Int) : putF "passed" (.ref pd) (putF "most_nodes" (.int b) (putF "most_rows" (.int a) (putF "store" (.ref sp) []))) = ([("store", .ref sp), ("most_rows", .int a), ("most_nodes", .int b), ("passed", .ref pd)] : List (Str × V)) := by
  simp only [putF, if_neg wd1, if_neg wd2, if_neg wd3, if_neg wd4, if_neg wd5, if_neg wd6]
theorem wf_no (s : SA) (mn : Nat) (pd : Addr) {m : Str} (h1 : (m == ("store" : Str)) = false) (h2 : (m == ("most_rows" : Str)) = false) (h3 : (m == ("most_nodes" : Str)) = false) (h4 : (m == ("passed" : Str)) = false) : (wfl s mn pd).lookup m = none := by
  unfold wfl
  simp only [List.lookup, h1, h2, h3, h4]
theorem ok_winit {f CW : Addr} {fd : FuncData} (F : Fun K "__init__" "Way.__init__" s_Way___init__ f fd) (M : Mg mg) (G : WyG K CW) : FnOk P w K mg base CX0 1 f fd ["self", "store", "most_rows", "most_nodes"] (sp_winit CW) := by
  refine F.ok sc_Way___init__ (fun vs H Q E h => ?_) (fun cdv A outer s H vs Q E hr h => ?_)
  · obtain ⟨wy, dx, sp, a, b, rfl, _⟩ := h
    rfl
  · obtain ⟨wy, dx, sp, a, b, rfl, hw, q⟩ := h
    refine ⟨_, (pss_cons (ps_fld (pv 0) (pv 1) rfl)
      (pss_cons (ps_fld (pv 0) (pv 2) rfl)
      (pss_cons (ps_fld (pv 0) (pv 3) rfl)
      (pss_one (ps_fld (pv 0) pe_dnewK rfl))))), ?_⟩
    refine ⟨_, rfl, _, rfl, wy, CW, dx, [], rfl, hw, G.cl, G.nS, by show 0 < 1000; decide, ?_⟩
    have f1 : Fd wy H (upd H wy (.ins CW dx (putF "store" (.ref sp) []))) := Fd.at
    have e1 : (upd H wy (.ins CW dx (putF "store" (.ref sp) []))) wy = some (.ins CW dx (putF "store" (.ref sp) [])) := upd_same
    generalize upd H wy (.ins CW dx (putF "store" (.ref sp) [])) = H1 at f1 e1 ⊢
    refine ⟨_, rfl, _, rfl, wy, CW, dx, _, rfl, e1, G.cl, G.nR, by show 1 < 1000; decide, ?_⟩
    have f2 : Fd wy H1 (upd H1 wy (.ins CW dx (putF "most_rows" (.int a) (putF "store" (.ref sp) [])))) := Fd.at
    have e2 : (upd H1 wy (.ins CW dx (putF "most_rows" (.int a) (putF "store" (.ref sp) [])))) wy = some (.ins CW dx (putF "most_rows" (.int a) (putF "store" (.ref sp) []))) := upd_same
    generalize upd H1 wy (.ins CW dx (putF "most_rows" (.int a) (putF "store" (.ref sp) []))) = H2 at f2 e2 ⊢
    refine ⟨_, rfl, _, rfl, wy, CW, dx, _, rfl, e2, G.cl, G.nN, by show 2 < 1000; decide, ?_⟩
    have f3 : Fd wy H2 (upd H2 wy (.ins CW dx (putF "most_nodes" (.int b) (putF "most_rows" (.int a) (putF "store" (.ref sp) []))))) := Fd.at
    have e3 : (upd H2 wy (.ins CW dx (putF "most_nodes" (.int b) (putF "most_rows" (.int a) (putF "store" (.ref sp) []))))) wy = some (.ins CW dx (putF "most_nodes" (.int b) (putF "most_rows" (.int a) (putF "store" (.ref sp) [])))) := upd_same
    generalize upd H2 wy (.ins CW dx (putF "most_nodes" (.int b) (putF "most_rows" (.int a) (putF "store" (.ref sp) [])))) = H3 at f3 e3 ⊢
    have f13 := (f1.trans f2).trans f3
    intro pd npd
    have npw : wy ≠ pd := ne_of_none e3 npd
    have hp0 : H pd = none := by
      cases e : H pd with
      | none => rfl
      | some o => exact absurd (f13 pd o npw.symm e) (by rw [npd]; exact fun z => nomatch z)
    have e4 : (upd H3 pd (.dK [])) wy = some (.ins CW dx (putF "most_nodes" (.int b) (putF "most_rows" (.int a) (putF "store" (.ref sp) [])))) := by rw [upd_ne npw]; exact e3
    refine ⟨_, rfl, wy, CW, dx, _, rfl, e4, G.cl, G.nP, by show 3 < 1000; decide, ?_⟩
    refine q _ pd (f13.trans (Fd.trans (Fd.new npd) Fd.at)) hp0 ?_ ?_
    · rw [upd_same]
      exact congrArg (fun z => some (HO.ins CW dx z)) (wf_mk sp pd a b)
    · rw [upd_ne npw.symm, upd_same]
theorem ok_meet {f C CW C2 : Addr} {fd : FuncData} (F : Fun K "meet" "Way.meet" s_Way_meet f fd) (M : Mg mg) (G : WyG K CW) (PE_TooManyQuestions : PlE K mg C2 "TooManyQuestions") (c_Diagrams_size : ClM P w K mg base 3 C "size" (sp_size C K)) : FnOk P w K mg base (L2N.CX P w) 4 f fd ["self", "condition"] (sp_meet C CW C2 K) := by
  refine okXN F sc_Way_meet (fun vs H Q E h => ?_) (fun cdv A0 outer s0 H vs Q E hr h => ?_)
  · obtain ⟨s, N, es, L, mn, n, c, T, wy, pd, rfl, _⟩ := h
    rfl
  · obtain ⟨s, N, es, L, mn, n, c, T, wy, pd, rfl, st, hw, hn, aT, wT, sT, q1, q2⟩ := h
    refine ⟨_, (pss_cons (ps_if (pt_cmp (pc_dnotin (hu_of hr) (pv 1) (pe_fld (pv 0) rfl))) (pss_cons (ps_if (pt_cmpR op_gt (pe_mt c_Diagrams_size hr (by first | decide | omega) (pe_fld (pv 0) rfl) (pa_cons (pe_lst (pa_cons (pv 1) pa_nil)) pa_nil)) (pe_fld (pv 0) rfl) (nomark _)) (pss_one (ps_raiseP PE_TooManyQuestions rfl (L2N.takes_of rfl rfl rfl rfl) (by rfl))) pss_nil)
      (pss_one (ps_dput (hu_of hr) (pe_fld (pv 0) rfl) (pv 1) pe_bl rfl))) pss_nil)
      (pss_one (ps_ret (pv 1)))), ?_⟩
    obtain ⟨⟨dx, g1⟩, kvs, g2, g3, g4⟩ := id hw
    refine ⟨_, rfl, _, rfl, wy, CW, dx, _, _, rfl, g1, G.cl, G.nP, wf_pd s mn pd, pd, _, rfl, DGet.k (k := .inl (c : Int)) g2, _, rfl, ?_⟩
    cases ev : valV kvs (.inl (c : Int)) with
    | some v =>
      refine iteF ?_
      obtain ⟨T', k1, k2, k3⟩ := g4 c v ev
      obtain rfl := aT.fn k1
      exact ⟨_, rfl, q1 k3 H (fun _ _ _ h => h) st ⟨⟨dx, g1⟩, kvs, g2, by omega, g4⟩⟩
    | none =>
      refine iteT ?_
      refine ⟨_, rfl, wy, CW, dx, _, _, rfl, g1, G.cl, G.nS, wf_store s mn pd, st.go (by decide +kernel) (by decide +kernel) (by decide +kernel) ⟨_, rfl, by show 1 ≤ sizeLine; decide, fun l1 n1 => ?_⟩⟩
      have s1 := same_upd n1 (o := .lst [.int ((c : Nat) : Int)])
      have e1 : (upd H l1 (.lst [.int ((c : Nat) : Int)])) l1 = some (.lst (natsV [c])) := upd_same
      generalize upd H l1 (.lst [.int ((c : Nat) : Int)]) = H1 at s1 e1 ⊢
      refine ⟨s, N, es, L, l1, [c], [T], rfl, st.ext s1, .of e1, ⟨aT, trivial⟩, by show 1 ≤ 100; decide, fun b hb => by rw [List.mem_singleton.mp hb]; exact sT, fun H2 s2 => ?_⟩
      have s02 := s1.trans s2
      have st2 := st.ext s02
      have g12 := s02 _ _ g1
      have g22 := s02 _ _ g2
      refine ⟨_, rfl, wy, CW, dx, _, _, rfl, g12, G.cl, G.nN, wf_mn s mn pd, _, _, rfl, rfl, _, rfl, ?_⟩
      refine ite2 (fun e => ?_) (fun e => ?_)
      · have e := of_decide_eq_true e
        have e : mn < szN T := by
          have : ((mn : Nat) : Int) < ((szN T : Nat) : Int) := e
          omega
        exact q2 e H2 (fun b o _ h => s02 _ _ h) st2
      · have e : szN T ≤ mn := by
          have e := fun z => e (decide_eq_true z)
          have : ¬ ((mn : Nat) : Int) < ((szN T : Nat) : Int) := e
          omega
        refine ⟨_, rfl, wy, CW, dx, _, _, rfl, g12, G.cl, G.nP, wf_pd s mn pd, _, rfl, pd, _, rfl, DPut.k (k := .inl (c : Int)) g22 (Nat.lt_of_le_of_lt (m := 1000) (by omega) (by decide)), ?_⟩
        have npw : wy ≠ pd := ne_of g1 g2 (fun z => nomatch z)
        refine ⟨_, rfl, q1 e _ (fun b o n h => by rw [upd_ne n]; exact s02 _ _ h) (st2.fdK g22 Fd.at) ⟨⟨dx, by rw [upd_ne npw]; exact g12⟩, putK kvs (.inl (c : Int)) (.bl true), upd_same, ?_, fun c' v hv => ?_⟩⟩
        · rw [putK_new _ ev, List.length_append]
          exact Nat.succ_le_succ g3
        · rw [valV_put] at hv
          split at hv
          · rename_i he
            have : c = c' := by
              have := Sum.inl.inj he
              omega
            subst this
            exact ⟨T, aT, wT, e⟩
          · exact g4 c' v hv
theorem ok_either {n0 : Nat} {f C CW C2 : Addr} {fd : FuncData} (F : Fun K "either" "Way.either" s_Way_either f fd) (M : Mg mg) (G : WyG K CW) (c_Diagrams_disjunction : ClM P w K mg base (n0 + 3) C "disjunction" (sp_op2 C K n0 or)) (cx_Way_meet : ClMX P w K mg base 4 CW "meet" (sp_meet C CW C2 K)) (h4 : 1 ≤ n0) : FnOk P w K mg base (L2N.CX P w) (n0 + 4) f fd ["self", "first", "second"] (sp_either C CW C2 K n0) := by
  refine okXN F sc_Way_either (fun vs H Q E h => ?_) (fun cdv A0 outer s0 H vs Q E hr h => ?_)
  · obtain ⟨s, N, es, L, mn, n, a, b, A, B, wy, pd, rfl, _⟩ := h
    rfl
  · obtain ⟨s, N, es, L, mn, n, a, b, A, B, wy, pd, rfl, st, hw, hn, hl, hp, aA, aB, wA, wB, z1, z2, q⟩ := h
    refine ⟨_, (pss_one (ps_ret (pe_mtx cx_Way_meet hr (by first | decide | omega) (E := E) (passX (L2N.takes_of rfl rfl rfl rfl)) (pv 0) (pa_cons (pe_mt c_Diagrams_disjunction hr (by first | decide | omega) (pe_fld (pv 0) rfl) (pa_cons (pv 1) (pa_cons (pv 2) pa_nil))) pa_nil)))), ?_⟩
    obtain ⟨⟨dx, g1⟩, kvs, g2, g3, g4⟩ := id hw
    refine ⟨_, rfl, wy, dx, _, rfl, g1, wf_no s mn pd (by decide +kernel) (by decide +kernel) (by decide +kernel) (by decide +kernel), ?_⟩
    refine ⟨_, rfl, wy, CW, dx, _, _, rfl, g1, G.cl, G.nS, wf_store s mn pd, st.go (by decide +kernel) (by decide +kernel) (by decide +kernel) ⟨_, rfl, _, rfl, ?_⟩⟩
    refine ⟨s, N, es, L, a, b, A, B, rfl, st, hl, aA, aB, wA, wB, z1, z2, fun H1 M r T f1 l1 st1 aT wT eT => ?_⟩
    have hw1 : Wy CW H1 s (N ++ M) es mn n wy pd := hw.fds st f1
    have fk : FdK pd s H H1 := fun b o n n1 n2 n3 h => f1 b o n1 n2 n3 h
    refine ⟨s, N ++ M, es, _, mn, n, r, T, wy, pd, rfl, st1, hw1, hn, aT, wT, ?_, fun hs H2 f2 st2 w2 => ?_, fun hs H2 f2 st2 => ?_⟩
    · have := wf_sz wT
      omega
    · exact (q M r T H2 (fun b o n n1 n2 n3 h => f2 b o n (f1 b o n1 n2 n3 h)) l1 st2 aT wT eT).1 hs w2
    · exact (q M r T H2 (fun b o n n1 n2 n3 h => f2 b o n (f1 b o n1 n2 n3 h)) l1 st2 aT wT eT).2 hs
theorem ok_joined {n0 : Nat} {f C CW C2 : Addr} {fd : FuncData} (F : Fun K "joined" "Way.joined" s_Way_joined f fd) (M : Mg mg) (G : DgC K C mg) (cx_Way_either : ClMX P w K mg base (n0 + 4) CW "either" (sp_either C CW C2 K n0)) : FnOk P w K mg base (L2N.CX P w) (n0 + 5) f fd ["self", "conditions"] (sp_joined C CW C2 K n0) := by
  refine okXN F sc_Way_joined (fun vs H Q E h => ?_) (fun cdv A0 outer s0 H vs Q E hr h => ?_)
  · obtain ⟨s, N, es, L, mn, cs, as, wy, pd, ca, rfl, _⟩ := h
    rfl
  · obtain ⟨s, N, es, L, mn, cs, as, wy, pd, ca, rfl, st, hw, hl, hp', hca, nck, rel, was, hl10, z1, z2, q⟩ := h
    refine ⟨_, (pss_cons (ps_set (i := 2) sc_Way_joined.nd rfl (.inl rfl) (C8.pe_gc (by rfl) G.NEVER))
      (pss_cons (ps_for (passes_of rfl) rfl (RT.pi_revA (by rfl) M.reversed (pv 1)) (pg_name (i := 3) sc_Way_joined.nd rfl (.inl rfl)) (pss_one (ps_set (i := 2) sc_Way_joined.nd rfl (.inl rfl) (pe_mtx cx_Way_either hr (by first | decide | omega) (E := E) (passX (L2N.takes_of rfl rfl rfl rfl)) (pv 0) (pa_cons (pv 3) (pa_cons (pv 2) pa_nil))))))
      (pss_one (ps_ret (pv 2))))), ?_⟩
    have lca : cs.length = as.length := rel.len
    obtain ⟨gs, hgs⟩ : ∃ gs, gs = as.map Bd.ev := ⟨_, rfl⟩
    rw [← hgs] at q
    have lgs : gs.length = cs.length := by rw [hgs, List.length_map, lca]
    obtain ⟨⟨dx0, g10⟩, kvs0, g20, _⟩ := id hw
    obtain ⟨_, ⟨xk, k2, _⟩, ⟨ku, k4, _⟩, ⟨km, k6, _⟩, _⟩ := id st
    have cpd : ca ≠ pd := ne_of hca g20 (fun z => nomatch z)
    have csu : ca ≠ s.u := ne_of hca k4 (fun z => nomatch z)
    have csm : ca ≠ s.m := ne_of hca k6 (fun z => nomatch z)
    refine ⟨_, rfl, ca, natsV cs, rfl, .inl ⟨.of hca, ?_⟩⟩
    have hop : opB es ≤ 64 := by unfold opB; omega
    refine RT.for_Itv (K := K) (a := ca) (xs := natsV cs) (fun i σ Hi => FdK pd s H Hi ∧ ∃ M r T z3, σ = [some (.ref wy), some (.ref ca), some (.int ((r : Nat) : Int)), z3] ∧ M.length ≤ i * opB es ∧ Sto C K Hi s (N ++ M) es (L + i * opB es) ∧ Wy CW Hi s (N ++ M) es mn i wy pd ∧ At (N ++ M) r T ∧ JT es (gs.drop (cs.length - i)) T ∧ ∀ k, cs.length - i ≤ k → k < cs.length → ∀ U, JT es (gs.drop k) U → szN U ≤ mn) ⟨fun _ _ _ _ _ _ h => h, [], 0, .lf false, none, rfl, Nat.zero_le _, by rw [List.append_nil, Nat.zero_mul]; exact st, by rw [List.append_nil]; exact hw, .f, ⟨.lf, fun ρ => by rw [List.drop_of_length_le (by omega)]; rfl⟩, fun k h1 h2 => by omega⟩ (fun i σ Hi hp => .of (hp.1 _ _ cpd nck csu csm hca)) (fun i x σ Hi hi hx hp => ?_) (fun σ Hn hp => ?_)
    · obtain ⟨fi, M, r, T, z3, rfl, lM, sti, hwi, aT, jT, sm⟩ := hp
      have lnv : (natsV cs).length = cs.length := List.length_map ..
      rw [lnv] at hi hx
      have hj : cs.length - 1 - i < cs.length := by omega
      obtain ⟨A, hA, aA⟩ := rel2_get rel (List.getElem?_eq_getElem hj)
      have ex : x = .int ((cs[cs.length - 1 - i] : Nat) : Int) := by
        unfold natsV at hx
        rw [List.getElem?_map, List.getElem?_eq_getElem hj] at hx
        exact (Option.some.inj hx).symm
      subst ex
      generalize cs[cs.length - 1 - i] = c at aA
      have wA := was A (List.mem_of_getElem? hA)
      obtain ⟨⟨dx, g1⟩, _⟩ := id hwi
      have hmul : (i + 1) * opB es = i * opB es + opB es := Nat.succ_mul _ _
      have hm10 : i * opB es ≤ 10 * opB es := Nat.mul_le_mul_right _ (by omega)
      have hm9 : (i + 1) * opB es ≤ 10 * opB es := Nat.mul_le_mul_right _ (by omega)
      have h11 : 11 * opB es = 10 * opB es + opB es := Nat.succ_mul 10 _
      refine ⟨_, rfl, wy, dx, _, rfl, g1, wf_no s mn pd (by decide +kernel) (by decide +kernel) (by decide +kernel) (by decide +kernel), _, rfl, _, rfl, ?_⟩
      refine ⟨s, N ++ M, es, _, mn, i, c, r, A, T, wy, pd, rfl, sti, hwi, by omega, hl, hp', aA.mono, aT, wA, jT.1, by rw [List.length_append]; omega, by omega, fun M2 r2 T2 H2 f2 l2 st2 aT2 wT2 eT2 => ?_⟩
      have f02 : FdK pd s H H2 := fun b o n n1 n2 n3 h => f2 b o n n1 n2 n3 (fi b o n n1 n2 n3 h)
      have hgj : gs[cs.length - 1 - i]? = some A.ev := by
        rw [hgs, List.getElem?_map, hA]
        rfl
      have jT2 : JT es (gs.drop (cs.length - (i + 1))) T2 := ⟨wT2, fun ρ => by
        have hlt : cs.length - (i + 1) < gs.length := by omega
        have hgj' : gs[cs.length - (i + 1)]? = some A.ev := by
          rw [show cs.length - (i + 1) = cs.length - 1 - i by omega]
          exact hgj
        have e1 : gs[cs.length - (i + 1)] = A.ev := Option.some.inj ((List.getElem?_eq_getElem hlt).symm.trans hgj')
        rw [List.drop_eq_getElem_cons hlt, List.any_cons, e1, show cs.length - (i + 1) + 1 = cs.length - i by omega, eT2, jT.2]⟩
      rw [List.append_assoc] at st2 aT2
      refine ⟨fun hs w2 => ?_, fun hs => ?_⟩
      · refine ⟨f02, M ++ M2, r2, T2, _, rfl, by rw [List.length_append]; omega, st2.more (by omega), by rw [← List.append_assoc]; exact w2, aT2, jT2, fun k h1 h2 U jU => ?_⟩
        by_cases hk : cs.length - i ≤ k
        · exact sm k hk h2 U jU
        · have ek : k = cs.length - (i + 1) := by omega
          subst ek
          rw [JT.uq st.es_nd jU jT2]
          exact hs
      · refine (q (M ++ M2) H2 f02 (by rw [List.length_append]; omega) (st2.more (by omega))).2 fun small => ?_
        have := small (cs.length - (i + 1)) (by omega) T2 jT2
        omega
    · obtain ⟨fn, M, r, T, z3, rfl, lM, stn, hwn, aT, jT, sm⟩ := hp
      have lnv : (natsV cs).length = cs.length := List.length_map ..
      rw [lnv] at lM stn hwn jT sm
      have hm10 : cs.length * opB es ≤ 10 * opB es := Nat.mul_le_mul_right _ hl10
      refine ⟨_, rfl, (q M Hn fn (by omega) (stn.more (by omega))).1 r T (fun k hk => sm k (by omega) (by omega)) aT ?_ ?_⟩
      · rw [Nat.sub_self, List.drop_zero] at jT
        exact jT
      · obtain ⟨h1, kv, h2, h3, h4⟩ := hwn
        exact ⟨h1, kv, h2, by omega, h4⟩
end

/-! ### outcomes -/
theorem sortedPK {X : Cx} (K : PySem.W.Frag) (h : X.K = K := by rfl) : CallR X (.builtin "sorted") (rSortedP K) := by subst h; exact cr_sortedP
theorem sl_tupK {X : Cx} (K : PySem.W.Frag) (h : X.K = K := by rfl) : SlR X (rSlA K) := by subst h; exact sl_tupA
theorem slA_cut {K : PySem.W.Frag} {H : Hp} {a : Addr} {xs : List V} {n : Nat} {Q : VK} (h : SqT K H a xs) (q : ∀ p H', Same H H' → SqT K H' p (xs.take n) → Q (.ref p) H') : rSlA K (.ref a) none (some ((n : Nat) : Int)) H Q := by
  have e : HT.sIx xs.length xs.length (some ((n : Nat) : Int)) = min n xs.length := by
    unfold HT.sIx
    dsimp only
    rw [if_neg (by omega), Int.toNat_natCast]
  refine ⟨a, xs, rfl, h, fun hw => q a H (fun _ _ e => e) ?_, fun _ p np => q p _ (same_upd np) (.of ?_)⟩
  · rw [e] at hw
    rw [List.take_of_length_le (by omega)]
    exact h
  · rw [upd_same]
    show some (HO.tup (List.take (HT.sIx xs.length xs.length (some ((n : Nat) : Int)) - 0) (List.drop 0 xs))) = _
    rw [e, List.drop_zero, Nat.sub_zero]
    congr 2
    rcases Nat.le_total n xs.length with h | h
    · rw [Nat.min_eq_left h]
    · rw [Nat.min_eq_right h, List.take_of_length_le (Nat.le_refl _), List.take_of_length_le h]
abbrev Cd := (Int × Int) × Nat × Bd
def rwD (r : Int × Int) : PyData := .tuple [.int r.1, .int r.2]
def cdD (x : Cd) : PyData := .tuple [rwD x.1, .int ((x.2.1 : Nat) : Int)]
def bgn (px : List Int) (r : Int × Int) : Bool := decide (([r.1, r.2] : List Int).take px.length = px)
theorem cdD_only : ∀ l : List Cd, tupOnlys (l.map cdD) = true
  | [] => rfl
  | x :: l => by
    rw [List.map_cons]
    unfold tupOnlys
    rw [cdD_only l]
    rfl
theorem cd_get {K : PySem.W.Frag} {H : Hp} {y : V} {x : Cd} (h : Dp K H y (cdD x)) : ∃ t rt, y = .ref t ∧ SqT K H t [.ref rt, .int ((x.2.1 : Nat) : Int)] ∧ SqT K H rt [.int x.1.1, .int x.1.2] := by
  obtain ⟨t, xs, rfl, ht, hx⟩ := dp_tup h
  cases hx with
  | cons h1 h2 =>
    obtain ⟨rt, ys, rfl, hr, hy⟩ := dp_tup h1
    cases h2 with
    | cons h3 h4 =>
      cases h3
      cases h4
      refine ⟨t, rt, rfl, ht, ?_⟩
      cases hy with
      | cons k1 k2 =>
        cases k1
        cases k2 with
        | cons k3 k4 =>
          cases k3
          cases k4
          exact hr
theorem dp_tints {K : PySem.W.Frag} {H : Hp} {a : Addr} {l : List Int} (h : SqT K H a (l.map V.int)) : Dp K H (.ref a) (.tuple (l.map PyData.int)) := .tup h (dpa_map _ _ (fun i => .int i) l)
theorem tints_shaped (l : List Int) : SeqAt.shaped (.tuple (l.map PyData.int)) = true := by
  have h := ints_shaped l
  unfold SeqAt.shaped at h ⊢
  rw [Bool.and_eq_true] at h ⊢
  obtain ⟨h1, h2⟩ := h
  unfold PyData.canLay0 at h1 ⊢
  refine ⟨h1, ?_⟩
  have h2 := of_decide_eq_true h2
  refine decide_eq_true ?_
  unfold PyData.depth at h2 ⊢
  exact h2
theorem tints_eqv (a b : List Int) : PyData.eqv (.tuple (a.map PyData.int)) (.tuple (b.map PyData.int)) = decide (a = b) := by
  unfold PyData.eqv
  exact eqv_intsL a b
theorem DpL.cht2 {L : Addr → Prop} {K : PySem.W.Frag} {H : Hp} {v : V} {k : Ck} (h : DpL L K H v (chD (some k))) : ∃ t q, v = .ref t ∧ SqT K H t [.int ((k.1 : Nat) : Int), .ref q] ∧ L q ∧ H q = some (.lst (k.2.2.map V.int)) := by
  cases h with
  | @tup t xs ds h1 h2 =>
    cases h2 with
    | cons g1 g2 =>
      cases g1
      cases g2 with
      | cons g5 g6 =>
        cases g6
        cases g5 with
        | @lst q xs ds hL hq hx =>
          refine ⟨t, q, rfl, h1, hL, ?_⟩
          have : xs = k.2.2.map V.int := by
            clear h1 hq
            generalize k.2.2 = l at hx
            induction l generalizing xs with
            | nil => cases hx; rfl
            | cons y l ih =>
              cases hx with
              | cons a b =>
                cases a
                rw [ih b]
                rfl
          rw [← this]
          exact hq
def oD (x : (Int × Int) × Ck) : PyData := .tuple [rwD x.1, .int ((x.2.1 : Nat) : Int), .list (x.2.2.2.map PyData.int)]
def og (ps : List Int) (cst : Int → Option Nat) (x : Cd) : Option ((Int × Int) × Ck) := (best ps cst x.2.2).map fun k => (x.1, k)
def sp_beg (K : PySem.W.Frag) : Sp := fun vs H Q _ => ∃ (ca pf : Addr) (us : List V) (cs : List Cd) (px : List Int), vs = [.ref ca, .ref pf] ∧ H ca = some (.lst us) ∧ DpAll K H us (cs.map cdD) ∧ SqT K H pf (px.map V.int) ∧ us.length ≤ 10 ∧
  ∀ H' r zs, Same H H' → H r = none → H' r = some (.lst zs) → DpAll K H' zs ((cs.filter fun x => bgn px x.1).map cdD) → Q (.ref r) H'
def sp_outc (C : Addr) (K : PySem.W.Frag) : Sp := fun vs H Q _ => ∃ s N es L, ∃ (ca pf pa cd : Addr) (us : List V) (cs : List Cd) (px ps : List Int) (cst : Int → Option Nat) (kvs : List (Key × V)), vs = [.ref s.p, .ref ca, .ref pf, .ref pa, .ref cd] ∧ Sto C K H s N es L ∧ (∀ x ∈ cs, At N x.2.1 x.2.2 ∧ Wf es x.2.2) ∧ es.length ≤ 5 ∧ H ca = some (.lst us) ∧ DpAll K H us (cs.map cdD) ∧ SqT K H pf (px.map V.int) ∧ us.length ≤ 10 ∧
  SqL K H pa (ps.map V.int) ∧ H cd = some (.dK kvs) ∧ (∀ x ∈ es, valV kvs (.inl x) = (cst x).map fun c => V.int ((c : Nat) : Int)) ∧
  ∀ H' r ys, Same H H' → H' r = some (.lst ys) → DpAll K H' ys (((cs.filter fun x => bgn px x.1).filterMap (og ps cst)).map oD) → Q (.ref r) H'
section
variable {P : Program} {w : World} {K : PySem.W.Frag} {mg : Str → Option Value} {base : Heap}
theorem ok_beg {f : Addr} {fd : FuncData} (F : Fun K "beginning" "beginning" s_beginning f fd) (M : Mg mg) : FnOk P w K mg base CX0 1 f fd ["candidates", "prefix"] (sp_beg K) := by
  refine F.ok sc_beginning (fun vs H Q E h => ?_) (fun cdv A0 outer s H vs Q E hr h => ?_)
  · obtain ⟨ca, pf, us, cs, px, rfl, _⟩ := h
    rfl
  · obtain ⟨ca, pf, us, cs, px, rfl, hca, dus, hpf, lus, q⟩ := h
    have lcs : us.length = cs.length := by rw [DpAll.len dus, List.length_map]
    refine ⟨_, (pss_one (ps_ret (pe_lc (own := [("row", 2), ("condition", 3)]) (g := gTup K 2 (gCons (gName 2) (gCons (gName 3) (gNil)))) rfl sc_beginning.nd (pi_list (pv 0)) (blkOk_by (N := N_beginning) (sc := defScope s_beginning) (by decide +kernel)) (fun _ _ _ _ _ => (pg_tup (by rfl) (pgs_cons (pg_name (i := 2) sc_beginning.nd rfl (.inl rfl)) (pgs_cons (pg_name (i := 3) sc_beginning.nd rfl (.inl rfl)) pgs_nil)))) (fun _ _ _ _ _ => (pts_one (pt_cmpR (eqDK K hr.units) (pe_slice (sl_tupK K) (pv 2) po_none (po_some (pe_callB (len_seqK K) (by rfl) M.len PySem.boot_len (pa_cons (pv 1) pa_nil)))) (pv 1) (nomark _)))) (fun _ _ _ _ _ => (pe_tup (pa_cons (pv 2) (pa_cons (pv 3) pa_nil))))))), ?_⟩
    refine ⟨_, rfl, ca, rfl, ⟨_, .of hca⟩, fun D nD => ?_⟩
    refine lc_list (K := K) (a := ca) (xs := us) (fun j Hj => Same H Hj ∧ ∃ zs, Hj D = some (.lst zs) ∧ zs.length ≤ j ∧ DpAll K Hj zs (((cs.take j).filter fun x => bgn px x.1).map cdD)) ⟨same_upd nD, [], upd_same, Nat.le_refl _, .nil⟩ (fun j Hj _ hp => .of (hp.1 _ _ hca)) (fun j y Hj hy hp => ?_) (fun H1 hp => ?_)
    · obtain ⟨sj, zs, eD, lz, dz⟩ := hp
      have hj : j < cs.length := by rw [← lcs]; exact (List.getElem?_eq_some_iff.mp hy).1
      obtain ⟨y', hy', dy⟩ := DpAll.get dus (show (cs.map cdD)[j]? = some (cdD cs[j]) by rw [List.getElem?_map, List.getElem?_eq_getElem hj]; rfl)
      obtain rfl : y = y' := Option.some.inj (hy.symm.trans hy')
      have hx := List.getElem?_eq_getElem hj
      generalize cs[j] = x at dy hx
      have etk : (cs.take (j + 1)).filter (fun x => bgn px x.1) = (cs.take j).filter (fun x => bgn px x.1) ++ if bgn px x.1 = true then [x] else [] := by
        rw [List.take_add_one, hx, List.filter_append]
        show _ ++ List.filter _ [x] = _
        rw [List.filter_cons, List.filter_nil]
      obtain ⟨t, rt, rfl, ht, hrt⟩ := cd_get dy
      refine ⟨t, _, rfl, SqT.ext sj ht, rfl, _, _, rfl, _, _, rfl, rfl, rfl, ?_⟩
      refine ⟨_, rfl, _, rfl, pf, _, rfl, .inr (SqT.ext sj hpf), _, rfl, slA_cut (SqT.ext sj hrt) fun p H2 s2 hp => ?_⟩
      have hp : SqT K H2 p ((([x.1.1, x.1.2] : List Int).take px.length).map V.int) := by
        rw [List.map_take]
        rw [List.length_map] at hp
        exact hp
      have s02 := sj.trans s2
      refine ⟨_, rfl, _, _, dp_tints hp, dp_tints (SqT.ext s02 hpf), tints_shaped _, tints_shaped _, _, rfl, ?_⟩
      rw [tints_eqv]
      refine ite2 (fun hc => ?_) (fun hc => ?_)
      · refine ⟨_, rfl, _, rfl, by show 2 ≤ sizeLine; decide, fun t3 n3 => ?_⟩
        have s3 := same_upd n3 (o := .tup [.ref rt, .int ((x.2.1 : Nat) : Int)])
        have d3 : Dp K (upd H2 t3 (.tup [.ref rt, .int ((x.2.1 : Nat) : Int)])) (.ref t3) (cdD x) := .tup (.of upd_same) (.cons (.tup (SqT.ext s3 (SqT.ext s02 hrt)) (.cons (.int _) (.cons (.int _) .nil))) (.cons (.int _) .nil))
        generalize upd H2 t3 (.tup [.ref rt, .int ((x.2.1 : Nat) : Int)]) = H3 at s3 d3 ⊢
        have s23 := s2.trans s3
        have eD3 := s23 _ _ eD
        refine ⟨_, eD3, Nat.lt_of_le_of_lt (m := 10) (by omega) (by decide), fun z o hz => ?_, zs ++ [.ref t3], upd_same, ?_, ?_⟩
        · rw [upd_ne (ne_of_none hz nD)]
          exact (sj.trans s23) _ _ hz
        · rw [List.length_append]
          exact Nat.succ_le_succ lz
        · rw [etk, if_pos (show bgn px x.1 = true from hc), List.map_append]
          exact DpAll.snoc (DpAll.away eD3 _ _ (cdD_only _) (DpAll.ext s23 _ _ dz)) (Dp.away eD3 _ _ rfl d3)
      · refine ⟨s02, zs, s2 _ _ eD, by omega, ?_⟩
        rw [etk, if_neg (show ¬ bgn px x.1 = true from hc), List.append_nil]
        exact DpAll.ext s2 _ _ dz
    · obtain ⟨s1, zs, eD, _, dz⟩ := hp
      rw [lcs, List.take_of_length_le (Nat.le_refl _)] at dz
      exact q H1 D zs s1 nD eD dz
end

/-! ### the laws' candidates: rows under conditions -/
theorem Sto.nk {C : Addr} {K : PySem.W.Frag} {H : Hp} {s : SA} {N : Nds} {es : List Int} {L : Nat} (st : Sto C K H s N es L) {b : Addr} (n : H b = none) : b ≠ s.k ∧ b ≠ s.u ∧ b ≠ s.m := by
  obtain ⟨_, ⟨xs, h2, _⟩, ⟨kvs, h4, _⟩, ⟨cvs, h6, _⟩, _⟩ := st
  exact ⟨(ne_of_none h2 n).symm, (ne_of_none h4 n).symm, (ne_of_none h6 n).symm⟩
def FdX (d : Addr) (s : SA) (H H' : Hp) : Prop := ∀ b o, b ≠ d → b ≠ s.k → b ≠ s.u → b ≠ s.m → H b = some o → H' b = some o
theorem FdX.of {d : Addr} {s : SA} {H H' : Hp} (e : Same H H') : FdX d s H H' := fun b o _ _ _ _ h => e b o h
theorem FdX.fd {d : Addr} {s : SA} {H H' : Hp} (e : Fd d H H') : FdX d s H H' := fun b o n _ _ _ h => e b o n h
theorem FdX.fds {d : Addr} {s : SA} {H H' : Hp} (e : FdS s H H') : FdX d s H H' := fun b o _ n1 n2 n3 h => e b o n1 n2 n3 h
theorem FdX.trans {d : Addr} {s : SA} {H H1 H2 : Hp} (a : FdX d s H H1) (b : FdX d s H1 H2) : FdX d s H H2 := fun x o n n1 n2 n3 h => b x o n n1 n2 n3 (a x o n n1 n2 n3 h)
theorem FdX.tup {C : Addr} {K : PySem.W.Frag} {d c : Addr} {s : SA} {H H' : Hp} {N : Nds} {es : List Int} {L : Nat} (dr : Dr H d c) (st : Sto C K H s N es L) (f : FdX d s H H') : ∀ b o, (∃ ys, o = HO.tup ys) ∨ (∃ q u, o = HO.frz q u) → H b = some o → H' b = some o := by
  obtain ⟨zs, hz⟩ := dr.lst
  obtain ⟨_, ⟨xs, h2, _⟩, ⟨kvs, h4, _⟩, ⟨cvs, h6, _⟩, _⟩ := st
  rintro b o (⟨ys, rfl⟩ | ⟨q, u, rfl⟩) hb
  · exact f b _ (ne_of hb hz (fun z => by cases z)) (ne_of hb h2 (fun z => by cases z)) (ne_of hb h4 (fun z => by cases z)) (ne_of hb h6 (fun z => by cases z)) hb
  · exact f b _ (ne_of hb hz (fun z => by cases z)) (ne_of hb h2 (fun z => by cases z)) (ne_of hb h4 (fun z => by cases z)) (ne_of hb h6 (fun z => by cases z)) hb
theorem Dr.fds {d c : Addr} {s : SA} {H H' : Hp} (h : Dr H d c) (hd : d ≠ s.k ∧ d ≠ s.u ∧ d ≠ s.m) (hc : c ≠ s.k ∧ c ≠ s.u ∧ c ≠ s.m) (f : FdS s H H') : Dr H' d c := by
  obtain ⟨n1, ns', pos, rest, seed, h1, h2, h3⟩ := h
  exact ⟨n1, ns', pos, rest, seed, f _ _ hd.1 hd.2.1 hd.2.2 h1, f _ _ hc.1 hc.2.1 hc.2.2 h2, h3⟩
def ctD (x : (Int × Int) × Tr) : PyData := .tuple [rwD x.1, x.2.d]
theorem ctD_1 (x : (Int × Int) × Tr) : tupOnly (ctD x) = true := by
  unfold ctD
  show (tupOnly (rwD x.1) && (tupOnly x.2.d && true)) = true
  rw [tr_only]
  rfl
theorem ctD_only : ∀ l : List ((Int × Int) × Tr), tupOnlys (l.map ctD) = true
  | [] => rfl
  | x :: l => by
    rw [List.map_cons]
    unfold tupOnlys
    rw [ctD_1, ctD_only l]
    rfl
def RwS (H : Hp) (us : List V) : Prop := ∀ x ∈ us, ∃ t i j, x = .ref t ∧ H t = some (.tup [.int i, .int j]) ∧ (0 ≤ i ∧ i < 10 ∧ 0 ≤ j ∧ j < 10)
theorem RwS.kp {H H' : Hp} {us : List V} (f : ∀ b o, (∃ ys, o = HO.tup ys) ∨ (∃ q u, o = HO.frz q u) → H b = some o → H' b = some o) (h : RwS H us) : RwS H' us := fun x hx => by
  obtain ⟨t, i, j, e, ht, hb⟩ := h x hx
  exact ⟨t, i, j, e, f _ _ (.inl ⟨_, rfl⟩) ht, hb⟩
theorem RwS.dp {K : PySem.W.Frag} {H : Hp} : ∀ {us : List V}, RwS H us → ∃ rs : List (Int × Int), DpAll K H us (rs.map rwD)
  | [], _ => ⟨[], .nil⟩
  | x :: us, h => by
    obtain ⟨rs, hr⟩ := RwS.dp (K := K) (us := us) fun y hy => h y (List.mem_cons_of_mem _ hy)
    obtain ⟨t, i, j, rfl, ht, _⟩ := h x List.mem_cons_self
    exact ⟨(i, j) :: rs, .cons (.tup (.of ht) (.cons (.int _) (.cons (.int _) .nil))) hr⟩
theorem rwD_lay (r : Int × Int) : (rwD r).canLay0 = true ∧ (rwD r).depth ≤ 40 := ⟨rfl, by show 1 ≤ 40; decide⟩
theorem rwD_shaped (r : Int × Int) : SeqAt.shaped (rwD r) = true := tints_shaped [r.1, r.2]
def sp_cand (C : Addr) (K : PySem.W.Frag) : Sp := fun vs H Q _ => ∃ (d c ea : Addr) (es : List Int) (most : Nat) (s : SA) (N : Nds) (L : Nat), vs = [.ref d, .ref s.p, .ref ea] ∧ Dr H d c ∧ EnA H ea d c es most ∧ most ≤ 5 ∧ Sto C K H s N es L ∧ (d ≠ s.k ∧ d ≠ s.u ∧ d ≠ s.m) ∧ (c ≠ s.k ∧ c ≠ s.u ∧ c ≠ s.m) ∧ (ea ≠ s.k ∧ ea ≠ s.u ∧ ea ≠ s.m) ∧ N.length + 50000 < sizeLine ∧ L + 50000 < sizeLine ∧
  ∀ H' r us (cs : List ((Int × Int) × Tr)) M L', FdX d s H H' → Dr H' d c → Sto C K H' s (N ++ M) es L' → M.length ≤ 12000 → L' ≤ L + 12000 → H r = none → H' r = some (.lst us) → DpAll K H' us (cs.map ctD) → cs.length ≤ 5 → (∀ x ∈ cs, x.2.ok es ∧ x.2.ht ≤ 3 ∧ (0 ≤ x.1.1 ∧ x.1.1 < 10 ∧ 0 ≤ x.1.2 ∧ x.1.2 < 10)) → Q (.ref r) H'
section
variable {P : Program} {w : World} {K : PySem.W.Frag} {mg : Str → Option Value} {base : Heap}
set_option maxHeartbeats 8000000 in
theorem ok_cand {f C : Addr} {fd : FuncData} (F : Fun K "_law_candidates" "_law_candidates" s__law_candidates f fd) (M : Mg mg) (c__law_next : Cl P w K mg base 1 "_law_next" sp_next) (c__law_tree : Cl P w K mg base 7 "_law_tree" (sp_ltr K 6)) (c__law_build : Cl P w K mg base 19 "_law_build" (sp_build C K 6 9)) : FnOk P w K mg base CX0 20 f fd ["draw", "store", "entries"] (sp_cand C K) := by
  refine F.ok sc__law_candidates (fun vs H Q E h => ?_) (fun cdv A0 outer s0 H vs Q E hr h => ?_)
  · obtain ⟨d, c, ea, es, most, s, N, L, rfl, _⟩ := h
    rfl
  · obtain ⟨d, c, ea, es, most, s, N, L, rfl, dr, en, hmost, st, dk, ck, ek, bN, bL, q⟩ := h
    have hl5 : es.length ≤ 5 := Nat.le_trans en.2.2.2.2.2.1 hmost
    have hob : opB es ≤ 64 := by
      have hpow : 2 ^ es.length ≤ 2 ^ 5 := Nat.pow_le_pow_right (by decide) hl5
      unfold opB
      omega
    have grow : ∀ t : Tr, t.ht ≤ 3 → t.sz * opB es ≤ 1024 := fun t ht => by
      have h1 := tr_sz t
      have h2 : 2 ^ (t.ht + 1) ≤ 2 ^ 4 := Nat.pow_le_pow_right (by decide) (by omega)
      have h3 : t.sz * opB es ≤ 16 * 64 := Nat.mul_le_mul (by omega) hob
      omega
    refine ⟨_, (pss_cons (ps_set (i := 3) sc__law_candidates.nd rfl (.inl rfl) (pe_lst pa_nil))
      (pss_cons (ps_set (i := 4) sc__law_candidates.nd rfl (.inl rfl) (pe_lst pa_nil))
      (pss_cons (ps_for PassesOwn.never rfl (pi_range1 (by rfl) M.range (pa_cons (pe_u c__law_next hr (by first | decide | omega) (by rfl) (pa_cons (pv 0) (pa_cons pe_int pa_nil))) pa_nil)) (pg_name (i := 5) sc__law_candidates.nd rfl (.inl rfl)) (pss_cons (ps_set (i := 6) sc__law_candidates.nd rfl (.inl rfl) (pe_tup (pa_cons (pe_u c__law_next hr (by first | decide | omega) (by rfl) (pa_cons (pv 0) (pa_cons pe_int pa_nil))) (pa_cons (pe_u c__law_next hr (by first | decide | omega) (by rfl) (pa_cons (pv 0) (pa_cons pe_int pa_nil))) pa_nil))))
      (pss_cons (ps_set (i := 7) sc__law_candidates.nd rfl (.inl rfl) (pe_u c__law_tree hr (by first | decide | omega) (by rfl) (pa_cons (pv 0) (pa_cons (pv 2) (pa_cons (pe_u c__law_next hr (by first | decide | omega) (by rfl) (pa_cons (pv 0) (pa_cons pe_int pa_nil))) pa_nil)))))
      (pss_one (ps_if (PW.pt (pw_and (pt_cmpR (notInDK K (hu65 hr)) (pv 6) (pv 4) (by rfl)) (pw_and1 (pt_cmpR op_ne (pe_u c__law_build hr (by first | decide | omega) (by rfl) (pa_cons (pv 1) (pa_cons (pv 7) pa_nil))) pe_int (nomark _))))) (pss_one (ps_expr (pe_bmK K PySem.F.plainAttrs_list PySem.F.slot_list_append PySem.F.type_list_append mt_append (pv 4) (pa_cons (pv 6) pa_nil)))) pss_nil)))))
      (pss_cons (ps_for PassesOwn.never rfl (pi_list (pe_callB (sortedPK K) (by rfl) M.sorted (by decide +kernel) (pa_cons (pv 4) pa_nil))) (pg_name (i := 6) sc__law_candidates.nd rfl (.inl rfl)) (pss_cons (ps_set (i := 7) sc__law_candidates.nd rfl (.inl rfl) (pe_u c__law_tree hr (by first | decide | omega) (by rfl) (pa_cons (pv 0) (pa_cons (pv 2) (pa_cons (pe_u c__law_next hr (by first | decide | omega) (by rfl) (pa_cons (pv 0) (pa_cons pe_int pa_nil))) pa_nil)))))
      (pss_one (ps_if (pt_cmpR op_ne (pe_u c__law_build hr (by first | decide | omega) (by rfl) (pa_cons (pv 1) (pa_cons (pv 7) pa_nil))) pe_int (nomark _)) (pss_one (ps_expr (pe_bmK K PySem.F.plainAttrs_list PySem.F.slot_list_append PySem.F.type_list_append mt_append (pv 3) (pa_cons (pe_tup (pa_cons (pv 6) (pa_cons (pv 7) pa_nil))) pa_nil)))) pss_nil))))
      (pss_one (ps_ret (pv 3))))))), ?_⟩
    refine ⟨Nat.zero_le _, fun R1 nR1 => ?_⟩
    have sR1 := same_upd nR1 (o := .lst [])
    have eR1 : (upd H R1 (.lst [])) R1 = some (.lst []) := upd_same
    generalize upd H R1 (.lst []) = H1 at sR1 eR1 ⊢
    refine ⟨Nat.zero_le _, fun R2 nR2 => ?_⟩
    have sR2 := same_upd nR2 (o := .lst [])
    have eR2 : (upd H1 R2 (.lst [])) R2 = some (.lst []) := upd_same
    generalize upd H1 R2 (.lst []) = H2 at sR2 eR2 ⊢
    have s02 := sR1.trans sR2
    have dr2 := dr.ext s02
    have st2 := st.ext s02
    have nR1d := dr.nd nR1
    have nR1c := dr.nc nR1
    have nR1k := st.nk nR1
    have nR2d := (dr.ext sR1).nd nR2
    have nR2c := (dr.ext sR1).nc nR2
    have nR2k := (st.ext sR1).nk nR2
    have n12 : R1 ≠ R2 := ne_of_none eR1 nR2
    have neR1 : ea ≠ R1 := ne_of_none en.2.2.1 nR1
    have neR2 : ea ≠ R2 := ne_of_none (sR1 _ _ en.2.2.1) nR2
    have ee2 := s02 _ _ en.2.2.1
    have eR12 := sR2 _ _ eR1
    refine ⟨_, rfl, d, c, 6, rfl, dr2, by decide, by decide, fun H3 n f3 _ dr3 n0 n1 => ?_⟩
    obtain ⟨n, rfl⟩ := Int.eq_ofNat_of_zero_le n0
    have st3 := st2.fd dr2.lst dk.1 f3
    have ee3 := f3 _ _ en.1 ee2
    have eR13 := f3 _ _ nR1d eR12
    have eR23 := f3 _ _ nR2d eR2
    refine ⟨_, rfl, by omega, by omega, ?_⟩
    refine for_range (lo := 0) (n := n) (fun j σ Hj => (∀ b o, b ≠ R2 → b ≠ d → b ≠ s.k → b ≠ s.u → b ≠ s.m → H3 b = some o → Hj b = some o) ∧ Dr Hj d c ∧ (∃ M L', M.length ≤ 1024 * j ∧ L' ≤ L + 1024 * j ∧ Sto C K Hj s (N ++ M) es L') ∧ (∃ us, Hj R2 = some (.lst us) ∧ us.length ≤ j ∧ RwS Hj us) ∧ ∃ z5 z6 z7, σ = [some (.ref d), some (.ref s.p), some (.ref ea), some (.ref R1), some (.ref R2), z5, z6, z7]) ⟨fun _ _ _ _ _ _ _ h => h, dr3, ⟨[], L, Nat.zero_le _, by omega, by rw [List.append_nil]; exact st3⟩, ⟨[], eR23, Nat.le_refl _, fun _ h => by cases h⟩, _, _, _, rfl⟩ (fun j σ Hj hj hp => ?_) (fun σ Hn hp => ?_)
    · obtain ⟨gj, drj, ⟨Mj, L', lM, lL, stj⟩, ⟨us, eRj, lus, rwj⟩, z5, z6, z7, rfl⟩ := hp
      have eej := gj _ _ neR2 en.1 ek.1 ek.2.1 ek.2.2 ee3
      refine ⟨_, rfl, d, c, 2, rfl, drj, by decide, by decide, fun Ha a fa _ dra a0 a1 => ⟨_, rfl, d, c, 3, rfl, dra, by decide, by decide, fun Hb b fb _ drb b0 b1 => ?_⟩⟩
      refine ⟨by show 2 ≤ sizeLine; decide, fun t nt => ?_⟩
      have sT := same_upd nt (o := .tup [.int a, .int b])
      have eT : (upd Hb t (.tup [.int a, .int b])) t = some (.tup [.int a, .int b]) := upd_same
      have drc := drb.ext sT
      have stc := ((stj.fd drj.lst dk.1 fa).fd dra.lst dk.1 fb).ext sT
      have fc : Fd d Hj (upd Hb t (.tup [.int a, .int b])) := (fa.trans fb).trans (Fd.of sT)
      generalize upd Hb t (.tup [.int a, .int b]) = Hc at sT eT drc stc fc ⊢
      refine ⟨_, rfl, _, rfl, _, rfl, d, c, 4, rfl, drc, by decide, by decide, fun Hd k0 fd' _ drd k0' k1' => ?_⟩
      obtain ⟨k, rfl⟩ := Int.eq_ofNat_of_zero_le k0'
      have eed := fd' _ _ en.1 (fc _ _ en.1 eej)
      refine ⟨d, c, ea, es, most, k, rfl, by omega, drd, ⟨en.1, en.2.1, eed, en.2.2.2⟩, by omega, fun He v t1 fe dre ok1 ht1 dp1 => ?_⟩
      have fce := fd'.trans fe
      have ste := (stc.fd drc.lst dk.1 fd').fd drd.lst dk.1 fe
      have eTe : He t = some (.tup [.int a, .int b]) := FdX.tup drc stc (FdX.fd fce) _ _ (.inl ⟨_, rfl⟩) eT
      have fje : FdX d s Hj He := FdX.fd (fc.trans fce)
      have rwe : RwS He us := RwS.kp (FdX.tup drj stj fje) rwj
      have eRe := fje _ _ nR2d nR2k.1 nR2k.2.1 nR2k.2.2 eRj
      obtain ⟨rs, hrs⟩ := RwS.dp (K := K) rwe
      refine ⟨_, rfl, _, rfl, rwD (a, b), rs.map rwD, .tup (.of eTe) (.cons (.int _) (.cons (.int _) .nil)), .lst (.of eRe) hrs, rwD_shaped _, shaped_list2 (fun x hx => by obtain ⟨r, _, rfl⟩ := List.mem_map.mp hx; exact rwD_lay r), _, rfl, ?_⟩
      refine ite2 (fun g => ?_) (fun g => iteF ?_)
      · have hg := grow t1 (by omega)
        refine ⟨_, rfl, _, rfl, s, N ++ Mj, es, L', v, t1, rfl, ste, by omega, ok1, by omega, dp1, by rw [List.length_append]; omega, by omega, fun Hf Mf r T ff lf stf atf wf vf => ?_⟩
        have fjf := fje.trans (FdX.fds (d := d) ff)
        have drf := dre.fds dk ck ff
        have rwf : RwS Hf us := RwS.kp (FdX.tup drj stj fjf) rwj
        have eRf := fjf _ _ nR2d nR2k.1 nR2k.2.1 nR2k.2.2 eRj
        have eTf : Hf t = some (.tup [.int a, .int b]) := ste.tup ff _ _ (.inl ⟨_, rfl⟩) eTe
        have gf : ∀ b o, b ≠ R2 → b ≠ d → b ≠ s.k → b ≠ s.u → b ≠ s.m → H3 b = some o → Hf b = some o := fun b o n n' n1 n2 n3 h => fjf b o n' n1 n2 n3 (gj b o n n' n1 n2 n3 h)
        refine ⟨rfl, _, rfl, ?_⟩
        refine ite2 (fun g => ?_) (fun g => ?_)
        · refine ⟨_, rfl, .inl ⟨rfl, _, .inl (.inl eRf)⟩, _, rfl, R2, us, _, rfl, rfl, eRf, Nat.lt_of_le_of_lt (m := 6) (by omega) (by decide), ?_⟩
          refine ⟨fun b o n n' n1 n2 n3 h => by rw [upd_ne n]; exact gf b o n n' n1 n2 n3 h, drf.upd nR2d nR2c, ⟨Mj ++ Mf, L' + t1.sz * opB es, by rw [List.length_append]; omega, by omega, ?_⟩, ⟨us ++ [.ref t], upd_same, by rw [List.length_append]; exact Nat.succ_le_succ lus, ?_⟩, _, _, _, rfl⟩
          · have := stf.fd ⟨us, eRf⟩ nR2k.1 (Fd.at (d := R2) (o := .lst (us ++ [V.ref t])))
            rw [← List.append_assoc]
            exact this
          · refine RwS.kp (H := Hf) (fun b o hb e => ?_) fun x hx => ?_
            · rw [upd_ne (fun z => ?_)]
              · exact e
              · rw [z, eRf] at e
                cases e
                rcases hb with ⟨_, g⟩ | ⟨_, _, g⟩ <;> cases g
            · rcases List.mem_append.mp hx with hx | hx
              · exact rwf x hx
              · rw [List.mem_singleton.mp hx]
                exact ⟨t, a, b, rfl, eTf, by omega⟩
        · exact ⟨gf, drf, ⟨Mj ++ Mf, L' + t1.sz * opB es, by rw [List.length_append]; omega, by omega, by rw [← List.append_assoc]; exact stf⟩, ⟨us, eRf, by omega, rwf⟩, _, _, _, rfl⟩
      · exact ⟨fun b o n n' n1 n2 n3 h => fje b o n' n1 n2 n3 (gj b o n n' n1 n2 n3 h), dre, ⟨Mj, L', by omega, by omega, ste⟩, ⟨us, eRe, by omega, rwe⟩, _, _, _, rfl⟩
    · obtain ⟨gn, drn, ⟨Mn, L', lM, lL, stn⟩, ⟨us, eRn, lus, rwn⟩, z5, z6, z7, rfl⟩ := hp
      have een := gn _ _ neR2 en.1 ek.1 ek.2.1 ek.2.2 ee3
      have eR1n := gn _ _ n12 nR1d nR1k.1 nR1k.2.1 nR1k.2.2 eR13
      refine ⟨_, rfl, R2, us, rfl, .of eRn, fun x hx => (by obtain ⟨t, i, j, e, ht, _⟩ := rwn x hx; exact ⟨t, i, j, e, ht⟩), fun ys Y hpm nY => ?_⟩
      have sY := same_upd nY (o := .lst ys)
      have eY : (upd Hn Y (.lst ys)) Y = some (.lst ys) := upd_same
      have nYd := drn.nd nY
      have nYk := stn.nk nY
      have nYR1 : Y ≠ R1 := (ne_of_none eR1n nY).symm
      have rwy : RwS Hn ys := fun x hx => rwn x (hpm.mem_iff.mp hx)
      have lys : ys.length ≤ 5 := by
        rw [hpm.length_eq]
        omega
      have drY := drn.ext sY
      have stY := stn.ext sY
      have eeY := sY _ _ een
      have eR1Y := sY _ _ eR1n
      have rwY : RwS (upd Hn Y (.lst ys)) ys := RwS.kp (fun b o _ h => sY b o h) rwy
      have fn0 : ∀ b o, b ≠ R2 → b ≠ d → b ≠ s.k → b ≠ s.u → b ≠ s.m → H3 b = some o → (upd Hn Y (.lst ys)) b = some o := fun b o n n' n1 n2 n3 h => sY _ _ (gn b o n n' n1 n2 n3 h)
      generalize upd Hn Y (.lst ys) = HY at sY eY drY stY eeY eR1Y rwY fn0 ⊢
      refine ⟨Y, rfl, ⟨_, .of eY⟩, ?_⟩
      refine for_list (K := K) (a := Y) (xs := ys) (fun i σ Hi => (∀ b o, b ≠ R1 → b ≠ d → b ≠ s.k → b ≠ s.u → b ≠ s.m → HY b = some o → Hi b = some o) ∧ Dr Hi d c ∧ (∃ M L', M.length ≤ 5200 + 1024 * i ∧ L' ≤ L + 5200 + 1024 * i ∧ Sto C K Hi s (N ++ M) es L') ∧ (∃ us, ∃ cs : List ((Int × Int) × Tr), Hi R1 = some (.lst us) ∧ cs.length ≤ i ∧ DpAll K Hi us (cs.map ctD) ∧ ∀ x ∈ cs, x.2.ok es ∧ x.2.ht ≤ 3 ∧ (0 ≤ x.1.1 ∧ x.1.1 < 10 ∧ 0 ≤ x.1.2 ∧ x.1.2 < 10)) ∧ RwS Hi ys ∧ ∃ z5 z6 z7, σ = [some (.ref d), some (.ref s.p), some (.ref ea), some (.ref R1), some (.ref R2), z5, z6, z7]) ⟨fun _ _ _ _ _ _ _ h => h, drY, ⟨Mn, L', by omega, by omega, stY⟩, ⟨[], [], eR1Y, Nat.le_refl _, .nil, fun _ h => by cases h⟩, rwY, _, _, _, rfl⟩ (fun i σ Hi _ hp => .of (hp.1 _ _ nYR1 nYd nYk.1 nYk.2.1 nYk.2.2 eY)) (fun i y σ Hi hy hp => ?_) (fun σ Hq hp => ?_)
      · obtain ⟨gi, dri, ⟨Mi, L2, lM2, lL2, sti⟩, ⟨us2, cs, eR1i, lcs, dus, hcs⟩, rwi, z5, z6, z7, rfl⟩ := hp
        have hi : i < ys.length := (List.getElem?_eq_some_iff.mp hy).1
        obtain ⟨t, a, b, rfl, hti, hab⟩ := rwi y (List.mem_of_getElem? hy)
        have eei := gi _ _ neR1 en.1 ek.1 ek.2.1 ek.2.2 eeY
        refine ⟨_, rfl, _, rfl, _, rfl, d, c, 4, rfl, dri, by decide, by decide, fun Hd k0 fd' _ drd k0' k1' => ?_⟩
        obtain ⟨k, rfl⟩ := Int.eq_ofNat_of_zero_le k0'
        have eed := fd' _ _ en.1 eei
        refine ⟨d, c, ea, es, most, k, rfl, by omega, drd, ⟨en.1, en.2.1, eed, en.2.2.2⟩, by omega, fun He v t1 fe dre ok1 ht1 dp1 => ?_⟩
        have fie := fd'.trans fe
        have ste := (sti.fd dri.lst dk.1 fd').fd drd.lst dk.1 fe
        have hg := grow t1 (by omega)
        have fie' : FdX d s Hi He := FdX.fd fie
        refine ⟨_, rfl, _, rfl, s, N ++ Mi, es, L2, v, t1, rfl, ste, by omega, ok1, by omega, dp1, by rw [List.length_append]; omega, by omega, fun Hf Mf r T ff lf stf atf wf vf => ?_⟩
        have fif := fie'.trans (FdX.fds (d := d) ff)
        have kpf := FdX.tup dri sti fif
        have drf := dre.fds dk ck ff
        have rwf : RwS Hf ys := RwS.kp kpf rwi
        have eRf := fif _ _ nR1d nR1k.1 nR1k.2.1 nR1k.2.2 eR1i
        have htf : Hf t = some (.tup [.int a, .int b]) := kpf _ _ (.inl ⟨_, rfl⟩) hti
        have dusf : DpAll K Hf us2 (cs.map ctD) := DpAll.tsn kpf _ _ (ctD_only _) dus
        have dpf : Dp K Hf v t1.d := ste.dp ff (tr_only _) dp1
        have gf : ∀ b o, b ≠ R1 → b ≠ d → b ≠ s.k → b ≠ s.u → b ≠ s.m → HY b = some o → Hf b = some o := fun b o n n' n1 n2 n3 h => fif b o n' n1 n2 n3 (gi b o n n' n1 n2 n3 h)
        refine ⟨rfl, _, rfl, ?_⟩
        refine ite2 (fun g => ?_) (fun g => ?_)
        · refine ⟨_, rfl, .inl ⟨rfl, _, .inl (.inl eRf)⟩, _, rfl, _, rfl, by show 2 ≤ sizeLine; decide, fun t8 n8 => ?_⟩
          have s8 := same_upd n8 (o := .tup [.ref t, v])
          have d8 : Dp K (upd Hf t8 (.tup [.ref t, v])) (.ref t8) (ctD ((a, b), t1)) := .tup (.of upd_same) (.cons (.tup (.of (s8 _ _ htf)) (.cons (.int _) (.cons (.int _) .nil))) (.cons (Dp.ext s8 _ _ dpf) .nil))
          have eR8 := s8 _ _ eRf
          have dr8 := drf.ext s8
          have st8 := stf.ext s8
          have du8 := DpAll.ext s8 _ _ dusf
          have rw8 : RwS (upd Hf t8 (.tup [.ref t, v])) ys := RwS.kp (fun b o _ h => s8 b o h) rwf
          generalize upd Hf t8 (.tup [.ref t, v]) = H8 at s8 d8 eR8 dr8 st8 du8 rw8 ⊢
          have lu2 : us2.length ≤ 5 := by
            rw [DpAll.len dus, List.length_map]
            omega
          refine ⟨R1, us2, _, rfl, rfl, eR8, Nat.lt_of_le_of_lt lu2 (by decide), ?_⟩
          refine ⟨fun b o n n' n1 n2 n3 h => by rw [upd_ne n]; exact s8 _ _ (gf b o n n' n1 n2 n3 h), dr8.upd nR1d nR1c, ⟨Mi ++ Mf, L2 + t1.sz * opB es, by rw [List.length_append]; omega, by omega, ?_⟩, ⟨us2 ++ [.ref t8], cs ++ [((a, b), t1)], upd_same, by rw [List.length_append]; exact Nat.succ_le_succ lcs, ?_, fun x hx => ?_⟩, ?_, _, _, _, rfl⟩
          · have := st8.fd ⟨us2, eR8⟩ nR1k.1 (Fd.at (d := R1) (o := .lst (us2 ++ [V.ref t8])))
            rw [← List.append_assoc]
            exact this
          · rw [List.map_append]
            exact DpAll.snoc (DpAll.away eR8 _ _ (ctD_only _) du8) (Dp.away eR8 _ _ (ctD_1 _) d8)
          · rcases List.mem_append.mp hx with hx | hx
            · exact hcs x hx
            · rw [List.mem_singleton.mp hx]
              exact ⟨ok1, by show t1.ht ≤ 3; omega, hab⟩
          · refine RwS.kp (H := H8) (fun b o hb e => ?_) rw8
            rw [upd_ne (fun z => ?_)]
            · exact e
            · rw [z, eR8] at e
              cases e
              rcases hb with ⟨_, g⟩ | ⟨_, _, g⟩ <;> cases g
        · exact ⟨gf, drf, ⟨Mi ++ Mf, L2 + t1.sz * opB es, by rw [List.length_append]; omega, by omega, by rw [← List.append_assoc]; exact stf⟩, ⟨us2, cs, eRf, by omega, dusf, hcs⟩, rwf, _, _, _, rfl⟩
      · obtain ⟨gq, drq, ⟨Mq, L2, lM2, lL2, stq⟩, ⟨us2, cs, eR1q, lcs, dus, hcs⟩, rwq, z5, z6, z7, rfl⟩ := hp
        refine ⟨_, rfl, q Hq R1 us2 cs Mq L2 (fun b o n n1 n2 n3 h => ?_) drq stq (by omega) (by omega) nR1 eR1q dus (by omega) hcs⟩
        have nbR1 : b ≠ R1 := ne_of_none h nR1
        have nbR2 : b ≠ R2 := ne_of_none (sR1 _ _ h) nR2
        exact gq b o nbR1 n n1 n2 n3 (fn0 b o nbR2 n n1 n2 n3 (f3 _ _ n (s02 _ _ h)))
end

/-! ### handed candidates, beside the trees that they were built from -/
theorem noDict_ints (l : List Int) : (PyData.list (l.map PyData.int)).hasDict = false := PyData.hasDict_of_canLay _ (by
  have h := ints_shaped l
  unfold SeqAt.shaped at h
  rw [Bool.and_eq_true] at h
  exact h.1)
/-- handed candidates, beside the trees that they were built from -/
inductive CR (N : Nds) (es : List Int) : List Cd → List ((Int × Int) × Tr) → Prop
  | nil : CR N es [] []
  | cons {y : (Int × Int) × Tr} {r : Nat} {T : Bd} {xs : List Cd} {ys : List ((Int × Int) × Tr)} : At N r T → Wf es T → T.ev = y.2.ev → CR N es xs ys → CR N es ((y.1, r, T) :: xs) (y :: ys)
theorem CR.mono {N M : Nds} {es : List Int} : ∀ {xs : List Cd} {ys : List ((Int × Int) × Tr)}, CR N es xs ys → CR (N ++ M) es xs ys
  | _, _, .nil => .nil
  | _, _, .cons a b c d => .cons a.mono b c (CR.mono d)
theorem CR.snoc {N : Nds} {es : List Int} {y : (Int × Int) × Tr} {r : Nat} {T : Bd} (h1 : At N r T) (h2 : Wf es T) (h3 : T.ev = y.2.ev) : ∀ {xs : List Cd} {ys : List ((Int × Int) × Tr)}, CR N es xs ys → CR N es (xs ++ [(y.1, r, T)]) (ys ++ [y])
  | _, _, .nil => .cons h1 h2 h3 .nil
  | _, _, .cons a b c d => .cons a b c (CR.snoc h1 h2 h3 d)
theorem CR.at {N : Nds} {es : List Int} : ∀ {xs : List Cd} {ys : List ((Int × Int) × Tr)}, CR N es xs ys → ∀ x ∈ xs, At N x.2.1 x.2.2 ∧ Wf es x.2.2 ∧ ∃ y ∈ ys, x.1 = y.1
  | _, _, .nil, _, h => by cases h
  | _, _, .cons a b c d, x, h => by
    rcases List.mem_cons.mp h with rfl | h
    · exact ⟨a, b, _, List.mem_cons_self, rfl⟩
    · obtain ⟨h1, h2, y, hy, e⟩ := CR.at d x h
      exact ⟨h1, h2, y, List.mem_cons_of_mem _ hy, e⟩
theorem CR.len {N : Nds} {es : List Int} : ∀ {xs : List Cd} {ys : List ((Int × Int) × Tr)}, CR N es xs ys → xs.length = ys.length
  | _, _, .nil => rfl
  | _, _, .cons _ _ _ d => congrArg (· + 1) (CR.len d)
def dg (px : List Int) (od : Tr → Option Ck) (x : (Int × Int) × Tr) : Option ((Int × Int) × Ck) := if bgn px x.1 = true then (od x.2).map fun k => (x.1, k) else none
theorem CR.same {N : Nds} {es px ps : List Int} {cst : Int → Option Nat} {od : Tr → Option Ck} (hn : es.Nodup) (hod : ∀ t o, Bst cst (Vld ps cst es t.ev) o → od t = o) : ∀ {xs : List Cd} {ys : List ((Int × Int) × Tr)}, CR N es xs ys → (xs.filter fun x => bgn px x.1).filterMap (og ps cst) = ys.filterMap (dg px od)
  | _, _, .nil => rfl
  | _, _, .cons (y := y) (r := r) (T := T) (xs := xs) (ys := ys) a b c d => by
    have ih := CR.same (px := px) hn hod d
    have bo := best_ok (pr := ps) (cst := cst) b hn
    rw [c] at bo
    have eo := hod y.2 _ bo
    cases hb : bgn px y.1 with
    | false =>
      rw [List.filter_cons_of_neg (by rw [show bgn px ((y.1, r, T) : Cd).1 = false from hb]; exact Bool.false_ne_true), ih, List.filterMap_cons]
      unfold dg
      rw [hb]
      rfl
    | true =>
      rw [List.filter_cons_of_pos (p := fun x : Cd => bgn px x.1) (show bgn px ((y.1, r, T) : Cd).1 = true from hb), List.filterMap_cons, List.filterMap_cons, ih]
      have e : og ps cst (y.1, r, T) = dg px od y := by
        unfold og dg
        rw [if_pos hb, eo]
      rw [e]
theorem ct_get {K : PySem.W.Frag} {H : Hp} {y : V} {x : (Int × Int) × Tr} (h : Dp K H y (ctD x)) : ∃ t rt tv, y = .ref t ∧ SqT K H t [.ref rt, tv] ∧ SqT K H rt [.int x.1.1, .int x.1.2] ∧ Dp K H tv x.2.d := by
  obtain ⟨t, xs, rfl, ht, hx⟩ := dp_tup h
  cases hx with
  | cons h1 h2 =>
    obtain ⟨rt, ys, rfl, hr, hy⟩ := dp_tup h1
    cases h2 with
    | cons h3 h4 =>
      cases h4
      refine ⟨t, rt, _, rfl, ht, ?_, h3⟩
      cases hy with
      | cons k1 k2 =>
        cases k1
        cases k2 with
        | cons k3 k4 =>
          cases k3
          cases k4
          exact hr
theorem o_get {Lq : Addr → Prop} {K : PySem.W.Frag} {H : Hp} {y : V} {x : (Int × Int) × Ck} (h : DpL Lq K H y (oD x)) : ∃ t rt q, y = .ref t ∧ SqT K H t [.ref rt, .int ((x.2.1 : Nat) : Int), .ref q] ∧ SqT K H rt [.int x.1.1, .int x.1.2] ∧ Lq q ∧ H q = some (.lst (x.2.2.2.map V.int)) := by
  cases h with
  | @tup t xs ds h1 h2 =>
    cases h2 with
    | cons g1 g2 =>
      cases g1 with
      | @tup rt ys ds k1 k2 =>
        cases k2 with
        | cons m1 m2 =>
          cases m1
          cases m2 with
          | cons m3 m4 =>
            cases m3
            cases m4
            cases g2 with
            | cons g3 g4 =>
              cases g3
              cases g4 with
              | cons g5 g6 =>
                cases g6
                cases g5 with
                | @lst q xs ds hL hq hx =>
                  refine ⟨t, rt, q, rfl, h1, k1, hL, ?_⟩
                  have : xs = x.2.2.2.map V.int := by
                    clear h1 hq
                    generalize x.2.2.2 = l at hx
                    induction l generalizing xs with
                    | nil => cases hx; rfl
                    | cons y l ih =>
                      cases hx with
                      | cons a b =>
                        cases a
                        rw [ih b]
                        rfl
                  rw [← this]
                  exact hq
theorem sqt_kp2 {K : PySem.W.Frag} {H H' : Hp} {a : Addr} {xs : List V} (f : ∀ b o, (∃ ys, o = HO.tup ys) ∨ (∃ q u, o = HO.frz q u) → H b = some o → H' b = some o) (h : SqT K H a xs) : SqT K H' a xs := by
  rcases h with (h | ⟨o, h⟩) | h
  · exact .inl (.inl (f _ _ (.inl ⟨_, rfl⟩) h))
  · exact .inl (.inr ⟨o, f _ _ (.inr ⟨_, _, rfl⟩) h⟩)
  · exact .inr h
theorem o_fds {Lq : Addr → Prop} {K : PySem.W.Frag} {H H' : Hp} (f : ∀ b o, (∃ ys, o = HO.tup ys) ∨ (∃ q u, o = HO.frz q u) → H b = some o → H' b = some o) (g : ∀ q o, Lq q → H q = some o → H' q = some o) : ∀ {ys : List V} {xs : List ((Int × Int) × Ck)}, DpLs Lq K H ys (xs.map oD) → DpAll K H' ys (xs.map oD)
  | _, [], h => by
    cases h
    exact .nil
  | _, x :: xs, h => by
    cases h with
    | cons h1 h2 =>
      obtain ⟨t, rt, q, rfl, k1, k2, hL, hq⟩ := o_get h1
      exact .cons (.tup (sqt_kp2 f k1) (.cons (.tup (sqt_kp2 f k2) (.cons (.int _) (.cons (.int _) .nil))) (.cons (.int _) (.cons (dp_ints (.of (g _ _ hL hq))) .nil)))) (o_fds f g h2)
theorem cdD_lay (x : Cd) : (cdD x).canLay0 = true ∧ (cdD x).depth ≤ 40 := ⟨rfl, by show 2 ≤ 40; decide⟩
theorem noDict_of {d : PyData} (h : SeqAt.shaped d = true) : d.hasDict = false := PyData.hasDict_of_canLay _ (by
  unfold SeqAt.shaped at h
  rw [Bool.and_eq_true] at h
  exact h.1)

/-! ### conditions of the laws joined -/
theorem wf_one {es : List Int} {e : Int} (h : e ∈ es) : Wf es (.nd e (.lf false) (.lf true)) := by
  obtain ⟨pre, po, rfl⟩ := List.append_of_mem h
  exact Wf.skips (.here .lf .lf (fun z => by cases z)) pre
theorem tr_bd {es : List Int} (hn : es.Nodup) : ∀ t : Tr, t.ok es → ∃ T, Wf es T ∧ ∀ ρ, T.ev ρ = t.ev ρ
  | .con b, _ => ⟨.lf b, .lf, fun _ => rfl⟩
  | .ther e, h => ⟨_, wf_one h, fun ρ => by show (if ρ e = true then true else false) = ρ e; cases ρ e <;> rfl⟩
  | .nt a, h => by
    obtain ⟨A, wA, eA⟩ := tr_bd hn a h
    obtain ⟨T, wT, eT⟩ := ite_ex hn wA (.lf (b := false)) (.lf (b := true))
    exact ⟨T, wT, fun ρ => by rw [eT, eA]; show (if a.ev ρ = true then false else true) = !(a.ev ρ); cases a.ev ρ <;> rfl⟩
  | .bin o a b, h => by
    obtain ⟨A, wA, eA⟩ := tr_bd hn a h.1
    obtain ⟨B, wB, eB⟩ := tr_bd hn b h.2
    cases o with
    | and =>
      obtain ⟨T, wT, eT⟩ := ite_ex hn wA wB (.lf (b := false))
      exact ⟨T, wT, fun ρ => by rw [eT, eA, eB]; show (if a.ev ρ = true then b.ev ρ else false) = (a.ev ρ && b.ev ρ); cases a.ev ρ <;> rfl⟩
    | or =>
      obtain ⟨T, wT, eT⟩ := ite_ex hn wA (.lf (b := true)) wB
      exact ⟨T, wT, fun ρ => by rw [eT, eA, eB]; show (if a.ev ρ = true then true else b.ev ρ) = (a.ev ρ || b.ev ρ); cases a.ev ρ <;> rfl⟩
    | df =>
      obtain ⟨C, wC, eC⟩ := ite_ex hn wB (.lf (b := false)) (.lf (b := true))
      obtain ⟨T, wT, eT⟩ := ite_ex hn wA wC wB
      exact ⟨T, wT, fun ρ => by rw [eT, eC, eA, eB]; show (if a.ev ρ = true then (if b.ev ρ = true then false else true) else b.ev ρ) = bne (a.ev ρ) (b.ev ρ); cases a.ev ρ <;> cases b.ev ρ <;> rfl⟩
def jn (ch : List Tr) : Tr := ch.foldr (fun t u => .bin .or t u) (.con false)
theorem jn_ev (ρ : Int → Bool) : ∀ ch : List Tr, (jn ch).ev ρ = (ch.map Tr.ev).any fun g => g ρ
  | [] => rfl
  | t :: ch => by
    show (t.ev ρ || (jn ch).ev ρ) = _
    rw [jn_ev ρ ch]
    rfl
theorem jn_ok {es : List Int} : ∀ ch : List Tr, (∀ t ∈ ch, t.ok es) → (jn ch).ok es
  | [], _ => trivial
  | t :: ch, h => ⟨h t List.mem_cons_self, jn_ok ch fun x hx => h x (List.mem_cons_of_mem _ hx)⟩
theorem CR.evs {N : Nds} {es px : List Int} : ∀ {xs : List Cd} {ys : List ((Int × Int) × Tr)}, CR N es xs ys → ((xs.filter fun x => bgn px x.1).map (·.2.2)).map Bd.ev = ((ys.filter fun y => bgn px y.1).map (·.2)).map Tr.ev
  | _, _, .nil => rfl
  | _, _, .cons (y := y) (r := r) (T := T) (xs := xs) (ys := ys) a b c d => by
    have ih := CR.evs (px := px) d
    cases hb : bgn px y.1 with
    | false =>
      rw [List.filter_cons_of_neg (by rw [show bgn px ((y.1, r, T) : Cd).1 = false from hb]; exact Bool.false_ne_true), List.filter_cons_of_neg (by rw [hb]; exact Bool.false_ne_true), ih]
    | true =>
      rw [List.filter_cons_of_pos (p := fun x : Cd => bgn px x.1) (show bgn px ((y.1, r, T) : Cd).1 = true from hb), List.filter_cons_of_pos (p := fun y : (Int × Int) × Tr => bgn px y.1) hb, List.map_cons, List.map_cons, List.map_cons, List.map_cons, ih]
      show Bd.ev T :: _ = _
      rw [c]
theorem rel2_map {N : Nds} : ∀ l : List Cd, (∀ x ∈ l, At N x.2.1 x.2.2) → Rel2 N (l.map (·.2.1)) (l.map (·.2.2))
  | [], _ => trivial
  | x :: l, h => ⟨h x List.mem_cons_self, rel2_map l fun y hy => h y (List.mem_cons_of_mem _ hy)⟩
theorem jt_drop {es : List Int} (hn : es.Nodup) {ch : List Tr} (h : ∀ t ∈ ch, t.ok es) (k : Nat) : ∃ T, JT es ((ch.map Tr.ev).drop k) T := by
  obtain ⟨T, wT, eT⟩ := tr_bd hn (jn (ch.drop k)) (jn_ok _ fun t ht => h t (List.mem_of_mem_drop ht))
  exact ⟨T, wT, fun ρ => by rw [eT, jn_ev, List.map_drop]⟩

/-! ### none of the outcomes -/
theorem DpL.unl {L : Addr → Prop} {K : PySem.W.Frag} {H : Hp} {v : V} {o : Option Ck} (h : DpL L K H v (chD o)) : Dp K H v (chD o) := by
  cases o with
  | none =>
    cases h
    exact .non
  | some k =>
    obtain ⟨t, q, rfl, h1, _, h2⟩ := DpL.cht2 h
    exact .tup h1 (.cons (.int _) (.cons (dp_ints (.of h2)) .nil))
def sp_none (C C2 : Addr) (K : PySem.W.Frag) : Sp := fun vs H Q E => ∃ s N es L, ∃ (ca pf pa cd : Addr) (us : List V) (cs : List Cd) (px ps : List Int) (cst : Int → Option Nat) (kvs : List (Key × V)) (mn : Nat), vs = [.ref s.p, .ref ca, .ref pf, .ref pa, .ref cd, .int ((mn : Nat) : Int)] ∧ Sto C K H s N es L ∧ (∀ x ∈ cs, At N x.2.1 x.2.2 ∧ Wf es x.2.2) ∧ es.length ≤ 5 ∧ H ca = some (.lst us) ∧ DpAll K H us (cs.map cdD) ∧ SqT K H pf (px.map V.int) ∧ us.length ≤ 10 ∧
  H pa = some (.lst (ps.map V.int)) ∧ pa ≠ s.k ∧ H cd = some (.dK kvs) ∧ (∀ x ∈ es, valV kvs (.inl x) = (cst x).map fun c => V.int ((c : Nat) : Int)) ∧ N.length + 1000 < sizeLine ∧ L + 1000 < sizeLine ∧
  ∀ gs, gs = ((cs.filter fun x => bgn px x.1).map (·.2.2)).map Bd.ev → ∀ M H', FdS s H H' → M.length ≤ 900 → Sto C K H' s (N ++ M) es (L + 900) →
    (∀ T' u, Small es mn gs → Wf es T' → (∀ ρ, T'.ev ρ = !(gs.any fun g => g ρ)) → Dp K H' u (chD (best ps cst T')) → Q u H') ∧ (¬ Small es mn gs → E (.ref C2) none H')
section
variable {P : Program} {w : World} {K : PySem.W.Frag} {mg : Str → Option Value} {base : Heap}
set_option maxHeartbeats 4000000 in
theorem ok_none {f C CW C2 : Addr} {fd : FuncData} (F : Fun K "none_of" "none_of" s_none_of f fd) (M : Mg mg) (c_Way___init__ : ClC P w K mg base 1 "Way" CW (sp_winit CW)) (c_beginning : Cl P w K mg base 1 "beginning" (sp_beg K)) (c_Diagrams_negation : ClM P w K mg base 9 C "negation" (sp_neg C K 6)) (cx_Way_joined : ClMX P w K mg base 11 CW "joined" (sp_joined C CW C2 K 6)) (c_cheapest : Cl P w K mg base 4 "cheapest" (sp_chp C K)) : FnOk P w K mg base (L2N.CX P w) 12 f fd ["store", "candidates", "prefix", "present", "costs", "most_nodes"] (sp_none C C2 K) := by
  refine okXN F sc_none_of (fun vs H Q E h => ?_) (fun cdv A0 outer s0 H vs Q E hr h => ?_)
  · obtain ⟨s, N, es, L, ca, pf, pa, cd, us, cs, px, ps, cst, kvs, mn, rfl, _⟩ := h
    rfl
  · obtain ⟨s, N, es, L, ca, pf, pa, cd, us, cs, px, ps, cst, kvs, mn, rfl, st, hcs, hl5, hca, dus, hpf, lus, hpa, npk, hcd, hkv, z1, z2, q⟩ := h
    have lcs : us.length = cs.length := by rw [DpAll.len dus, List.length_map]
    refine ⟨_, (pss_cons (ps_set (i := 6) sc_none_of.nd rfl (.inl rfl) (pe_mk c_Way___init__ hr (by first | decide | omega) (by rfl) (pa_cons (pv 0) (pa_cons pe_int (pa_cons (pv 5) pa_nil)))))
      (pss_cons (ps_set (i := 7) sc_none_of.nd rfl (.inl rfl) (pe_mtx cx_Way_joined hr (by first | decide | omega) (E := E) (passX (L2N.takes_of rfl rfl rfl rfl)) (pv 6) (pa_cons (pe_lc (own := [("_", 8), ("condition", 9)]) (g := gTup K 2 (gCons (gName 8) (gCons (gName 9) (gNil)))) (tt := tYes) rfl sc_none_of.nd (pi_list (pe_u c_beginning hr (by first | decide | omega) (by rfl) (pa_cons (pv 1) (pa_cons (pv 2) pa_nil)))) (blkOk_by (N := N_none_of) (sc := defScope s_none_of) (by decide +kernel)) (fun _ _ _ _ _ => (pg_tup (by rfl) (pgs_cons (pg_name (i := 8) sc_none_of.nd rfl (.inl rfl)) (pgs_cons (pg_name (i := 9) sc_none_of.nd rfl (.inl rfl)) pgs_nil)))) (fun _ _ _ _ _ => pts_nil) (fun _ _ _ _ _ => (pv 9))) pa_nil)))
      (pss_one (ps_ret (pe_u c_cheapest hr (by first | decide | omega) (by rfl) (pa_cons (pv 0) (pa_cons (pe_mt c_Diagrams_negation hr (by first | decide | omega) (pv 0) (pa_cons (pv 7) pa_nil)) (pa_cons (pv 3) (pa_cons (pv 4) pa_nil))))))))), ?_⟩
    refine ⟨_, rfl, _, rfl, fun wy dx nw nd ne => ⟨wy, dx, s.p, 0, ((mn : Nat) : Int), rfl, upd_same, fun H1 pd f1 np e1 ep => ⟨rfl, ?_⟩⟩⟩
    have s1 := made_same nw nd f1
    have np := made_free np
    have hw1 : Wy CW H1 s N es mn 0 wy pd := ⟨⟨dx, e1⟩, [], ep, Nat.le_refl _, fun c v hv => nomatch (show none = some _ from hv)⟩
    refine ⟨_, rfl, wy, dx, _, rfl, e1, wf_no s mn pd (by decide +kernel) (by decide +kernel) (by decide +kernel) (by decide +kernel), ?_⟩
    refine ⟨_, rfl, _, rfl, ca, pf, us, cs, px, rfl, s1 _ _ hca, DpAll.ext s1 _ _ dus, SqT.ext s1 hpf, lus, fun H2 r zs s2 nr er dz => ?_⟩
    have lbs : (cs.filter fun x => bgn px x.1).length ≤ cs.length := List.length_filter_le _ _
    have hcs' : ∀ x ∈ cs.filter fun x => bgn px x.1, At N x.2.1 x.2.2 ∧ Wf es x.2.2 := fun x hx => hcs x (List.mem_filter.mp hx).1
    generalize (cs.filter fun x => bgn px x.1) = bs at dz q lbs hcs'
    have lzs : zs.length = bs.length := by rw [DpAll.len dz, List.length_map]
    refine ⟨r, rfl, ⟨_, .of er⟩, fun D nD => ?_⟩
    refine lc_list (K := K) (a := r) (xs := zs) (fun j Hj => Same H2 Hj ∧ Hj D = some (.lst (natsV ((bs.take j).map (·.2.1))))) ⟨same_upd nD, upd_same⟩ (fun j Hj _ hp => .of (hp.1 _ _ er)) (fun j y Hj hy hp => ?_) (fun H3 hp => ?_)
    · obtain ⟨sj, eD⟩ := hp
      have hj : j < bs.length := by rw [← lzs]; exact (List.getElem?_eq_some_iff.mp hy).1
      obtain ⟨y', hy', dy⟩ := DpAll.get dz (show (bs.map cdD)[j]? = some (cdD bs[j]) by rw [List.getElem?_map, List.getElem?_eq_getElem hj]; rfl)
      obtain rfl : y = y' := Option.some.inj (hy.symm.trans hy')
      have hx := List.getElem?_eq_getElem hj
      generalize bs[j] = x at dy hx
      obtain ⟨t, rt, rfl, ht, hrt⟩ := cd_get dy
      refine ⟨t, _, rfl, SqT.ext sj ht, rfl, _, _, rfl, _, _, rfl, rfl, rfl, ?_⟩
      refine ⟨_, rfl, _, eD, ?_, fun z o hz => ?_, ?_⟩
      · unfold natsV
        rw [List.length_map, List.length_map, List.length_take]
        exact Nat.lt_of_le_of_lt (m := 10) (by omega) (by decide)
      · rw [upd_ne (ne_of_none hz nD)]
        exact sj _ _ hz
      · rw [upd_same, List.take_add_one, hx, List.map_append]
        unfold natsV
        rw [List.map_append]
        rfl
    obtain ⟨s3, eD⟩ := hp
    rw [lzs, List.take_of_length_le (Nat.le_refl _)] at eD
    have s13 := s2.trans s3
    have s03 := s1.trans s13
    have st3 := st.ext s03
    have hw3 := hw1.ext s13
    have nDk := (bu_ne ((st.ext s1).ext s2) nD).1
    have hpow : 2 ^ es.length ≤ 2 ^ 5 := Nat.pow_le_pow_right (by decide) hl5
    have hop : opB es ≤ 64 := by unfold opB; omega
    refine ⟨s, N, es, L, mn, bs.map (·.2.1), bs.map (·.2.2), wy, pd, D, rfl, st3, hw3, by omega, by omega, eD, nDk, rel2_map bs fun x hx => (hcs' x hx).1, fun a ha => ?_, by rw [List.length_map]; omega, by omega, by omega, fun M H4 f4 l4 st4 => ?_⟩
    · obtain ⟨x, hx, rfl⟩ := List.mem_map.mp ha
      exact (hcs' x hx).2
    have f04 : FdS s H H4 := fun b o n1 n2 n3 h => f4 b o (ne_of_none h np) n1 n2 n3 (s03 _ _ h)
    refine ⟨fun r4 T small aT jT w4 => ?_, fun ns => (q _ rfl M H4 f04 (by omega) (st4.more (by omega))).2 ns⟩
    obtain ⟨_, ⟨xk, k2, _⟩, ⟨ku, k4, _⟩, ⟨km, k6, _⟩, _⟩ := id st
    have psu : pa ≠ s.u := ne_of hpa k4 (fun z => nomatch z)
    have psm : pa ≠ s.m := ne_of hpa k6 (fun z => nomatch z)
    have csk : cd ≠ s.k := ne_of hcd k2 (fun z => nomatch z)
    have csu : cd ≠ s.u := ne_of hcd k4 (fun z => nomatch z)
    have csm : cd ≠ s.m := ne_of hcd k6 (fun z => nomatch z)
    refine ⟨_, rfl, _, rfl, st4.go (by decide +kernel) (by decide +kernel) (by decide +kernel) ⟨_, rfl, s, _, es, _, r4, T, rfl, st4, by omega, aT, jT.1, by rw [List.length_append]; omega, by omega, fun H5 M5 r5 T5 f5 l5 st5 a5 w5 e5 => ?_⟩⟩
    have f05 : FdS s H H5 := f04.trans f5
    refine ⟨_, rfl, _, rfl, s, _, es, _, r5, T5, pa, cd, ps, cst, kvs, rfl, st5, a5, w5, ?_, by omega, .of (f05 _ _ npk psu psm hpa), f05 _ _ csk csu csm hcd, hkv, fun H6 u s6 du => ?_⟩
    · have := wf_sz w5
      omega
    rw [List.append_assoc] at st5
    exact (q _ rfl (M ++ M5) H6 (f05.trans (FdS.of s6)) (by rw [List.length_append]; omega) ((st5.ext s6).more (by omega))).1 T5 u small w5 (fun ρ => by rw [e5, jT.2]) du.unl
end

/-! ### none of the rows -/
def sp_law (K : PySem.W.Frag) : Sp := fun vs H Q _ => ∃ (a : Addr) (ns : List Int), vs = [.ref a] ∧ SqL K H a (ns.map V.int) ∧ ns.length ≤ 63 ∧ ∀ H', Q (.bl true) H'
theorem ch_keep {Lq : Addr → Prop} {K : PySem.W.Frag} {H H' : Hp} {v : V} {o : Option Ck} (h : DpL Lq K H v (chD o)) (f : ∀ b ob, (∃ ys, ob = HO.tup ys) ∨ (∃ q u, ob = HO.frz q u) → H b = some ob → H' b = some ob) (g : ∀ q ob, Lq q → H q = some ob → H' q = some ob) : Dp K H' v (chD o) := by
  cases o with
  | none =>
    cases h
    exact .non
  | some k =>
    obtain ⟨t, q, rfl, h1, hL, h2⟩ := DpL.cht2 h
    exact .tup (sqt_kp2 f h1) (.cons (.int _) (.cons (dp_ints (.of (g q _ hL h2))) .nil))
section
variable {P : Program} {w : World} {K : PySem.W.Frag} {mg : Str → Option Value} {base : Heap}
set_option maxHeartbeats 8000000 in
theorem ok_law {f C C2 CL CS : Addr} {fd : FuncData} (F : Fun K "law" "law" s_law f fd) (M : Mg mg) (hm_LineError : mg "LineError" = some (.ref CL)) (hm_SourceError : mg "SourceError" = some (.ref CS)) (hm_TooManyQuestions : mg "TooManyQuestions" = some (.ref C2)) (CA : Cat K C2 CL CS) (c__law_draw : Cl P w K mg base 1 "_law_draw" (sp_draw K)) (c__law_next : Cl P w K mg base 1 "_law_next" sp_next) (c__law_entries : Cl P w K mg base 2 "_law_entries" (sp_ents 4)) (c_Diagrams___init__ : ClC P w K mg base 1 "Diagrams" C (sp_dinit C K)) (c__law_candidates : Cl P w K mg base 20 "_law_candidates" (sp_cand C K))
    (c__law_build : Cl P w K mg base 19 "_law_build" (sp_build C K 6 9)) (c__law_subsets : Cl P w K mg base 1 "_law_subsets" sp_subsN) (c__law_truth : Cl P w K mg base 12 "_law_truth" (sp_truth K 10)) (c__law_diagrams : Cl P w K mg base 3 "_law_diagrams" (sp_ldia K)) (c__law_costs : Cl P w K mg base 2 "_law_costs" sp_lcosts) (c__law_best : Cl P w K mg base 4 "_law_best" (sp_lbest K))
    (c__law_same : Cl P w K mg base 6 "_law_same" (sp_same K 5)) (cn_none_of : ClNX P w K mg base 12 "none_of" 5 ["most_nodes"] (fun us ws => us ++ ws) (sp_none C C2 K)) : CallerOk P w K mg base f fd "script" (sp_law K) := by
  refine okG_of (k := 20) F sc_law ⟨rfl, by decide, by decide⟩ (fun cdv s H v Q hr h => ?_)
  obtain ⟨a, ns, hv, hS, _, q⟩ := h
  cases hv
  refine ⟨_, (pss_cons (ps_set (i := 1) sc_law.nd rfl (.inr rfl) (pe_u c__law_draw hr (by first | decide | omega) (by rfl) (pa_cons (pv 0) pa_nil)))
      (pss_cons (ps_set (i := 2) sc_law.nd rfl (.inl rfl) (pe_u c__law_entries hr (by first | decide | omega) (by rfl) (pa_cons (pv 1) (pa_cons pe_int pa_nil))))
      (pss_cons (ps_set (i := 3) sc_law.nd rfl (.inr rfl) (pe_mk0 c_Diagrams___init__ hr (by first | decide | omega) (by rfl)))
      (pss_cons (ps_set (i := 4) sc_law.nd rfl (.inl rfl) (pe_u c__law_candidates hr (by first | decide | omega) (by rfl) (pa_cons (pv 1) (pa_cons (pv 3) (pa_cons (pv 2) pa_nil)))))
      (pss_cons (ps_setLc (i := 5) (own := [("entry", 19)]) (g := gName 19) rfl sc_law.nd rfl rfl (sw_true rfl rfl rfl (by decide +kernel)) (pi_list (pv 2)) (blkOk_by (N := N_law) (sc := defScope s_law) (by decide +kernel)) (fun _ _ _ _ _ => (pg_name (i := 19) sc_law.nd rfl (.inl rfl))) (fun _ _ _ _ _ => (pts_one (pt_truthK K (pe_u c__law_next hr (by first | decide | omega) (by rfl) (pa_cons (pv 1) (pa_cons pe_int pa_nil))) (by intro _; rfl)))) (fun _ _ _ _ _ => (pv 19)))
      (pss_cons (ps_set (i := 6) sc_law.nd rfl (.inl rfl) (pe_u c__law_costs hr (by first | decide | omega) (by rfl) (pa_cons (pv 1) (pa_cons (pv 2) pa_nil))))
      (pss_cons (ps_set (i := 7) sc_law.nd rfl (.inr rfl) (pe_slice (sl_tupK K) (pe_tup (pa_cons (pe_u c__law_next hr (by first | decide | omega) (by rfl) (pa_cons (pv 1) (pa_cons pe_int pa_nil))) (pa_cons (pe_u c__law_next hr (by first | decide | omega) (by rfl) (pa_cons (pv 1) (pa_cons pe_int pa_nil))) pa_nil))) po_none (po_some (pe_u c__law_next hr (by first | decide | omega) (by rfl) (pa_cons (pv 1) (pa_cons pe_int pa_nil))))))
      (pss_cons (ps_setLc (i := 8) (own := [("row", 20), ("tree", 21)]) (g := gTup K 2 (gCons (gName 20) (gCons (gName 21) (gNil)))) rfl sc_law.nd rfl rfl (sw_true rfl rfl rfl (by decide +kernel)) (pi_list (pv 4)) (blkOk_by (N := N_law) (sc := defScope s_law) (by decide +kernel)) (fun _ _ _ _ _ => (pg_tup (by rfl) (pgs_cons (pg_name (i := 20) sc_law.nd rfl (.inl rfl)) (pgs_cons (pg_name (i := 21) sc_law.nd rfl (.inl rfl)) pgs_nil)))) (fun _ _ _ _ _ => (pts_one (pt_cmpR (eqDK K hr.units) (pe_slice (sl_tupK K) (pv 20) po_none (po_some (pe_callB (len_seqK K) (by rfl) M.len PySem.boot_len (pa_cons (pv 7) pa_nil)))) (pv 7) (nomark _)))) (fun _ _ _ _ _ => (pv 21)))
      (pss_cons (ps_set (i := 9) sc_law.nd rfl (.inr rfl) (pe_callTy (tupleK K) (by rfl) M.tuple (by decide +kernel) (pa_cons (pe_lc (own := [("part", 22)]) (g := gName 22) (tt := tYes) rfl sc_law.nd (pi_list (pe_u c__law_subsets hr (by first | decide | omega) (by rfl) (pa_cons (pv 2) pa_nil))) (blkOk_by (N := N_law) (sc := defScope s_law) (by decide +kernel)) (fun _ _ _ _ _ => (pg_name (i := 22) sc_law.nd rfl (.inl rfl))) (fun _ _ _ _ _ => pts_nil) (fun _ _ _ _ _ => pe_bl)) pa_nil)))
      (pss_cons (ps_set (i := 10) sc_law.nd rfl (.inl rfl) (pe_lst (pa_cons pe_int pa_nil)))
      (pss_cons (ps_for PassesOwn.never rfl (pi_range1 (by rfl) M.range (pa_cons (pe_callB (len_seqK K) (by rfl) M.len PySem.boot_len (pa_cons (pv 8) pa_nil)) pa_nil)) (pg_name (i := 11) sc_law.nd rfl (.inl rfl)) (pss_cons (ps_set (i := 12) sc_law.nd rfl (.inr rfl) (pe_u c__law_truth hr (by first | decide | omega) (by rfl) (pa_cons (pe_ix (ix_listK K) (pv 8) (pe_op op_sub (pe_op op_sub (pe_callB (len_seqK K) (by rfl) M.len PySem.boot_len (pa_cons (pv 8) pa_nil)) pe_int) (pv 11)) (fun _ _ => rfl)) (pa_cons (pv 2) pa_nil))))
      (pss_cons (ps_set (i := 9) sc_law.nd rfl (.inr rfl) (pe_callTy (tupleK K) (by rfl) M.tuple (by decide +kernel) (pa_cons (pe_lc (own := [("j", 24)]) (g := gName 24) (tt := tYes) rfl sc_law.nd (pi_range1 (by rfl) M.range (pa_cons (pe_callB (len_seqK K) (by rfl) M.len PySem.boot_len (pa_cons (pv 9) pa_nil)) pa_nil)) (blkOk_by (N := N_law) (sc := defScope s_law) (by decide +kernel)) (fun _ _ _ _ _ => (pg_name (i := 24) sc_law.nd rfl (.inl rfl))) (fun _ _ _ _ _ => pts_nil) (fun _ _ _ _ _ => (pe_or (pe_ix (ix_tupK K) (pv 9) (pv 24) (fun _ _ => rfl)) (pe_one (pe_ix (ix_tupK K) (pv 12) (pv 24) (fun _ _ => rfl)))))) pa_nil)))
      (pss_one (ps_expr (pe_bmK K PySem.F.plainAttrs_list PySem.F.slot_list_append PySem.F.type_list_append mt_append (pv 10) (pa_cons (pe_callB (len_seqK K) (by rfl) M.len PySem.boot_len (pa_cons (pe_u c__law_diagrams hr (by first | decide | omega) (by rfl) (pa_cons (pe_lst (pa_cons (pv 9) pa_nil)) (pa_cons (pe_callB (len_seqK K) (by rfl) M.len PySem.boot_len (pa_cons (pv 2) pa_nil)) pa_nil))) pa_nil)) pa_nil)))))))
      (pss_cons (ps_set (i := 13) sc_law.nd rfl (.inl rfl) (pe_u c__law_best hr (by first | decide | omega) (by rfl) (pa_cons (pe_lc (own := [("one", 23)]) (g := gName 23) (tt := tYes) rfl sc_law.nd (pi_tup (pv 9)) (blkOk_by (N := N_law) (sc := defScope s_law) (by decide +kernel)) (fun _ _ _ _ _ => (pg_name (i := 23) sc_law.nd rfl (.inl rfl))) (fun _ _ _ _ _ => pts_nil) (fun _ _ _ _ _ => (pe_not (pv 23)))) (pa_cons (pv 2) (pa_cons (pv 5) (pa_cons (pv 6) pa_nil))))))
      (pss_cons (ps_setLc (i := 14) (own := [("row", 20), ("tree", 21)]) (g := gTup K 2 (gCons (gName 20) (gCons (gName 21) (gNil)))) (tt := tYes) rfl sc_law.nd rfl rfl (sw_true rfl rfl rfl (by decide +kernel)) (pi_list (pv 4)) (blkOk_by (N := N_law) (sc := defScope s_law) (by decide +kernel)) (fun _ _ _ _ _ => (pg_tup (by rfl) (pgs_cons (pg_name (i := 20) sc_law.nd rfl (.inl rfl)) (pgs_cons (pg_name (i := 21) sc_law.nd rfl (.inl rfl)) pgs_nil)))) (fun _ _ _ _ _ => pts_nil) (fun _ _ _ _ _ => (pe_tup (pa_cons (pv 20) (pa_cons (pe_u c__law_build hr (by first | decide | omega) (by rfl) (pa_cons (pv 3) (pa_cons (pv 21) pa_nil))) pa_nil)))))
      (pss_cons (ps_for PassesOwn.never rfl (pi_tup (pe_tup (pa_cons pe_int (pa_cons (pe_u c__law_next hr (by first | decide | omega) (by rfl) (pa_cons (pv 1) (pa_cons pe_int pa_nil))) pa_nil)))) (pg_name (i := 15) sc_law.nd rfl (.inl rfl)) (pss_cons (ps_set (i := 16) sc_law.nd rfl (.inl rfl) (pe_callB (reprDK K rfl hr.units) (by rfl) M.repr (by decide +kernel) (pa_cons (pe_lst (pa_cons (pv 14) (pa_cons (pv 7) (pa_cons (pv 5) (pa_cons (pv 6) pa_nil))))) pa_nil)))
      (pss_cons (L2N.ps_try_as (i := 18) (Wout := fun _ _ _ _ => False) (c := .ref _) rfl rfl sc_law.nd rfl rfl ⟨rfl, by decide, Or.inl hm_LineError⟩ takes0N
      (fun W pn xe tk _ => (pss_cons (ps_set (i := 17) sc_law.nd rfl (.inl rfl) (pe_knS cn_none_of hr (by first | decide | omega) (E := WE W) (fun σ => L2N.passAt tk σ) (by rfl) (pa_cons (pv 3) (pa_cons (pv 14) (pa_cons (pv 7) (pa_cons (pv 5) (pa_cons (pv 6) pa_nil))))) (pk_cons (pv 15) pk_nil)))
      (pss_one (ps_if (PW.pt (pw_or (pt_cmpR op_gt (pe_callB (cr_maxKK K rfl) (by rfl) M.max (by decide +kernel) (pa_cons (pv 10) pa_nil)) (pv 15) (nomark _)) (pw_or1 (pt_not (pt_val (pe_u c__law_same hr (by first | decide | omega) (by rfl) (pa_cons (pv 17) (pa_cons (pv 13) pa_nil)))))))) (pss_one (ps_ret pe_bl)) pss_nil))))
      (fun a oe cls d pn hz hf => (pss_one (ps_if (PW.pt (pw_or (pt_cmpR op_le (pe_callB (cr_maxH K (hot_suite hz hf)) (by rfl) M.max (by decide +kernel) (pa_cons (pv 10) pa_nil)) (pv 15) (nomark _)) (pw_or (pt_not (pt_val (pe_callB (call_isX hz.zc hf) (by rfl) M.isinstance (by decide +kernel) (pa_cons (pv 18) (pa_cons (C8.pe_gc (v := .ref _) (by rfl) ⟨_, hm_TooManyQuestions, rfl⟩) pa_nil))))) (pw_or1 (pt_val (pe_callB (call_isX hz.zc hf) (by rfl) M.isinstance (by decide +kernel) (pa_cons (pv 18) (pa_cons (C8.pe_gc (v := .ref _) (by rfl) ⟨_, hm_SourceError, rfl⟩) pa_nil)))))))) (pss_one (ps_ret pe_bl)) pss_nil))))
      (pss_one (ps_if (pt_cmpR op_ne (pe_callB (reprDK K rfl hr.units) (by rfl) M.repr (by decide +kernel) (pa_cons (pe_lst (pa_cons (pv 14) (pa_cons (pv 7) (pa_cons (pv 5) (pa_cons (pv 6) pa_nil))))) pa_nil)) (pv 16) (nomark _)) (pss_one (ps_ret pe_bl)) pss_nil)))))
      (pss_one (ps_ret pe_bl)))))))))))))))), ?_⟩
  refine ⟨_, rfl, a, ns, rfl, hS, fun H1 d c s1 nd dr => ?_⟩
  refine ⟨_, rfl, d, c, rfl, by decide, by decide, dr, fun H2 ea es f2 dr2 na en => ?_⟩
  have hl4 : es.length ≤ 4 := en.2.2.2.2.2.1
  have hsrt : es.Pairwise (· < ·) := en.2.2.2.1
  have ee2 := en.2.2.1
  have lns : ∀ x ∈ es, _ := en.2.2.2.2.2.2
  refine fun x dx nx ndx nex => ⟨x, dx, rfl, upd_same, fun H3 sa hsp f3 hk hu hm stm => ⟨rfl, ?_⟩⟩
  subst hsp
  have s3 := made_same nx ndx f3
  have hk := made_free hk
  have hu := made_free hu
  have hm := made_free hm
  have st3 := stm es hsrt
  have ek : ea ≠ sa.k ∧ ea ≠ sa.u ∧ ea ≠ sa.m := ⟨ne_of_none ee2 hk, ne_of_none ee2 hu, ne_of_none ee2 hm⟩
  have dk : d ≠ sa.k ∧ d ≠ sa.u ∧ d ≠ sa.m := by
    obtain ⟨zs, hz⟩ := dr2.lst
    exact ⟨ne_of_none hz hk, ne_of_none hz hu, ne_of_none hz hm⟩
  have ck : c ≠ sa.k ∧ c ≠ sa.u ∧ c ≠ sa.m := by
    obtain ⟨_, _, _, _, _, _, g2, _⟩ := dr2
    exact ⟨ne_of_none g2 hk, ne_of_none g2 hu, ne_of_none g2 hm⟩
  have sl : (500000 : Nat) < sizeLine := by decide
  have dr3 := dr2.ext s3
  have en3 : EnA H3 ea d c es 4 := ⟨en.1, en.2.1, s3 _ _ ee2, en.2.2.2⟩
  refine ⟨_, rfl, _, rfl, _, rfl, d, c, ea, es, 4, sa, [], 0, rfl, dr3, en3, by decide, st3, dk, ck, ek, by rw [List.length_nil]; omega, by omega, fun H4 tl us4 cs N L f4 dr4 st4 lN lL ntl etl dcs lcs hcs => ?_⟩
  rw [List.nil_append] at st4
  have ee4 := f4 _ _ en.1 ek.1 ek.2.1 ek.2.2 (s3 _ _ ee2)
  -- who is there
  refine ⟨_, rfl, ea, rfl, ⟨_, .of ee4⟩, fun pa nP => ?_⟩
  have nPd := dr4.nd nP
  have nPc := dr4.nc nP
  refine lc_list (K := K) (a := ea) (xs := es.map V.int) (tt := fun σ H Q => tCall sp_next [] E0 (tCons (tVar 1) (tCons (tC (V.int 2)) tNil)) σ H fun x H' => ∃ k, TruV K x H' k ∧ Q k H') (fun j Hj => Dr Hj d c ∧ (∀ b u, b ≠ d → H4 b = some u → Hj b = some u) ∧ ∃ ps : List Int, Hj pa = some (.lst (ps.map V.int)) ∧ ps.Sublist (es.take j)) ⟨dr4.upd nPd nPc, fun b u n e => by rw [upd_ne (ne_of_none e nP)]; exact e, [], upd_same, List.nil_sublist _⟩ (fun j Hj _ hp => .of (hp.2.1 _ _ en.1 ee4)) (fun j y Hj hy hp => ?_) (fun H5 hp => ?_)
  · obtain ⟨drj, fj, ps, ePj, hps⟩ := hp
    rw [List.getElem?_map] at hy
    obtain ⟨x, hx, rfl⟩ := Option.map_eq_some_iff.mp hy
    have hj := (List.getElem?_eq_some_iff.mp hx).1
    have etk : es.take (j + 1) = es.take j ++ [x] := by rw [List.take_add_one, hx]; rfl
    have lps := hps.length_le
    rw [List.length_take] at lps
    refine ⟨rfl, _, rfl, d, c, 2, rfl, drj, by decide, by decide, fun H' r f' _ dr' r0 r1 => ⟨_, rfl, ?_⟩⟩
    refine ite2 (fun g => ?_) (fun g => ?_)
    · refine ⟨_, rfl, _, f' _ _ nPd ePj, ?_, dr'.upd nPd nPc, fun b u n e => ?_, ps ++ [x], ?_, ?_⟩
      · rw [List.length_map]
        exact Nat.lt_of_le_of_lt (m := 5) (by omega) (by decide)
      · rw [upd_ne (ne_of_none e nP)]
        exact f' _ _ n (fj _ _ n e)
      · rw [upd_same, List.map_append]
        rfl
      · rw [etk]
        exact List.Sublist.append hps (List.Sublist.refl _)
    · exact ⟨dr', fun b u n e => f' _ _ n (fj _ _ n e), ps, f' _ _ nPd ePj, by rw [etk]; exact hps.trans (List.sublist_append_left _ _)⟩
  obtain ⟨dr5, f45, ps, eP5, hps⟩ := hp
  rw [List.length_map, List.take_of_length_le (Nat.le_refl _)] at hps
  have ee5 := f45 _ _ en.1 ee4
  have hnd : es.Nodup := hsrt.imp fun h => by omega
  have lps := hps.length_le
  have tld := dr3.nd ntl
  have tlk := st3.nk ntl
  have npk := st4.nk nP
  refine ⟨_, rfl, _, rfl, d, c, ea, es, 4, rfl, dr5, ⟨en.1, en.2.1, ee5, en.2.2.2⟩, by decide, fun H6 cd cst f56 dr6 ncd ecd hcb => ?_⟩
  have ncdd := dr5.nd ncd
  have ncdk := (st4.fd dr4.lst dk.1 f45).nk ncd
  refine ⟨_, rfl, d, c, 2, rfl, dr6, by decide, by decide, fun H7 p0 f67 _ dr7 p00 p01 => ⟨_, rfl, d, c, 3, rfl, dr7, by decide, by decide, fun H8 p1 f78 _ dr8 p10 p11 => ⟨by show 2 ≤ sizeLine; decide, fun pt npt => ?_⟩⟩⟩
  have sPt := same_upd npt (o := .tup [.int p0, .int p1])
  have ePt : (upd H8 pt (.tup [.int p0, .int p1])) pt = some (.tup [.int p0, .int p1]) := upd_same
  have npd := dr8.nd npt
  have dr9 := dr8.ext sPt
  generalize upd H8 pt (.tup [.int p0, .int p1]) = H9 at sPt ePt dr9 ⊢
  refine ⟨_, rfl, d, c, 3, rfl, dr9, by decide, by decide, fun HA n fA _ drA n0 n1 => ?_⟩
  obtain ⟨n, rfl⟩ := Int.eq_ofNat_of_zero_le n0
  refine ⟨_, rfl, slA_cut (a := pt) (xs := [.int p0, .int p1]) (.of (fA _ _ npd ePt)) fun pf HB sB hpf => ?_⟩
  obtain ⟨px, hpx, hpxb, hpxl⟩ : ∃ px : List Int, SqT K HB pf (px.map V.int) ∧ (∀ x ∈ px, 0 ≤ x ∧ x < 10) ∧ px.length ≤ 2 := by
    refine ⟨([p0, p1] : List Int).take n, by rw [List.map_take]; exact hpf, fun x hx => ?_, ?_⟩
    · have := List.mem_of_mem_take hx
      simp only [List.mem_cons, List.not_mem_nil, or_false] at this
      rcases this with rfl | rfl <;> omega
    · rw [List.length_take]
      exact Nat.min_le_right _ _
  have f6B : ∀ b o, b ≠ d → H6 b = some o → HB b = some o := fun b o nb h => sB _ _ (fA _ _ nb (sPt _ _ (f78 _ _ nb (f67 _ _ nb h))))
  have f4B : ∀ b o, b ≠ d → H4 b = some o → HB b = some o := fun b o nb h => f6B _ _ nb (f56 _ _ nb (f45 _ _ nb h))
  have eeB := f4B _ _ en.1 ee4
  have etB := f4B _ _ tld etl
  have ePB := f6B _ _ nPd (f56 _ _ nPd eP5)
  have eCB := f6B _ _ ncdd ecd
  have stB : Sto C K HB sa N es L := st4.fd dr4.lst dk.1 f4B
  have dcB : DpAll K HB us4 (cs.map ctD) := DpAll.tsn (FdX.tup dr4 st4 (FdX.fd f4B)) _ _ (ctD_only _) dcs
  have lus4 : us4.length = cs.length := by rw [DpAll.len dcs, List.length_map]
  have lsub : (subs es).length ≤ 16 := by
    have hpow : 2 ^ es.length ≤ 2 ^ 4 := Nat.pow_le_pow_right (by decide) hl4
    rw [subs_len]
    omega
  -- the conditions of the rows
  refine ⟨_, rfl, tl, rfl, ⟨_, .of etB⟩, fun D nD => ?_⟩
  refine lc_list (K := K) (a := tl) (xs := us4) (fun j Hj => Same HB Hj ∧ ∃ zs, Hj D = some (.lst zs) ∧ zs.length ≤ j ∧ DpAll K Hj zs (((cs.take j).filter fun x => bgn px x.1).map fun x => x.2.d)) ⟨same_upd nD, [], upd_same, Nat.le_refl _, .nil⟩ (fun j Hj _ hp => .of (hp.1 _ _ etB)) (fun j y Hj hy hp => ?_) (fun HC hp => ?_)
  · obtain ⟨sj, zs, eD, lz, dz⟩ := hp
    have hj : j < cs.length := by rw [← lus4]; exact (List.getElem?_eq_some_iff.mp hy).1
    obtain ⟨y', hy', dy⟩ := DpAll.get dcB (show (cs.map ctD)[j]? = some (ctD cs[j]) by rw [List.getElem?_map, List.getElem?_eq_getElem hj]; rfl)
    obtain rfl : y = y' := Option.some.inj (hy.symm.trans hy')
    have hx := List.getElem?_eq_getElem hj
    generalize cs[j] = x at dy hx
    have etk : (cs.take (j + 1)).filter (fun x => bgn px x.1) = (cs.take j).filter (fun x => bgn px x.1) ++ if bgn px x.1 = true then [x] else [] := by
      rw [List.take_add_one, hx, List.filter_append]
      show _ ++ List.filter _ [x] = _
      rw [List.filter_cons, List.filter_nil]
    obtain ⟨t, rt, tv, rfl, ht, hrt, htv⟩ := ct_get dy
    refine ⟨t, _, rfl, SqT.ext sj ht, rfl, _, _, rfl, _, _, rfl, rfl, rfl, ?_⟩
    refine ⟨_, rfl, _, rfl, pf, _, rfl, .inr (SqT.ext sj hpx), _, rfl, slA_cut (SqT.ext sj hrt) fun p H2 s2 hp => ?_⟩
    have hp : SqT K H2 p ((([x.1.1, x.1.2] : List Int).take px.length).map V.int) := by
      rw [List.map_take]
      rw [List.length_map] at hp
      exact hp
    have s02 := sj.trans s2
    refine ⟨_, rfl, _, _, dp_tints hp, dp_tints (SqT.ext s02 hpx), tints_shaped _, tints_shaped _, _, rfl, ?_⟩
    rw [tints_eqv]
    refine ite2 (fun hc => ?_) (fun hc => ?_)
    · have eD3 := s2 _ _ eD
      refine ⟨_, rfl, _, eD3, Nat.lt_of_le_of_lt (m := 10) (by omega) (by decide), fun z o hz => ?_, zs ++ [tv], upd_same, ?_, ?_⟩
      · rw [upd_ne (ne_of_none hz nD)]
        exact s02 _ _ hz
      · rw [List.length_append]
        exact Nat.succ_le_succ lz
      · rw [etk, if_pos (show bgn px x.1 = true from hc), List.map_append]
        have to : tupOnlys (((cs.take j).filter fun x => bgn px x.1).map fun x => x.2.d) = true := by
          have := trs_only (((cs.take j).filter fun x => bgn px x.1).map (·.2))
          rw [List.map_map] at this
          exact this
        exact DpAll.snoc (DpAll.away eD3 _ _ to (DpAll.ext s2 _ _ dz)) (Dp.away eD3 _ _ (tr_only _) (Dp.ext s02 _ _ htv))
    · refine ⟨s02, zs, s2 _ _ eD, by omega, ?_⟩
      rw [etk, if_neg (show ¬ bgn px x.1 = true from hc), List.append_nil]
      exact DpAll.ext s2 _ _ dz
  obtain ⟨sC, zc, eDC, lzc, dzc⟩ := hp
  rw [lus4] at lzc
  rw [lus4, List.take_of_length_le (Nat.le_refl _)] at dzc
  obtain ⟨ch, hch⟩ : ∃ ch, ch = (cs.filter fun x => bgn px x.1).map (·.2) := ⟨_, rfl⟩
  have dzc : DpAll K HC zc (ch.map Tr.d) := by
    rw [hch, List.map_map]
    exact dzc
  have okc : ∀ t ∈ ch, t.ok es ∧ t.ht ≤ 3 := fun t ht => by
    rw [hch] at ht
    obtain ⟨x, hx, rfl⟩ := List.mem_map.mp ht
    have := hcs x (List.mem_filter.mp hx).1
    exact ⟨this.1, this.2.1⟩
  have lch : zc.length = ch.length := by rw [DpAll.len dzc, List.length_map]
  -- the joined condition, at first never
  have eeC := sC _ _ eeB
  refine ⟨_, rfl, ea, es, rfl, eeC, by omega, fun HD sp0 sD nsp ll => ?_⟩
  obtain ⟨as0, eS0, las0, g0⟩ := ll
  have sBD := sC.trans sD
  refine ⟨sp0, rfl, ⟨_, .of eS0⟩, fun D2 nD2 => ?_⟩
  refine lc_list (K := K) (a := sp0) (xs := as0.map V.ref) (fun j Hj => Same HD Hj ∧ Hj D2 = some (.lst (((subs es).take j).map fun _ => V.bl false))) ⟨same_upd nD2, upd_same⟩ (fun j Hj _ hp => .of (hp.1 _ _ eS0)) (fun j y Hj hy hp => ?_) (fun HE hp => ?_)
  · obtain ⟨sj, eD⟩ := hp
    rw [List.getElem?_map] at hy
    obtain ⟨b, hb0, rfl⟩ := Option.map_eq_some_iff.mp hy
    have hj : j < (subs es).length := by rw [← las0]; exact (List.getElem?_eq_some_iff.mp hb0).1
    refine ⟨rfl, _, eD, ?_, fun z o hz => ?_, ?_⟩
    · rw [List.length_map, List.length_take]
      exact Nat.lt_of_le_of_lt (m := 32) (by omega) (by decide)
    · rw [upd_ne (ne_of_none hz nD2)]
      exact sj _ _ hz
    · rw [upd_same, List.take_add_one, List.getElem?_eq_getElem hj, List.map_append]
      rfl
  obtain ⟨sE, eD2⟩ := hp
  rw [List.length_map, las0, List.take_of_length_le (Nat.le_refl _)] at eD2
  refine ⟨D2, _, rfl, .inl ⟨.of eD2, fun T0 nT0 => ?_⟩⟩
  have sT0 := same_upd nT0 (o := .tup ((subs es).map fun _ => V.bl false))
  have eT0 : (upd HE T0 (.tup ((subs es).map fun _ => V.bl false))) T0 = some (.tup ((tt es (.lf false)).map V.bl)) := by
    rw [upd_same]
    unfold tt
    rw [List.map_map]
    rfl
  generalize upd HE T0 (.tup ((subs es).map fun _ => V.bl false)) = HF at sT0 eT0 ⊢
  refine ⟨by show 1 ≤ sizeLine; decide, fun sz nsz => ?_⟩
  have ssz := same_upd nsz (o := .lst [.int 0])
  have esz : (upd HF sz (.lst [.int 0])) sz = some (.lst (natsV [0])) := upd_same
  have sBF := (sBD.trans sE).trans sT0
  generalize upd HF sz (.lst [.int 0]) = HG at ssz esz ⊢
  have sBG := sBF.trans ssz
  have nsB := sBF.free nsz
  have eDG := (((sD.trans sE).trans sT0).trans ssz) _ _ eDC
  have eTG := ssz _ _ eT0
  have eeG := sBG _ _ eeB
  have dzG := DpAll.ext (((sD.trans sE).trans sT0).trans ssz) _ _ dzc
  have dsz : D ≠ sz := ne_of_none ((((sD.trans sE).trans sT0)) _ _ eDC) nsz
  have esn : ea ≠ sz := ne_of_none eeB nsB
  obtain ⟨gs, hgs⟩ : ∃ gs, gs = ch.map Tr.ev := ⟨_, rfl⟩
  obtain ⟨n0', hn0⟩ : ∃ n, n = ch.length := ⟨_, rfl⟩
  have lgs : gs.length = n0' := by rw [hgs, List.length_map, hn0]
  have ln5 : n0' ≤ 5 := by
    rw [hn0, ← lch]
    omega
  refine ⟨_, rfl, D, zc, rfl, .inl (.of eDG), ?_⟩
  rw [lch, ← hn0]
  refine ⟨_, rfl, by omega, by omega, ?_⟩
  refine for_range (lo := 0) (n := ((n0' : Nat) : Int).toNat) (fun i σ Hi => (∀ b u, b ≠ sz → HG b = some u → Hi b = some u) ∧ ∃ T tp zs z11 z12, σ = [some (.ref a), some (.ref d), some (.ref ea), some (.ref sa.p), some (.ref tl), some (.ref pa), some (.ref cd), some (.ref pf), some (.ref D), some (.ref tp), some (.ref sz), z11, z12, none, none, none, none, none, none, none, none, none, none, none, none] ∧ Hi tp = some (.tup ((tt es T).map V.bl)) ∧ JT es (gs.drop (n0' - i)) T ∧ Hi sz = some (.lst (natsV zs)) ∧ zs.length = i + 1 ∧ (∀ m ∈ zs, m = 0 ∨ ∃ k U, n0' - i ≤ k ∧ k < n0' ∧ JT es (gs.drop k) U ∧ m = szN U) ∧ ∀ k, n0' - i ≤ k → k < n0' → ∀ U, JT es (gs.drop k) U → szN U ∈ zs) ⟨fun _ _ _ h => h, .lf false, T0, [0], none, none, rfl, eTG, ⟨.lf, fun ρ => by rw [List.drop_of_length_le (by omega)]; rfl⟩, esz, rfl, fun m hm => .inl (List.mem_singleton.mp hm), fun k h1 h2 => by omega⟩ (fun i σ Hi hi hp => ?_) (fun σ Hn hp => ?_)
  · obtain ⟨fi, T, tp, zs, z11, z12, rfl, etp, jT, esi, lzs, hz1, hz2⟩ := hp
    rw [Int.zero_add]
    have hi : i < n0' := by omega
    have hj : n0' - 1 - i < ch.length := by omega
    have dzi : DpAll K Hi zc (ch.map Tr.d) := DpAll.fd ⟨_, esz⟩ fi _ _ (trs_only ch) dzG
    have eDi := fi _ _ dsz eDG
    have eei := fi _ _ esn eeG
    obtain ⟨tv, htv, dtv⟩ := DpAll.get dzi (show (ch.map Tr.d)[n0' - 1 - i]? = some (ch[n0' - 1 - i]).d by rw [List.getElem?_map, List.getElem?_eq_getElem hj]; rfl)
    obtain ⟨okt, htt⟩ := okc _ (List.getElem_mem hj)
    have hgj : gs[n0' - 1 - i]? = some (ch[n0' - 1 - i]).ev := by rw [hgs, List.getElem?_map, List.getElem?_eq_getElem hj]; rfl
    generalize ch[n0' - 1 - i] = t at dtv okt htt hgj
    refine ⟨_, rfl, _, rfl, D, zc, rfl, .inl (.of eDi), _, _, rfl, rfl, _, rfl, _, _, rfl, rfl, D, zc, _, tv, rfl, rfl, .of eDi, ?_, ?_⟩
    · rw [show ((zc.length : Nat) : Int) - 1 - (i : Int) = ((n0' - 1 - i : Nat) : Int) by omega]
      exact atI_nat htv
    refine ⟨_, rfl, tv, ea, es, t, rfl, dtv, eei, by omega, by omega, fun H1 mp s1 em => ?_⟩
    obtain ⟨U, jU⟩ := jt_drop hnd (ch := ch) (fun t ht => (okc t ht).1) (n0' - (i + 1))
    rw [← hgs] at jU
    have evU : ∀ ρ, U.ev ρ = (T.ev ρ || t.ev ρ) := fun ρ => by
      have hlt : n0' - (i + 1) < gs.length := by omega
      have hgj' : gs[n0' - (i + 1)]? = some t.ev := by
        rw [show n0' - (i + 1) = n0' - 1 - i by omega]
        exact hgj
      have e1 : gs[n0' - (i + 1)] = t.ev := Option.some.inj ((List.getElem?_eq_getElem hlt).symm.trans hgj')
      rw [jU.2, List.drop_eq_getElem_cons hlt, List.any_cons, e1, show n0' - (i + 1) + 1 = n0' - i by omega, ← jT.2, Bool.or_comm]
    have ltt : (tt es T).length = (subs es).length := List.length_map ..
    refine ⟨_, rfl, tp, _, rfl, .inr (.of (s1 _ _ etp)), ?_⟩
    rw [List.length_map, ltt]
    refine ⟨_, rfl, by omega, by omega, fun D3 nD3 => ?_⟩
    refine lc_range (lo := 0) (n := (((subs es).length : Nat) : Int).toNat) (fun j Hj => Same H1 Hj ∧ Hj D3 = some (.lst ((((subs es).take j).map fun p => U.ev fun e => decide (e ∈ p)).map V.bl))) ⟨same_upd nD3, upd_same⟩ (fun j Hj hj hp => ?_) (fun H2 hp => ?_)
    · obtain ⟨sj, eD3⟩ := hp
      have hj : j < (subs es).length := by omega
      rw [Int.zero_add]
      have hp := List.getElem?_eq_getElem hj
      generalize (subs es)[j] = p at hp
      have g1 : ((tt es T).map V.bl)[j]? = some (.bl (T.ev fun e => decide (e ∈ p))) := by
        unfold tt
        rw [List.getElem?_map, List.getElem?_map, hp]
        rfl
      have g2 : ((tru es t).map V.bl)[j]? = some (.bl (t.ev fun e => decide (e ∈ p))) := by
        unfold tru
        rw [List.getElem?_map, List.getElem?_map, hp]
        rfl
      refine ⟨rfl, ?_⟩
      have fin : ∀ x, x = (U.ev fun e => decide (e ∈ p)) → ∃ acc, Hj D3 = some (.lst acc) ∧ acc.length < sizeLine ∧ Same H1 (upd Hj D3 (.lst (acc ++ [.bl x]))) ∧ (upd Hj D3 (.lst (acc ++ [.bl x]))) D3 = some (.lst ((((subs es).take (j + 1)).map fun p => U.ev fun e => decide (e ∈ p)).map V.bl)) := fun x hx => by
        refine ⟨_, eD3, ?_, fun z o hz => ?_, ?_⟩
        · rw [List.length_map, List.length_map, List.length_take]
          exact Nat.lt_of_le_of_lt (m := 32) (by omega) (by decide)
        · rw [upd_ne (ne_of_none hz nD3)]
          exact sj _ _ hz
        · rw [upd_same, List.take_add_one, hp, List.map_append, List.map_append, hx]
          rfl
      refine ⟨_, rfl, _, rfl, tp, _, _, _, rfl, rfl, .of (sj _ _ (s1 _ _ etp)), atI_nat g1, _, rfl, ?_⟩
      cases hT : T.ev fun e => decide (e ∈ p) with
      | true => exact iteT (fin true (by rw [evU, hT]; rfl))
      | false => exact iteF ⟨_, rfl, _, rfl, mp, _, _, _, rfl, rfl, .of (sj _ _ em), atI_nat g2, fin _ (by rw [evU, hT]; rfl)⟩
    obtain ⟨s2, eD3⟩ := hp
    rw [Int.toNat_natCast, List.take_of_length_le (Nat.le_refl _)] at eD3
    refine ⟨D3, _, rfl, .inl ⟨.of eD3, fun tp2 ntp2 => ?_⟩⟩
    have s3 := same_upd ntp2 (o := .tup (((subs es).map fun p => U.ev fun e => decide (e ∈ p)).map V.bl))
    have etp2 : (upd H2 tp2 (.tup (((subs es).map fun p => U.ev fun e => decide (e ∈ p)).map V.bl))) tp2 = some (.tup ((tt es U).map V.bl)) := upd_same
    generalize upd H2 tp2 (.tup (((subs es).map fun p => U.ev fun e => decide (e ∈ p)).map V.bl)) = H3 at s3 etp2 ⊢
    have si3 := (s1.trans s2).trans s3
    have esz3 := si3 _ _ esi
    refine ⟨_, rfl, .inl ⟨rfl, _, .inl (.inl esz3)⟩, _, rfl, by show 1 ≤ sizeLine; decide, fun p1 n1 => ?_⟩
    have sp1 := same_upd n1 (o := .lst [.ref tp2])
    have ep1 : (upd H3 p1 (.lst [.ref tp2])) p1 = some (.lst [.ref tp2]) := upd_same
    generalize upd H3 p1 (.lst [.ref tp2]) = H4 at sp1 ep1 ⊢
    refine ⟨_, rfl, ea, _, rfl, .inl (.of (sp1 _ _ (si3 _ _ eei))), ?_⟩
    rw [List.length_map]
    have hszU : U.sz ≤ 1000 := by
      have := wf_sz jU.1
      have hpow : 2 ^ es.length ≤ 2 ^ 4 := Nat.pow_le_pow_right (by decide) hl4
      omega
    refine ⟨p1, es, [U], rfl, ⟨[.ref tp2], ep1, .cons (dp_tt (.of (sp1 _ _ etp2))) .nil⟩, hnd, by omega, fun x hx => by rw [List.mem_singleton.mp hx]; exact jU.1, by show 1 ≤ 100; decide, fun x hx => by rw [List.mem_singleton.mp hx]; exact hszU, fun H5 qf fs s5 tD fnd fmem => ?_⟩
    have lfs : fs.length = szN U := by
      have hp : fs.Perm (post [] U) := (List.perm_ext_iff_of_nodup fnd (post_nodup U [] List.Pairwise.nil)).mpr fun x => by
        rw [fmem, post_iff (by intro _ _ _ h; cases h)]
        exact ⟨fun ⟨b, hb, h⟩ => .inr (by rw [List.mem_singleton.mp hb] at h; exact h), fun h => h.elim (fun z => by cases z) fun z => ⟨U, List.mem_singleton.mpr rfl, z⟩⟩
      exact hp.length_eq
    obtain ⟨vs, efs, dfs⟩ := tD
    have lvs : vs.length = szN U := by rw [DpAll.len dfs, List.length_map, lfs]
    refine ⟨qf, vs, rfl, .inl (.of efs), ?_⟩
    rw [lvs]
    have si5 := (si3.trans sp1).trans s5
    refine ⟨sz, natsV zs, _, rfl, rfl, si5 _ _ esi, ?_, ?_⟩
    · unfold natsV
      rw [List.length_map]
      exact Nat.lt_of_le_of_lt (m := 100) (by omega) (by decide)
    refine ⟨fun b u n h => by rw [upd_ne n]; exact si5 _ _ (fi _ _ n h), U, tp2, zs ++ [szN U], _, _, rfl, ?_, jU, ?_, ?_, fun m hm => ?_, fun k h1 h2 V jV => ?_⟩
    · rw [upd_ne (ne_of (s5 _ _ (sp1 _ _ etp2)) (si5 _ _ esi) (fun z => nomatch z))]
      exact s5 _ _ (sp1 _ _ etp2)
    · rw [upd_same]
      unfold natsV
      rw [List.map_append]
      rfl
    · rw [List.length_append, lzs]
      rfl
    · rcases List.mem_append.mp hm with hm | hm
      · rcases hz1 m hm with h | ⟨k, V, h1, h2, h3, h4⟩
        · exact .inl h
        · exact .inr ⟨k, V, by omega, h2, h3, h4⟩
      · exact .inr ⟨n0' - (i + 1), U, Nat.le_refl _, by omega, jU, List.mem_singleton.mp hm⟩
    · by_cases hk : n0' - i ≤ k
      · exact List.mem_append_left _ (hz2 k hk h2 V jV)
      · have ek : k = n0' - (i + 1) := by omega
        subst ek
        rw [JT.uq hnd jV jU]
        exact List.mem_append_right _ (List.mem_singleton.mpr rfl)
  obtain ⟨fn, T, tp, zs, z11, z12, rfl, etp, jT, esn', lzs, hz1, hz2⟩ := hp
  rw [Int.toNat_natCast, Nat.sub_self, List.drop_zero] at jT
  rw [Int.toNat_natCast] at lzs hz1 hz2
  -- what is due
  have eeN := fn _ _ esn eeG
  have npsz : pa ≠ sz := ne_of_none ePB nsB
  have ncsz : cd ≠ sz := ne_of_none eCB nsB
  have ntsz : tl ≠ sz := ne_of_none etB nsB
  have fBN : ∀ b u, HB b = some u → Hn b = some u := fun b u h => fn _ _ (ne_of_none h nsB) (sBG _ _ h)
  have okj : (jn ch).ok es := jn_ok ch fun t ht => (okc t ht).1
  have ltt : (tt es T).length = (subs es).length := List.length_map ..
  refine ⟨_, rfl, tp, rfl, ⟨_, .of etp⟩, fun DB nDB => ?_⟩
  refine lc_tup (K := K) (a := tp) (xs := (tt es T).map V.bl) (fun j Hj => Same Hn Hj ∧ Hj DB = some (.lst ((((tt es T).take j).map not).map V.bl))) ⟨same_upd nDB, upd_same⟩ (fun j Hj _ hp => .of (hp.1 _ _ etp)) (fun j y Hj hy hp => ?_) (fun HN2 hp => ?_)
  · obtain ⟨sj, eDB⟩ := hp
    rw [List.getElem?_map] at hy
    obtain ⟨b, hb, rfl⟩ := Option.map_eq_some_iff.mp hy
    have hj : j < (tt es T).length := (List.getElem?_eq_some_iff.mp hb).1
    refine ⟨rfl, _, rfl, b, rfl, _, eDB, ?_, fun z o hz => ?_, ?_⟩
    · rw [List.length_map, List.length_map, List.length_take]
      exact Nat.lt_of_le_of_lt (m := 32) (by omega) (by decide)
    · rw [upd_ne (ne_of_none hz nDB)]
      exact sj _ _ hz
    · rw [upd_same, List.take_add_one, hb, List.map_append, List.map_append]
      rfl
  obtain ⟨sN2, eDB⟩ := hp
  rw [List.length_map, List.take_of_length_le (Nat.le_refl _)] at eDB
  have eDB : HN2 DB = some (.lst ((tru es (.nt (jn ch))).map V.bl)) := by
    have e1 : (tt es T).map not = tru es (.nt (jn ch)) := by
      unfold tt tru
      rw [List.map_map]
      refine List.map_congr_left fun p _ => ?_
      show (!(T.ev fun e => decide (e ∈ p))) = !((jn ch).ev fun e => decide (e ∈ p))
      rw [jT.2, jn_ev, hgs]
    rw [eDB, e1]
  have sBN2 : Same HB HN2 := fun b o h => sN2 _ _ (fBN _ _ h)
  refine ⟨_, rfl, _, rfl, _, rfl, DB, ea, pa, cd, es, ps, cst, .nt (jn ch), rfl, eDB, sBN2 _ _ eeB, sBN2 _ _ ePB, sBN2 _ _ eCB, hps, hsrt, by omega, okj, hcb, fun HP du o sP bst ddu => ?_⟩
  have sBP := sBN2.trans sP
  have etP := sBP _ _ etB
  have ePP := sBP _ _ ePB
  have eCP := sBP _ _ eCB
  have stP := stB.ext sBP
  have dcP := DpAll.ext sBP _ _ dcB
  have hpxP := SqT.ext sBP hpx
  have eszP := sP _ _ (sN2 _ _ esn')
  have hob : opB es ≤ 64 := by
    have hpow : 2 ^ es.length ≤ 2 ^ 5 := Nat.pow_le_pow_right (by decide) (by omega)
    unfold opB
    omega
  -- what is handed in
  refine ⟨_, rfl, tl, rfl, ⟨_, .of etP⟩, fun Dh nDh => ?_⟩
  refine lc_list (K := K) (a := tl) (xs := us4) (fun j Hj => FdS sa HP Hj ∧ ∃ M L', M.length ≤ 1024 * j ∧ L' ≤ L + 1024 * j ∧ Sto C K Hj sa (N ++ M) es L' ∧ ∃ hs cs2, Hj Dh = some (.lst hs) ∧ hs.length ≤ j ∧ DpAll K Hj hs (cs2.map cdD) ∧ CR (N ++ M) es cs2 (cs.take j)) ⟨.of (same_upd nDh), [], L, Nat.zero_le _, by omega, by rw [List.append_nil]; exact stP.ext (same_upd nDh), [], [], upd_same, Nat.le_refl _, .nil, .nil⟩ (fun j Hj _ hp => .of (hp.1 _ _ tlk.1 tlk.2.1 tlk.2.2 etP)) (fun j y Hj hy hp => ?_) (fun HR hp => ?_)
  · obtain ⟨fj, M, L', lM, lL', stj, hs, cs2, eDj, lzs, dzs, hcr⟩ := hp
    have hj : j < cs.length := by rw [← lus4]; exact (List.getElem?_eq_some_iff.mp hy).1
    obtain ⟨y', hy', dy⟩ := DpAll.get dcP (show (cs.map ctD)[j]? = some (ctD cs[j]) by rw [List.getElem?_map, List.getElem?_eq_getElem hj]; rfl)
    obtain rfl : y = y' := Option.some.inj (hy.symm.trans hy')
    have hx := List.getElem?_eq_getElem hj
    have hcx := hcs _ (List.getElem_mem hj)
    have etk : cs.take (j + 1) = cs.take j ++ [cs[j]] := by rw [List.take_add_one, hx]; rfl
    generalize cs[j] = x at dy hx hcx etk
    obtain ⟨t, rt, tv, rfl, ht, hrt, htv⟩ := ct_get (stP.dp fj (ctD_1 _) dy)
    have nkD := stP.nk nDh
    have hg : x.2.sz * opB es ≤ 1024 := by
      have h1 := tr_sz x.2
      have h2 : 2 ^ (x.2.ht + 1) ≤ 2 ^ 4 := Nat.pow_le_pow_right (by decide) (by omega)
      have h3 : x.2.sz * opB es ≤ 16 * 64 := Nat.mul_le_mul (by omega) hob
      omega
    refine ⟨t, _, rfl, ht, rfl, _, _, rfl, _, _, rfl, rfl, rfl, ?_⟩
    refine ⟨_, rfl, _, rfl, _, rfl, sa, N ++ M, es, L', tv, x.2, rfl, stj, by omega, hcx.1, by omega, htv, by rw [List.length_append]; omega, by omega, fun Hf Mf r T ff lf stf atf wf vf => ?_⟩
    refine ⟨by show 2 ≤ sizeLine; decide, fun t3 n3 => ?_⟩
    have s3 := same_upd n3 (o := .tup [.ref rt, .int ((r : Nat) : Int)])
    have kpf := stj.tup ff
    have hrtf : SqT K Hf rt [.int x.1.1, .int x.1.2] := by
      rcases hrt with (h | ⟨o, h⟩) | h
      · exact .inl (.inl (kpf _ _ (.inl ⟨_, rfl⟩) h))
      · exact .inl (.inr ⟨o, kpf _ _ (.inr ⟨_, _, rfl⟩) h⟩)
      · exact .inr h
    have d3 : Dp K (upd Hf t3 (.tup [.ref rt, .int ((r : Nat) : Int)])) (.ref t3) (cdD (x.1, r, T)) := .tup (.of upd_same) (.cons (.tup (SqT.ext s3 hrtf) (.cons (.int _) (.cons (.int _) .nil))) (.cons (.int _) .nil))
    have dzf := DpAll.ext s3 _ _ (DpAll.tsn kpf _ _ (cdD_only _) dzs)
    have eDf := s3 _ _ (ff _ _ nkD.1 nkD.2.1 nkD.2.2 eDj)
    have st3' := stf.ext s3
    generalize upd Hf t3 (.tup [.ref rt, .int ((r : Nat) : Int)]) = HG at s3 d3 dzf eDf st3' ⊢
    refine ⟨_, eDf, Nat.lt_of_le_of_lt (m := 10) (by omega) (by decide), fun b o n1 n2 n3 hb => ?_, M ++ Mf, L' + x.2.sz * opB es, by rw [List.length_append]; omega, by omega, ?_, hs ++ [.ref t3], cs2 ++ [(x.1, r, T)], upd_same, by rw [List.length_append]; exact Nat.succ_le_succ lzs, ?_, ?_⟩
    · rw [upd_ne (ne_of_none hb nDh)]
      exact s3 _ _ (ff _ _ n1 n2 n3 (fj _ _ n1 n2 n3 hb))
    · have := st3'.fd ⟨hs, eDf⟩ nkD.1 (Fd.at (d := Dh) (o := .lst (hs ++ [V.ref t3])))
      rw [← List.append_assoc]
      exact this
    · rw [List.map_append]
      exact DpAll.snoc (DpAll.away eDf _ _ (cdD_only _) dzf) (Dp.away eDf _ _ rfl d3)
    · rw [etk, ← List.append_assoc]
      exact CR.snoc atf wf (funext fun ρ => vf ρ) hcr.mono
  obtain ⟨fR, M, L', lM, lL', stR, hs, cs2, eDR, lzs, dzs, hcr⟩ := hp
  rw [lus4, List.take_of_length_le (Nat.le_refl _)] at hcr
  rw [lus4] at lM lL' lzs
  have ePR := fR _ _ npk.1 npk.2.1 npk.2.2 ePP
  have eCR := fR _ _ ncdk.1 ncdk.2.1 ncdk.2.2 eCP
  have hpxR : SqT K HR pf (px.map V.int) := by
    rcases hpxP with (h | ⟨o, h⟩) | h
    · exact .inl (.inl (stP.tup fR _ _ (.inl ⟨_, rfl⟩) h))
    · exact .inl (.inr ⟨o, stP.tup fR _ _ (.inr ⟨_, _, rfl⟩) h⟩)
    · exact .inr h
  have shp2 : SeqAt.shaped (.list (cs2.map cdD)) = true := shaped_list2 fun x hx => by
    obtain ⟨y, _, rfl⟩ := List.mem_map.mp hx
    exact cdD_lay y
  have lcs2 := hcr.len
  have nb : N.length ≤ 12000 := lN
  have big : (500000 : Nat) < 1000000000000000 := by decide
  have shw := ((ShwDA.cons ((ShwDA.all (b := 6) (k := 2) (ds := cs2.map cdD) fun d hd => by
      obtain ⟨x, hx, rfl⟩ := List.mem_map.mp hd
      obtain ⟨h1, h2, y, hy, e⟩ := hcr.at x hx
      have hb := (hcs y hy).2.2
      have hlt := h1.lt
      rw [List.length_append] at hlt
      rw [← e] at hb
      have lM2 : M.length ≤ 1024 * 5 := by omega
      exact (ShwDA.cons (ShwDA.cons (ShwD.int (k := 0) (by omega)) (ShwDA.cons (ShwD.int (by omega)) ShwDA.nil)).tup (ShwDA.cons (ShwD.int (by omega)) ShwDA.nil)).tup.le (by omega) (by omega)).lst)
      (ShwDA.cons (((ShwDA.all (b := 0) (k := 2) (ds := px.map PyData.int) fun d hd => by
      obtain ⟨x, hx, rfl⟩ := List.mem_map.mp hd
      have h1 := hpxb x hx
      exact ShwD.int (by omega)).tup)) (ShwDA.cons ((ShwDA.all (b := 0) (k := 2) (ds := ps.map PyData.int) fun d hd => by
      obtain ⟨x, hx, rfl⟩ := List.mem_map.mp hd
      have h1 := lns x (hps.subset hx)
      exact ShwD.int (by omega)).lst) (ShwDA.cons (ShwD.dct (es := coP es cst) (k := 2) fun e he => by
      unfold coP at he
      obtain ⟨x, hx, he⟩ := List.mem_filterMap.mp he
      obtain ⟨k, hk, rfl⟩ := Option.map_eq_some_iff.mp he
      have h1 := lns x hx
      have h2 := hcb x k hk
      show (_ ≤ x ∧ x ≤ _) ∧ _ ≤ ((k : Nat) : Int) ∧ ((k : Nat) : Int) ≤ _
      omega) (ShwDA.nil (k := 3)))))).lst).repr (by
        rw [List.length_map, List.length_map, List.length_map]
        have := co_len es cst
        omega) (by decide)
  have drB := drA.ext sB
  have drP := drB.ext sBP
  have drR := drP.fds dk ck fR
  have nDhd := drP.nd nDh
  have nDhk := stP.nk nDh
  have nszd := drB.nd nsB
  have nszk := stB.nk nsB
  have eszR := fR _ _ nszk.1 nszk.2.1 nszk.2.2 eszP
  obtain ⟨dP, hdP⟩ : ∃ dP, dP = PyData.list [.list (cs2.map cdD), .tuple (px.map PyData.int), .list (ps.map PyData.int), dctD (coP es cst)] := ⟨_, rfl⟩
  rw [← hdP] at shw
  -- the two limits
  refine ⟨_, rfl, d, c, 7, rfl, drR, by decide, by decide, fun HI r fI _ drI r0 r1 => ?_⟩
  obtain ⟨k9, rfl⟩ := Int.eq_ofNat_of_zero_le r0
  refine ⟨by show 2 ≤ sizeLine; decide, fun Tp nTp => ?_⟩
  have sT := same_upd nTp (o := .tup [.int 500, .int ((k9 : Nat) : Int)])
  have eT : (upd HI Tp (.tup [.int 500, .int ((k9 : Nat) : Int)])) Tp = some (.tup [.int 500, .int ((k9 : Nat) : Int)]) := upd_same
  generalize upd HI Tp (.tup [.int 500, .int ((k9 : Nat) : Int)]) = HT at sT eT ⊢
  have stT := (stR.fd drR.lst dk.1 fI).ext sT
  have fRT : FdX d sa HR HT := (FdX.fd fI).trans (FdX.of sT)
  have fPT : FdX d sa HP HT := (FdX.fds fR).trans fRT
  have keep : ∀ Hz, FdS sa HT Hz → Hz Dh = some (.lst hs) ∧ DpAll K Hz hs (cs2.map cdD) ∧ SqT K Hz pf (px.map V.int) ∧ Hz pa = some (.lst (ps.map V.int)) ∧ Hz cd = some (dctV (coP es cst)) ∧ Hz sz = some (.lst (natsV zs)) ∧ Dp K Hz du (chD o) ∧ Hz Tp = some (.tup [.int 500, .int ((k9 : Nat) : Int)]) := fun Hz f => by
    have gR : FdX d sa HR Hz := fRT.trans (FdX.fds f)
    have gP : FdX d sa HP Hz := fPT.trans (FdX.fds f)
    refine ⟨gR _ _ nDhd nDhk.1 nDhk.2.1 nDhk.2.2 eDR, DpAll.tsn (FdX.tup drR stR gR) _ _ (cdD_only _) dzs, sqt_kp2 (FdX.tup drR stR gR) hpxR, gR _ _ nPd npk.1 npk.2.1 npk.2.2 ePR, gR _ _ ncdd ncdk.1 ncdk.2.1 ncdk.2.2 eCR, gR _ _ nszd nszk.1 nszk.2.1 nszk.2.2 eszR, ch_keep ddu (FdX.tup drP stP gP) (fun q ob hq h => ?_), stT.tup f _ _ (.inl ⟨_, rfl⟩) eT⟩
    have n1 := (stB.ext sBN2).nk hq
    exact gP _ _ ((drB.ext sBN2).nd hq) n1.1 n1.2.1 n1.2.2 h
  have two : ∀ (Hz : Hp) (Lz : Addr), Hz Lz = some (.lst [.ref Dh, .ref pf, .ref pa, .ref cd]) → Hz Dh = some (.lst hs) → DpAll K Hz hs (cs2.map cdD) → SqT K Hz pf (px.map V.int) → Hz pa = some (.lst (ps.map V.int)) → Hz cd = some (dctV (coP es cst)) → ∃ x vs ds, dP = .list ds ∧ Hz Lz = some (.lst (x :: vs)) ∧ DpEs K Hz (x :: vs) ds := fun Hz Lz h1 h2 h3 h4 h5 h6 => ⟨_, _, _, hdP, h1, .cons (.inl ⟨.lst (.of h2) h3, noDict_of shp2⟩) (.cons (.inl ⟨dp_tints h4, noDict_of (tints_shaped px)⟩) (.cons (.inl ⟨dp_ints (.of h5), noDict_of (ints_shaped ps)⟩) (.cons (.inr ⟨cd, _, rfl, h6, rfl⟩) .nil)))⟩
  have egs : gs = ((cs2.filter fun x => bgn px x.1).map (·.2.2)).map Bd.ev := by rw [CR.evs hcr, hgs, hch]
  have hsm : ∀ o : Nat, (∀ m ∈ zs, m ≤ o) ↔ Small es o gs := fun o => by
    constructor
    · exact fun h k hk U jU => h _ (hz2 k (by omega) (by omega) U jU)
    · intro h m hm
      rcases hz1 m hm with rfl | ⟨k, U, _, h2, h3, rfl⟩
      · exact Nat.zero_le _
      · exact h k (by omega) U h3
  have lzs0 : 0 < (zs.map fun n => ((n : Nat) : Int)).length := by rw [List.length_map]; omega
  have shd : Sh 4 (chD o) := by
    cases o with
    | none => exact .non
    | some k =>
      obtain ⟨⟨p, hp, rfl⟩, _⟩ := bst
      have lk5 := hp.1.length_le
      refine .tup (by show 2 ≤ 100000; decide) fun d hd => ?_
      simp only [List.mem_cons, List.not_mem_nil, or_false] at hd
      rcases hd with rfl | rfl
      · exact .int _
      · refine .lst (by rw [List.length_map]; show p.length ≤ 100000; omega) fun d hd => ?_
        obtain ⟨x, _, rfl⟩ := List.mem_map.mp hd
        exact .int _
  refine ⟨Tp, rfl, ⟨_, .of eT⟩, ?_⟩
  refine for_tup (K := K) (a := Tp) (xs := [.int 500, .int ((k9 : Nat) : Int)]) (fun i σ Hi => FdS sa HT Hi ∧ (∃ M1 L1, M1.length ≤ 6000 + 900 * i ∧ L1 ≤ L' + 900 * i ∧ Sto C K Hi sa ((N ++ M) ++ M1) es L1) ∧ ∃ z15 z16 z17 z18, σ = [some (.ref a), some (.ref d), some (.ref ea), some (.ref sa.p), some (.ref tl), some (.ref pa), some (.ref cd), some (.ref pf), some (.ref D), some (.ref tp), some (.ref sz), z11, z12, some du, some (.ref Dh), z15, z16, z17, z18, none, none, none, none, none, none]) ⟨FdS.refl _ _, ⟨[], L', Nat.zero_le _, by omega, by rw [List.append_nil]; exact stT⟩, _, _, _, _, rfl⟩ (fun i σ Hi _ hp => .of (keep Hi hp.1).2.2.2.2.2.2.2) (fun i y σ Hi hy hp => ?_) (fun σ Hn hp => ?_)
  rotate_left
  · exact q Hn
  obtain ⟨fi, ⟨M1, L1, lM1, lL1, sti⟩, z15, z16, z17, z18, rfl⟩ := hp
  obtain ⟨k1, k2, k3, k4, k5, k6, k7, k8⟩ := keep Hi fi
  have i2 : i < 2 := by
    rcases Nat.lt_or_ge i 2 with h | h
    · exact h
    · rw [List.getElem?_eq_none (by show 2 ≤ i; exact h)] at hy
      cases hy
  obtain ⟨lim, rfl⟩ : ∃ lim : Nat, y = .int ((lim : Nat) : Int) := by
    match i, i2, hy with
    | 0, _, hy =>
      cases hy
      exact ⟨500, rfl⟩
    | 1, _, hy =>
      cases hy
      exact ⟨k9, rfl⟩
  refine ⟨_, rfl, _, rfl, _, rfl, _, rfl, by show 4 ≤ sizeLine; decide, fun Lp nLp => ?_⟩
  have sLp := same_upd nLp (o := .lst [.ref Dh, .ref pf, .ref pa, .ref cd])
  have eLp : (upd Hi Lp (.lst [.ref Dh, .ref pf, .ref pa, .ref cd])) Lp = some (.lst [.ref Dh, .ref pf, .ref pa, .ref cd]) := upd_same
  generalize upd Hi Lp (.lst [.ref Dh, .ref pf, .ref pa, .ref cd]) = Hj at sLp eLp ⊢
  have fj : FdS sa HT Hj := fi.trans (FdS.of sLp)
  obtain ⟨k1, k2, k3, k4, k5, k6, k7, k8⟩ := keep Hj fj
  refine ⟨Lp, dP, rfl, .inr (two _ _ eLp k1 k2 k3 k4 k5), shw.1, shw.2.1, shw.2.2, ?_⟩
  have nb2 : N.length ≤ 12000 := lN
  refine ⟨_, rfl, _, rfl, _, rfl, _, rfl, _, rfl, _, rfl, rfl, rfl, sa, (N ++ M) ++ M1, es, L1, Dh, pf, pa, cd, hs, cs2, px, ps, cst, coW es cst, lim, rfl, sti.ext sLp, fun x hx => ⟨(hcr.at x hx).1.mono, (hcr.at x hx).2.1⟩, by omega, k1, k2, k3, by omega, k4, npk.1, k5, fun x hx => by rw [co_val, if_pos hx], by rw [List.length_append, List.length_append]; omega, by omega, fun gs' hg' M2 H2 f2 l2 st2 => ?_⟩
  rw [← egs] at hg'
  obtain rfl : gs' = gs := hg'
  have hgs0 := hgs
  rw [List.append_assoc] at st2
  have f2' : FdS sa HT H2 := fj.trans f2
  obtain ⟨m1, m2, m3, m4, m5, m6, m7, m8⟩ := keep H2 f2'
  have fin : ∀ Hz, Same H2 Hz → FdS sa HT Hz ∧ ∃ M1 L1, M1.length ≤ 6000 + 900 * (i + 1) ∧ L1 ≤ L' + 900 * (i + 1) ∧ Sto C K Hz sa ((N ++ M) ++ M1) es L1 := fun Hz e => ⟨f2'.trans (FdS.of e), M1 ++ M2, L1 + 900, by rw [List.length_append]; omega, by omega, st2.ext e⟩
  have enat : ∀ Hz : Hp, Hz sz = some (.lst (natsV zs)) → Hz sz = some (.lst ((zs.map fun n => ((n : Nat) : Int)).map V.int)) := fun Hz e => by
    rw [e]
    unfold natsV
    rw [List.map_map]
    rfl
  refine ⟨fun T' u small wT' eT' dpu => ?_, fun ns => ?_⟩
  · have hbest : best ps cst T' = o := by
      have hb := best_ok (pr := ps) (cst := cst) wT' hnd
      have e : T'.ev = (Tr.nt (jn ch)).ev := funext fun ρ => by
        rw [eT']
        show _ = !((jn ch).ev ρ)
        rw [jn_ev, ← hgs0]
      rw [e] at hb
      exact Bst.uniq hb bst
    rw [hbest] at dpu
    refine ⟨_, rfl, sz, zs.map fun n => ((n : Nat) : Int), rfl, .of (enat _ m6), lzs0, fun mx hm1 hm2 => ⟨_, rfl, _, _, rfl, rfl, _, rfl, ?_⟩⟩
    obtain ⟨m, hm, rfl⟩ := List.mem_map.mp hm1
    have hle := (hsm lim).mpr small m hm
    rw [decide_eq_false (by omega)]
    refine iteF ?_
    refine ⟨_, rfl, _, rfl, u, du, chD o, 4, rfl, rfl, shd, dpu, m7, fun Hs ss => ⟨_, rfl, iteF ?_⟩⟩
    refine ⟨_, rfl, _, rfl, _, rfl, _, rfl, by show 4 ≤ sizeLine; decide, fun Lq nLq => ?_⟩
    have sLq := same_upd nLq (o := .lst [.ref Dh, .ref pf, .ref pa, .ref cd])
    have eLq : (upd Hs Lq (.lst [.ref Dh, .ref pf, .ref pa, .ref cd])) Lq = some (.lst [.ref Dh, .ref pf, .ref pa, .ref cd]) := upd_same
    obtain ⟨p1, p2, p3, p4, p5, p6, p7, p8⟩ := keep _ (fin _ (ss.trans sLq)).1
    refine ⟨Lq, dP, rfl, .inr (two _ _ eLq p1 p2 p3 p4 p5), shw.1, shw.2.1, shw.2.2, _, rfl, rfl, _, rfl, ?_⟩
    rw [show (!decide (V.str dP.shown = V.str dP.shown)) = false by rw [decide_eq_true rfl]; rfl]
    refine iteF ?_
    obtain ⟨e1, e2⟩ := fin _ (ss.trans sLq)
    exact ⟨e1, e2, _, _, _, _, rfl⟩
  · refine ⟨true, CA.ex, fun _ a0 na0 => ?_, fun q => Bool.noConfusion q⟩
    refine ⟨_, rfl, sz, zs.map fun n => ((n : Nat) : Int), rfl, .of (enat _ m6), lzs0, fun mx hm1 hm2 => ⟨_, rfl, _, _, rfl, rfl, _, rfl, ?_⟩⟩
    have hgt : ¬ mx ≤ ((lim : Nat) : Int) := fun z => ns ((hsm lim).mp fun m hm => by
      have := hm2 _ (List.mem_map.mpr ⟨m, hm, rfl⟩)
      omega)
    rw [decide_eq_false hgt]
    refine iteF ?_
    refine ⟨_, rfl, C2, V.ref C2, .ref C2, true, rfl, rfl, CA.xc, rfl, fun u h => h, CA.k1, _, rfl, iteF ?_⟩
    refine ⟨_, rfl, C2, V.ref CS, .ref CS, false, rfl, rfl, CA.xc, rfl, fun u h => h, CA.k2, _, rfl, iteF ?_⟩
    refine ⟨_, rfl, _, rfl, _, rfl, _, rfl, by show 4 ≤ sizeLine; decide, fun Lq nLq => ?_⟩
    have sLq := same_upd nLq (o := .lst [.ref Dh, .ref pf, .ref pa, .ref cd])
    have eLq : (upd H2 Lq (.lst [.ref Dh, .ref pf, .ref pa, .ref cd])) Lq = some (.lst [.ref Dh, .ref pf, .ref pa, .ref cd]) := upd_same
    obtain ⟨p1, p2, p3, p4, p5, p6, p7, p8⟩ := keep _ (fin _ sLq).1
    refine ⟨Lq, dP, rfl, .inr (two _ _ eLq p1 p2 p3 p4 p5), shw.1, shw.2.1, shw.2.2, _, rfl, rfl, _, rfl, ?_⟩
    rw [show (!decide (V.str dP.shown = V.str dP.shown)) = false by rw [decide_eq_true rfl]; rfl]
    refine iteF ?_
    obtain ⟨e1, e2⟩ := fin _ sLq
    exact ⟨e1, e2, _, _, _, _, rfl⟩
end

set_option maxHeartbeats 0 in
theorem all_mk {l : PySem.W.OpenLaw} {w : World} {K : PySem.W.Frag} {h : Heap} {mg : Str → Option Value} {fa : Addr} (X : K.In h) (G : h.Ns mainGlobals mg) (hfa : mg "law" = some (.ref fa))
    {od0 an0 : Option Addr} {sl0 : Array (Option Value)} {oc0 kV0 dc0 pm0 cd0 ct0 : Value} {f0 : Addr}
    {od1 an1 : Option Addr} {sl1 : Array (Option Value)} {oc1 kV1 dc1 pm1 cd1 ct1 : Value} {f1 : Addr}
    {od2 an2 : Option Addr} {sl2 : Array (Option Value)} {oc2 kV2 dc2 pm2 cd2 ct2 : Value} {f2 : Addr}
    {od3 an3 : Option Addr} {sl3 : Array (Option Value)} {oc3 kV3 dc3 pm3 cd3 ct3 : Value} {f3 : Addr}
    {od4 an4 : Option Addr} {sl4 : Array (Option Value)} {oc4 kV4 dc4 pm4 cd4 ct4 : Value} {f4 : Addr}
    {od5 an5 : Option Addr} {sl5 : Array (Option Value)} {oc5 kV5 dc5 pm5 cd5 ct5 : Value} {f5 : Addr}
    {od6 an6 : Option Addr} {sl6 : Array (Option Value)} {oc6 kV6 dc6 pm6 cd6 ct6 : Value} {f6 : Addr}
    {od7 an7 : Option Addr} {sl7 : Array (Option Value)} {oc7 kV7 dc7 pm7 cd7 ct7 : Value} {f7 : Addr}
    {od8 an8 : Option Addr} {sl8 : Array (Option Value)} {oc8 kV8 dc8 pm8 cd8 ct8 : Value} {f8 : Addr}
    {od9 an9 : Option Addr} {sl9 : Array (Option Value)} {oc9 kV9 dc9 pm9 cd9 ct9 : Value} {f9 : Addr}
    {od10 an10 : Option Addr} {sl10 : Array (Option Value)} {oc10 kV10 dc10 pm10 cd10 ct10 : Value} {f10 : Addr}
    {od11 an11 : Option Addr} {sl11 : Array (Option Value)} {oc11 kV11 dc11 pm11 cd11 ct11 : Value} {f11 : Addr}
    {od12 an12 : Option Addr} {sl12 : Array (Option Value)} {oc12 kV12 dc12 pm12 cd12 ct12 : Value} {f12 : Addr}
    {od13 an13 : Option Addr} {sl13 : Array (Option Value)} {oc13 kV13 dc13 pm13 cd13 ct13 : Value} {f13 : Addr}
    {od14 an14 : Option Addr} {sl14 : Array (Option Value)} {oc14 kV14 dc14 pm14 cd14 ct14 : Value} {f14 : Addr}
    {od15 an15 : Option Addr} {sl15 : Array (Option Value)} {oc15 kV15 dc15 pm15 cd15 ct15 : Value} {f15 : Addr}
    {od16 an16 : Option Addr} {sl16 : Array (Option Value)} {oc16 kV16 dc16 pm16 cd16 ct16 : Value} {f16 : Addr}
    {od17 an17 : Option Addr} {sl17 : Array (Option Value)} {oc17 kV17 dc17 pm17 cd17 ct17 : Value} {f17 : Addr}
    {od18 an18 : Option Addr} {sl18 : Array (Option Value)} {oc18 kV18 dc18 pm18 cd18 ct18 : Value} {f18 : Addr}
    {od19 an19 : Option Addr} {sl19 : Array (Option Value)} {oc19 kV19 dc19 pm19 cd19 ct19 : Value} {f19 : Addr}
    {od20 an20 : Option Addr} {sl20 : Array (Option Value)} {oc20 dc20 pm20 cd20 ct20 : Value} {f20 : Addr}
    {kD20 : Addr} {tkd20_most_nodes : Tok}
    {od21 an21 : Option Addr} {sl21 : Array (Option Value)} {oc21 kV21 dc21 pm21 cd21 ct21 : Value} {f21 : Addr}
    {od22 an22 : Option Addr} {sl22 : Array (Option Value)} {oc22 kV22 dc22 pm22 cd22 ct22 : Value} {f22 : Addr}
    {od23 an23 : Option Addr} {sl23 : Array (Option Value)} {oc23 kV23 dc23 pm23 cd23 ct23 : Value} {f23 : Addr}
    {od24 an24 : Option Addr} {sl24 : Array (Option Value)} {oc24 kV24 dc24 pm24 cd24 ct24 : Value} {f24 : Addr}
    {od25 an25 : Option Addr} {sl25 : Array (Option Value)} {oc25 kV25 dc25 pm25 cd25 ct25 : Value} {f25 : Addr}
    {od26 an26 : Option Addr} {sl26 : Array (Option Value)} {oc26 kV26 dc26 pm26 cd26 ct26 : Value} {f26 : Addr}
    {od27 an27 : Option Addr} {sl27 : Array (Option Value)} {oc27 kV27 dc27 pm27 cd27 ct27 : Value} {f27 : Addr}
    {od28 an28 : Option Addr} {sl28 : Array (Option Value)} {oc28 kV28 dc28 pm28 cd28 ct28 : Value} {f28 : Addr}
    {od29 an29 : Option Addr} {sl29 : Array (Option Value)} {oc29 kV29 dc29 pm29 cd29 ct29 : Value} {f29 : Addr}
    {od30 an30 : Option Addr} {sl30 : Array (Option Value)} {oc30 kV30 dc30 pm30 cd30 ct30 : Value} {f30 : Addr}
    {od31 an31 : Option Addr} {sl31 : Array (Option Value)} {oc31 kV31 dc31 pm31 cd31 ct31 : Value} {f31 : Addr}
    {od32 an32 : Option Addr} {sl32 : Array (Option Value)} {oc32 kV32 dc32 pm32 cd32 ct32 : Value} {f32 : Addr}
    {od33 an33 : Option Addr} {sl33 : Array (Option Value)} {oc33 kV33 dc33 pm33 cd33 ct33 : Value} {f33 : Addr}
    {od34 an34 : Option Addr} {sl34 : Array (Option Value)} {oc34 kV34 dc34 pm34 cd34 ct34 : Value} {f34 : Addr}
    {od35 an35 : Option Addr} {sl35 : Array (Option Value)} {oc35 kV35 dc35 pm35 cd35 ct35 : Value} {f35 : Addr}
    {od36 an36 : Option Addr} {sl36 : Array (Option Value)} {oc36 kV36 dc36 pm36 cd36 ct36 : Value} {f36 : Addr}
    {od37 an37 : Option Addr} {sl37 : Array (Option Value)} {oc37 kV37 dc37 pm37 cd37 ct37 : Value} {f37 : Addr}
    {od38 an38 : Option Addr} {sl38 : Array (Option Value)} {oc38 kV38 dc38 pm38 cd38 ct38 : Value} {f38 : Addr}
    {od39 an39 : Option Addr} {sl39 : Array (Option Value)} {oc39 kV39 dc39 pm39 cd39 ct39 : Value} {f39 : Addr}
    {C_Diagrams : Addr}
    {C_Way : Addr}
    {C_TooManyQuestions : Addr}
    {C_LineError : Addr}
    {C_SourceError : Addr}
    (a0 : PySem.W.nsIn K mainGlobals "cheapest" = some (some (.ref f0))) (l0 : K.lookup f0 = some ⟨oc0, od0, .func (PySem.W.fnOf "cheapest" "cheapest" (defArgs s_cheapest) (defBody s_cheapest) (defScope s_cheapest) .none kV0 dc0 pm0 an0 cd0 ct0), sl0⟩) (c0 : PySem.W.codeIn K cd0 "cheapest" = true) (k0 : PySem.W.keepIn K (.ref f0) = true)
    (a1 : PySem.W.nsIn K mainGlobals "with_turned" = some (some (.ref f1))) (l1 : K.lookup f1 = some ⟨oc1, od1, .func (PySem.W.fnOf "with_turned" "with_turned" (defArgs s_with_turned) (defBody s_with_turned) (defScope s_with_turned) .none kV1 dc1 pm1 an1 cd1 ct1), sl1⟩) (c1 : PySem.W.codeIn K cd1 "with_turned" = true) (k1 : PySem.W.keepIn K (.ref f1) = true)
    (a2 : PySem.W.findIn K (.ref C_Diagrams) "__init__" = some (some (.ref f2))) (i2 : PySem.W.isFn K (.ref f2) = true) (l2 : K.lookup f2 = some ⟨oc2, od2, .func (PySem.W.fnOf "__init__" "Diagrams.__init__" (defArgs s_Diagrams___init__) (defBody s_Diagrams___init__) (defScope s_Diagrams___init__) .none kV2 dc2 pm2 an2 cd2 ct2), sl2⟩) (c2 : PySem.W.codeIn K cd2 "Diagrams.__init__" = true) (k2 : PySem.W.keepIn K (.ref f2) = true)
    (a3 : PySem.W.findIn K (.ref C_Diagrams) "there" = some (some (.ref f3))) (i3 : PySem.W.isFn K (.ref f3) = true) (l3 : K.lookup f3 = some ⟨oc3, od3, .func (PySem.W.fnOf "there" "Diagrams.there" (defArgs s_Diagrams_there) (defBody s_Diagrams_there) (defScope s_Diagrams_there) .none kV3 dc3 pm3 an3 cd3 ct3), sl3⟩) (c3 : PySem.W.codeIn K cd3 "Diagrams.there" = true) (k3 : PySem.W.keepIn K (.ref f3) = true)
    (a4 : PySem.W.findIn K (.ref C_Diagrams) "conjunction" = some (some (.ref f4))) (i4 : PySem.W.isFn K (.ref f4) = true) (l4 : K.lookup f4 = some ⟨oc4, od4, .func (PySem.W.fnOf "conjunction" "Diagrams.conjunction" (defArgs s_Diagrams_conjunction) (defBody s_Diagrams_conjunction) (defScope s_Diagrams_conjunction) .none kV4 dc4 pm4 an4 cd4 ct4), sl4⟩) (c4 : PySem.W.codeIn K cd4 "Diagrams.conjunction" = true) (k4 : PySem.W.keepIn K (.ref f4) = true)
    (a5 : PySem.W.findIn K (.ref C_Diagrams) "disjunction" = some (some (.ref f5))) (i5 : PySem.W.isFn K (.ref f5) = true) (l5 : K.lookup f5 = some ⟨oc5, od5, .func (PySem.W.fnOf "disjunction" "Diagrams.disjunction" (defArgs s_Diagrams_disjunction) (defBody s_Diagrams_disjunction) (defScope s_Diagrams_disjunction) .none kV5 dc5 pm5 an5 cd5 ct5), sl5⟩) (c5 : PySem.W.codeIn K cd5 "Diagrams.disjunction" = true) (k5 : PySem.W.keepIn K (.ref f5) = true)
    (a6 : PySem.W.findIn K (.ref C_Diagrams) "negation" = some (some (.ref f6))) (i6 : PySem.W.isFn K (.ref f6) = true) (l6 : K.lookup f6 = some ⟨oc6, od6, .func (PySem.W.fnOf "negation" "Diagrams.negation" (defArgs s_Diagrams_negation) (defBody s_Diagrams_negation) (defScope s_Diagrams_negation) .none kV6 dc6 pm6 an6 cd6 ct6), sl6⟩) (c6 : PySem.W.codeIn K cd6 "Diagrams.negation" = true) (k6 : PySem.W.keepIn K (.ref f6) = true)
    (a7 : PySem.W.findIn K (.ref C_Diagrams) "differs" = some (some (.ref f7))) (i7 : PySem.W.isFn K (.ref f7) = true) (l7 : K.lookup f7 = some ⟨oc7, od7, .func (PySem.W.fnOf "differs" "Diagrams.differs" (defArgs s_Diagrams_differs) (defBody s_Diagrams_differs) (defScope s_Diagrams_differs) .none kV7 dc7 pm7 an7 cd7 ct7), sl7⟩) (c7 : PySem.W.codeIn K cd7 "Diagrams.differs" = true) (k7 : PySem.W.keepIn K (.ref f7) = true)
    (a8 : PySem.W.findIn K (.ref C_Diagrams) "size" = some (some (.ref f8))) (i8 : PySem.W.isFn K (.ref f8) = true) (l8 : K.lookup f8 = some ⟨oc8, od8, .func (PySem.W.fnOf "size" "Diagrams.size" (defArgs s_Diagrams_size) (defBody s_Diagrams_size) (defScope s_Diagrams_size) .none kV8 dc8 pm8 an8 cd8 ct8), sl8⟩) (c8 : PySem.W.codeIn K cd8 "Diagrams.size" = true) (k8 : PySem.W.keepIn K (.ref f8) = true)
    (a9 : PySem.W.findIn K (.ref C_Diagrams) "table" = some (some (.ref f9))) (i9 : PySem.W.isFn K (.ref f9) = true) (l9 : K.lookup f9 = some ⟨oc9, od9, .func (PySem.W.fnOf "table" "Diagrams.table" (defArgs s_Diagrams_table) (defBody s_Diagrams_table) (defScope s_Diagrams_table) .none kV9 dc9 pm9 an9 cd9 ct9), sl9⟩) (c9 : PySem.W.codeIn K cd9 "Diagrams.table" = true) (k9 : PySem.W.keepIn K (.ref f9) = true)
    (a10 : PySem.W.findIn K (.ref C_Diagrams) "listed" = some (some (.ref f10))) (i10 : PySem.W.isFn K (.ref f10) = true) (l10 : K.lookup f10 = some ⟨oc10, od10, .func (PySem.W.fnOf "listed" "Diagrams.listed" (defArgs s_Diagrams_listed) (defBody s_Diagrams_listed) (defScope s_Diagrams_listed) .none kV10 dc10 pm10 an10 cd10 ct10), sl10⟩) (c10 : PySem.W.codeIn K cd10 "Diagrams.listed" = true) (k10 : PySem.W.keepIn K (.ref f10) = true)
    (a11 : PySem.W.findIn K (.ref C_Diagrams) "top" = some (some (.ref f11))) (i11 : PySem.W.isFn K (.ref f11) = true) (l11 : K.lookup f11 = some ⟨oc11, od11, .func (PySem.W.fnOf "top" "Diagrams.top" (defArgs s_Diagrams_top) (defBody s_Diagrams_top) (defScope s_Diagrams_top) .none kV11 dc11 pm11 an11 cd11 ct11), sl11⟩) (c11 : PySem.W.codeIn K cd11 "Diagrams.top" = true) (k11 : PySem.W.keepIn K (.ref f11) = true)
    (a12 : PySem.W.findIn K (.ref C_Diagrams) "branches" = some (some (.ref f12))) (i12 : PySem.W.isFn K (.ref f12) = true) (l12 : K.lookup f12 = some ⟨oc12, od12, .func (PySem.W.fnOf "branches" "Diagrams.branches" (defArgs s_Diagrams_branches) (defBody s_Diagrams_branches) (defScope s_Diagrams_branches) .none kV12 dc12 pm12 an12 cd12 ct12), sl12⟩) (c12 : PySem.W.codeIn K cd12 "Diagrams.branches" = true) (k12 : PySem.W.keepIn K (.ref f12) = true)
    (a13 : PySem.W.findIn K (.ref C_Diagrams) "node_of" = some (some (.ref f13))) (i13 : PySem.W.isFn K (.ref f13) = true) (l13 : K.lookup f13 = some ⟨oc13, od13, .func (PySem.W.fnOf "node_of" "Diagrams.node_of" (defArgs s_Diagrams_node_of) (defBody s_Diagrams_node_of) (defScope s_Diagrams_node_of) .none kV13 dc13 pm13 an13 cd13 ct13), sl13⟩) (c13 : PySem.W.codeIn K cd13 "Diagrams.node_of" = true) (k13 : PySem.W.keepIn K (.ref f13) = true)
    (a14 : PySem.W.findIn K (.ref C_Diagrams) "node" = some (some (.ref f14))) (i14 : PySem.W.isFn K (.ref f14) = true) (l14 : K.lookup f14 = some ⟨oc14, od14, .func (PySem.W.fnOf "node" "Diagrams.node" (defArgs s_Diagrams_node) (defBody s_Diagrams_node) (defScope s_Diagrams_node) .none kV14 dc14 pm14 an14 cd14 ct14), sl14⟩) (c14 : PySem.W.codeIn K cd14 "Diagrams.node" = true) (k14 : PySem.W.keepIn K (.ref f14) = true)
    (a15 : PySem.W.findIn K (.ref C_Diagrams) "combine" = some (some (.ref f15))) (i15 : PySem.W.isFn K (.ref f15) = true) (l15 : K.lookup f15 = some ⟨oc15, od15, .func (PySem.W.fnOf "combine" "Diagrams.combine" (defArgs s_Diagrams_combine) (defBody s_Diagrams_combine) (defScope s_Diagrams_combine) .none kV15 dc15 pm15 an15 cd15 ct15), sl15⟩) (c15 : PySem.W.codeIn K cd15 "Diagrams.combine" = true) (k15 : PySem.W.keepIn K (.ref f15) = true)
    (a16 : PySem.W.findIn K (.ref C_Way) "__init__" = some (some (.ref f16))) (i16 : PySem.W.isFn K (.ref f16) = true) (l16 : K.lookup f16 = some ⟨oc16, od16, .func (PySem.W.fnOf "__init__" "Way.__init__" (defArgs s_Way___init__) (defBody s_Way___init__) (defScope s_Way___init__) .none kV16 dc16 pm16 an16 cd16 ct16), sl16⟩) (c16 : PySem.W.codeIn K cd16 "Way.__init__" = true) (k16 : PySem.W.keepIn K (.ref f16) = true)
    (a17 : PySem.W.findIn K (.ref C_Way) "meet" = some (some (.ref f17))) (i17 : PySem.W.isFn K (.ref f17) = true) (l17 : K.lookup f17 = some ⟨oc17, od17, .func (PySem.W.fnOf "meet" "Way.meet" (defArgs s_Way_meet) (defBody s_Way_meet) (defScope s_Way_meet) .none kV17 dc17 pm17 an17 cd17 ct17), sl17⟩) (c17 : PySem.W.codeIn K cd17 "Way.meet" = true) (k17 : PySem.W.keepIn K (.ref f17) = true)
    (a18 : PySem.W.findIn K (.ref C_Way) "either" = some (some (.ref f18))) (i18 : PySem.W.isFn K (.ref f18) = true) (l18 : K.lookup f18 = some ⟨oc18, od18, .func (PySem.W.fnOf "either" "Way.either" (defArgs s_Way_either) (defBody s_Way_either) (defScope s_Way_either) .none kV18 dc18 pm18 an18 cd18 ct18), sl18⟩) (c18 : PySem.W.codeIn K cd18 "Way.either" = true) (k18 : PySem.W.keepIn K (.ref f18) = true)
    (a19 : PySem.W.findIn K (.ref C_Way) "joined" = some (some (.ref f19))) (i19 : PySem.W.isFn K (.ref f19) = true) (l19 : K.lookup f19 = some ⟨oc19, od19, .func (PySem.W.fnOf "joined" "Way.joined" (defArgs s_Way_joined) (defBody s_Way_joined) (defScope s_Way_joined) .none kV19 dc19 pm19 an19 cd19 ct19), sl19⟩) (c19 : PySem.W.codeIn K cd19 "Way.joined" = true) (k19 : PySem.W.keepIn K (.ref f19) = true)
    (a20 : PySem.W.nsIn K mainGlobals "none_of" = some (some (.ref f20))) (l20 : K.lookup f20 = some ⟨oc20, od20, .func (PySem.W.fnOf "none_of" "none_of" (defArgs s_none_of) (defBody s_none_of) (defScope s_none_of) .none (.ref kD20) dc20 pm20 an20 cd20 ct20), sl20⟩) (c20 : PySem.W.codeIn K cd20 "none_of" = true) (k20 : PySem.W.keepIn K (.ref f20) = true)
    (kd20_most_nodes : PySem.W.nsIn K kD20 "most_nodes" = some (some (.int 500 tkd20_most_nodes)))
    (a21 : PySem.W.nsIn K mainGlobals "beginning" = some (some (.ref f21))) (l21 : K.lookup f21 = some ⟨oc21, od21, .func (PySem.W.fnOf "beginning" "beginning" (defArgs s_beginning) (defBody s_beginning) (defScope s_beginning) .none kV21 dc21 pm21 an21 cd21 ct21), sl21⟩) (c21 : PySem.W.codeIn K cd21 "beginning" = true) (k21 : PySem.W.keepIn K (.ref f21) = true)
    (a22 : PySem.W.nsIn K mainGlobals "_law_draw" = some (some (.ref f22))) (l22 : K.lookup f22 = some ⟨oc22, od22, .func (PySem.W.fnOf "_law_draw" "_law_draw" (defArgs s__law_draw) (defBody s__law_draw) (defScope s__law_draw) .none kV22 dc22 pm22 an22 cd22 ct22), sl22⟩) (c22 : PySem.W.codeIn K cd22 "_law_draw" = true) (k22 : PySem.W.keepIn K (.ref f22) = true)
    (a23 : PySem.W.nsIn K mainGlobals "_law_next" = some (some (.ref f23))) (l23 : K.lookup f23 = some ⟨oc23, od23, .func (PySem.W.fnOf "_law_next" "_law_next" (defArgs s__law_next) (defBody s__law_next) (defScope s__law_next) .none kV23 dc23 pm23 an23 cd23 ct23), sl23⟩) (c23 : PySem.W.codeIn K cd23 "_law_next" = true) (k23 : PySem.W.keepIn K (.ref f23) = true)
    (a24 : PySem.W.nsIn K mainGlobals "_law_same" = some (some (.ref f24))) (l24 : K.lookup f24 = some ⟨oc24, od24, .func (PySem.W.fnOf "_law_same" "_law_same" (defArgs s__law_same) (defBody s__law_same) (defScope s__law_same) .none kV24 dc24 pm24 an24 cd24 ct24), sl24⟩) (c24 : PySem.W.codeIn K cd24 "_law_same" = true) (k24 : PySem.W.keepIn K (.ref f24) = true)
    (a25 : PySem.W.nsIn K mainGlobals "_law_entries" = some (some (.ref f25))) (l25 : K.lookup f25 = some ⟨oc25, od25, .func (PySem.W.fnOf "_law_entries" "_law_entries" (defArgs s__law_entries) (defBody s__law_entries) (defScope s__law_entries) .none kV25 dc25 pm25 an25 cd25 ct25), sl25⟩) (c25 : PySem.W.codeIn K cd25 "_law_entries" = true) (k25 : PySem.W.keepIn K (.ref f25) = true)
    (a26 : PySem.W.nsIn K mainGlobals "_law_tree" = some (some (.ref f26))) (l26 : K.lookup f26 = some ⟨oc26, od26, .func (PySem.W.fnOf "_law_tree" "_law_tree" (defArgs s__law_tree) (defBody s__law_tree) (defScope s__law_tree) .none kV26 dc26 pm26 an26 cd26 ct26), sl26⟩) (c26 : PySem.W.codeIn K cd26 "_law_tree" = true) (k26 : PySem.W.keepIn K (.ref f26) = true)
    (a27 : PySem.W.nsIn K mainGlobals "_law_build" = some (some (.ref f27))) (l27 : K.lookup f27 = some ⟨oc27, od27, .func (PySem.W.fnOf "_law_build" "_law_build" (defArgs s__law_build) (defBody s__law_build) (defScope s__law_build) .none kV27 dc27 pm27 an27 cd27 ct27), sl27⟩) (c27 : PySem.W.codeIn K cd27 "_law_build" = true) (k27 : PySem.W.keepIn K (.ref f27) = true)
    (a28 : PySem.W.nsIn K mainGlobals "_law_true" = some (some (.ref f28))) (l28 : K.lookup f28 = some ⟨oc28, od28, .func (PySem.W.fnOf "_law_true" "_law_true" (defArgs s__law_true) (defBody s__law_true) (defScope s__law_true) .none kV28 dc28 pm28 an28 cd28 ct28), sl28⟩) (c28 : PySem.W.codeIn K cd28 "_law_true" = true) (k28 : PySem.W.keepIn K (.ref f28) = true)
    (a29 : PySem.W.nsIn K mainGlobals "_law_subsets" = some (some (.ref f29))) (l29 : K.lookup f29 = some ⟨oc29, od29, .func (PySem.W.fnOf "_law_subsets" "_law_subsets" (defArgs s__law_subsets) (defBody s__law_subsets) (defScope s__law_subsets) .none kV29 dc29 pm29 an29 cd29 ct29), sl29⟩) (c29 : PySem.W.codeIn K cd29 "_law_subsets" = true) (k29 : PySem.W.keepIn K (.ref f29) = true)
    (a30 : PySem.W.nsIn K mainGlobals "_law_truth" = some (some (.ref f30))) (l30 : K.lookup f30 = some ⟨oc30, od30, .func (PySem.W.fnOf "_law_truth" "_law_truth" (defArgs s__law_truth) (defBody s__law_truth) (defScope s__law_truth) .none kV30 dc30 pm30 an30 cd30 ct30), sl30⟩) (c30 : PySem.W.codeIn K cd30 "_law_truth" = true) (k30 : PySem.W.keepIn K (.ref f30) = true)
    (a31 : PySem.W.nsIn K mainGlobals "_law_fixed" = some (some (.ref f31))) (l31 : K.lookup f31 = some ⟨oc31, od31, .func (PySem.W.fnOf "_law_fixed" "_law_fixed" (defArgs s__law_fixed) (defBody s__law_fixed) (defScope s__law_fixed) .none kV31 dc31 pm31 an31 cd31 ct31), sl31⟩) (c31 : PySem.W.codeIn K cd31 "_law_fixed" = true) (k31 : PySem.W.keepIn K (.ref f31) = true)
    (a32 : PySem.W.nsIn K mainGlobals "_law_top" = some (some (.ref f32))) (l32 : K.lookup f32 = some ⟨oc32, od32, .func (PySem.W.fnOf "_law_top" "_law_top" (defArgs s__law_top) (defBody s__law_top) (defScope s__law_top) .none kV32 dc32 pm32 an32 cd32 ct32), sl32⟩) (c32 : PySem.W.codeIn K cd32 "_law_top" = true) (k32 : PySem.W.keepIn K (.ref f32) = true)
    (a33 : PySem.W.nsIn K mainGlobals "_law_diagrams" = some (some (.ref f33))) (l33 : K.lookup f33 = some ⟨oc33, od33, .func (PySem.W.fnOf "_law_diagrams" "_law_diagrams" (defArgs s__law_diagrams) (defBody s__law_diagrams) (defScope s__law_diagrams) .none kV33 dc33 pm33 an33 cd33 ct33), sl33⟩) (c33 : PySem.W.codeIn K cd33 "_law_diagrams" = true) (k33 : PySem.W.keepIn K (.ref f33) = true)
    (a34 : PySem.W.nsIn K mainGlobals "_law_turned" = some (some (.ref f34))) (l34 : K.lookup f34 = some ⟨oc34, od34, .func (PySem.W.fnOf "_law_turned" "_law_turned" (defArgs s__law_turned) (defBody s__law_turned) (defScope s__law_turned) .none kV34 dc34 pm34 an34 cd34 ct34), sl34⟩) (c34 : PySem.W.codeIn K cd34 "_law_turned" = true) (k34 : PySem.W.keepIn K (.ref f34) = true)
    (a35 : PySem.W.nsIn K mainGlobals "_law_costs" = some (some (.ref f35))) (l35 : K.lookup f35 = some ⟨oc35, od35, .func (PySem.W.fnOf "_law_costs" "_law_costs" (defArgs s__law_costs) (defBody s__law_costs) (defScope s__law_costs) .none kV35 dc35 pm35 an35 cd35 ct35), sl35⟩) (c35 : PySem.W.codeIn K cd35 "_law_costs" = true) (k35 : PySem.W.keepIn K (.ref f35) = true)
    (a36 : PySem.W.nsIn K mainGlobals "_law_change_key" = some (some (.ref f36))) (l36 : K.lookup f36 = some ⟨oc36, od36, .func (PySem.W.fnOf "_law_change_key" "_law_change_key" (defArgs s__law_change_key) (defBody s__law_change_key) (defScope s__law_change_key) .none kV36 dc36 pm36 an36 cd36 ct36), sl36⟩) (c36 : PySem.W.codeIn K cd36 "_law_change_key" = true) (k36 : PySem.W.keepIn K (.ref f36) = true)
    (a37 : PySem.W.nsIn K mainGlobals "_law_best" = some (some (.ref f37))) (l37 : K.lookup f37 = some ⟨oc37, od37, .func (PySem.W.fnOf "_law_best" "_law_best" (defArgs s__law_best) (defBody s__law_best) (defScope s__law_best) .none kV37 dc37 pm37 an37 cd37 ct37), sl37⟩) (c37 : PySem.W.codeIn K cd37 "_law_best" = true) (k37 : PySem.W.keepIn K (.ref f37) = true)
    (a38 : PySem.W.nsIn K mainGlobals "_law_candidates" = some (some (.ref f38))) (l38 : K.lookup f38 = some ⟨oc38, od38, .func (PySem.W.fnOf "_law_candidates" "_law_candidates" (defArgs s__law_candidates) (defBody s__law_candidates) (defScope s__law_candidates) .none kV38 dc38 pm38 an38 cd38 ct38), sl38⟩) (c38 : PySem.W.codeIn K cd38 "_law_candidates" = true) (k38 : PySem.W.keepIn K (.ref f38) = true)
    (a39 : PySem.W.nsIn K mainGlobals "law" = some (some (.ref f39))) (l39 : K.lookup f39 = some ⟨oc39, od39, .func (PySem.W.fnOf "law" "law" (defArgs s_law) (defBody s_law) (defScope s_law) .none kV39 dc39 pm39 an39 cd39 ct39), sl39⟩) (c39 : PySem.W.codeIn K cd39 "law" = true) (k39 : PySem.W.keepIn K (.ref f39) = true)
    {tk_NEVER : Tok} (w_NEVER : PySem.W.nsIn K mainGlobals "NEVER" = some (some (.int 0 tk_NEVER))) {tk_ALWAYS : Tok} (w_ALWAYS : PySem.W.nsIn K mainGlobals "ALWAYS" = some (some (.int 1 tk_ALWAYS))) {tk_FIRST_NODE : Tok} (w_FIRST_NODE : PySem.W.nsIn K mainGlobals "FIRST_NODE" = some (some (.int 2 tk_FIRST_NODE))) (aC_Diagrams : PySem.W.nsIn K mainGlobals "Diagrams" = some (some (.ref C_Diagrams))) (pg_Diagrams : PySem.W.plainGet K C_Diagrams Str.empty = true) (hd_Diagrams : PySem.W.hasDictIn K C_Diagrams = true) (po_Diagrams : PySem.W.plainOver K C_Diagrams = true) (sa_Diagrams : PySem.W.findIn K (.ref C_Diagrams) "__setattr__" = some (some (.builtin "object.__setattr__"))) (mk_Diagrams : PySem.W.makesIn K C_Diagrams = true) (kc_Diagrams : PySem.W.keepIn K (.ref C_Diagrams) = true) (nf_Diagrams_combined : PySem.W.findIn K (.ref C_Diagrams) "combined" = some none) (nf_Diagrams_kept : PySem.W.findIn K (.ref C_Diagrams) "kept" = some none) (nf_Diagrams_numbers : PySem.W.findIn K (.ref C_Diagrams) "numbers" = some none) (aC_Way : PySem.W.nsIn K mainGlobals "Way" = some (some (.ref C_Way))) (pg_Way : PySem.W.plainGet K C_Way Str.empty = true) (hd_Way : PySem.W.hasDictIn K C_Way = true) (po_Way : PySem.W.plainOver K C_Way = true) (sa_Way : PySem.W.findIn K (.ref C_Way) "__setattr__" = some (some (.builtin "object.__setattr__"))) (mk_Way : PySem.W.makesIn K C_Way = true) (kc_Way : PySem.W.keepIn K (.ref C_Way) = true) (nf_Way_most_nodes : PySem.W.findIn K (.ref C_Way) "most_nodes" = some none) (nf_Way_most_rows : PySem.W.findIn K (.ref C_Way) "most_rows" = some none) (nf_Way_passed : PySem.W.findIn K (.ref C_Way) "passed" = some none) (nf_Way_store : PySem.W.findIn K (.ref C_Way) "store" = some none) (z_abs : PySem.W.nsIn K mainGlobals "abs" = some none) (z_all : PySem.W.nsIn K mainGlobals "all" = some none) (z_bool : PySem.W.nsIn K mainGlobals "bool" = some none) (z_int : PySem.W.nsIn K mainGlobals "int" = some none) (z_isinstance : PySem.W.nsIn K mainGlobals "isinstance" = some none) (z_len : PySem.W.nsIn K mainGlobals "len" = some none) (z_list : PySem.W.nsIn K mainGlobals "list" = some none) (z_max : PySem.W.nsIn K mainGlobals "max" = some none) (z_min : PySem.W.nsIn K mainGlobals "min" = some none) (z_range : PySem.W.nsIn K mainGlobals "range" = some none) (z_repr : PySem.W.nsIn K mainGlobals "repr" = some none) (z_reversed : PySem.W.nsIn K mainGlobals "reversed" = some none) (z_sorted : PySem.W.nsIn K mainGlobals "sorted" = some none) (z_str : PySem.W.nsIn K mainGlobals "str" = some none) (z_sum : PySem.W.nsIn K mainGlobals "sum" = some none) (z_tuple : PySem.W.nsIn K mainGlobals "tuple" = some none) (epa_TooManyQuestions : PySem.W.nsIn K mainGlobals "TooManyQuestions" = some (some (.ref C_TooManyQuestions))) (epq_TooManyQuestions : PySem.W.excIn K C_TooManyQuestions [.type "ValueError", .type "Exception", .type "BaseException", .type "object"] "ValueError.__new__" = true) (epk_TooManyQuestions : PySem.W.keepIn K (.ref C_TooManyQuestions) = true) (eps_TooManyQuestions : PySem.W.subIn K (.ref C_TooManyQuestions) (.type "BaseException") = some true) (ept_TooManyQuestions : PySem.W.typeIn K (.ref C_TooManyQuestions) = some (.type "type")) (ea_LineError : PySem.W.nsIn K mainGlobals "LineError" = some (some (.ref C_LineError))) (ea_SourceError : PySem.W.nsIn K mainGlobals "SourceError" = some (some (.ref C_SourceError))) (ecs_TooManyQuestions : PySem.W.subIn K (.ref C_LineError) (.type "BaseException") = some true) (ech_TooManyQuestions : PySem.W.hasDictIn K C_LineError = true) (ect_TooManyQuestions : PySem.W.typeIn K (.ref C_LineError) = some (.type "type")) (ecl_TooManyQuestions : PySem.W.subIn K (.ref C_TooManyQuestions) (.ref C_LineError) = some true) (exg_TooManyQuestions : PySem.W.findIn K (.ref C_TooManyQuestions) "__getattribute__" = some (some (.builtin "BaseException.__getattribute__"))) (exk_TooManyQuestions : PySem.W.findIn K (.ref C_TooManyQuestions) "__getattr__" = some none) (exd_TooManyQuestions : PySem.W.hasDictIn K C_TooManyQuestions = true) (exa_TooManyQuestions : PySem.W.findIn K (.ref C_TooManyQuestions) "__class__" = some (some (.builtin "object.__class__"))) (exn_TooManyQuestions : PySem.W.specialIn K (.builtin "object.__class__") "__get__" = some (some (.builtin "getset_descriptor.__get__"))) (ext_TooManyQuestions : PySem.W.takesIn K (.builtin "object.__class__") = some true) (exm_TooManyQuestions : PySem.W.mroIn K C_TooManyQuestions (.type "object") = some true) (ek1_TooManyQuestions : PySem.W.subIn K (.ref C_TooManyQuestions) (.ref C_TooManyQuestions) = some true) (ek2_TooManyQuestions : PySem.W.subIn K (.ref C_TooManyQuestions) (.ref C_SourceError) = some false) (eob_TooManyQuestions : PySem.W.subIn K (.ref C_SourceError) (.type "BaseException") = some true) (eod_TooManyQuestions : PySem.W.hasDictIn K C_SourceError = true) (eot_TooManyQuestions : PySem.W.typeIn K (.ref C_SourceError) = some (.type "type")) :
    ∃ fd : FuncData, (∀ (s : Shared) (v : Value), BindsTo s fd ⟨[v], []⟩ [("script", v)]) ∧ ∀ base : Heap, K.In base → base.Ns mainGlobals mg → CallerOk l.prog w K mg base fa fd "script" (sp_law K) := by
  have e := hfa.symm.trans (PySem.W.mg_of X G a39)
  cases e
  have F_cheapest := fun_mk (st := s_cheapest) l0 c0 k0
  have b_cheapest := F_cheapest.binds (ps := ["store", "condition", "present", "costs"]) fun _ _ _ _ _ _ us hl => match us, hl with | [_, _, _, _], _ => rfl
  have g_cheapest := PySem.W.mg_of X G a0
  have F_with_turned := fun_mk (st := s_with_turned) l1 c1 k1
  have b_with_turned := F_with_turned.binds (ps := ["entry", "cost", "change"]) fun _ _ _ _ _ _ us hl => match us, hl with | [_, _, _], _ => rfl
  have g_with_turned := PySem.W.mg_of X G a1
  have F_Diagrams___init__ := fun_mk (st := s_Diagrams___init__) l2 c2 k2
  have b_Diagrams___init__ := F_Diagrams___init__.binds (ps := ["self"]) fun _ _ _ _ _ _ us hl => match us, hl with | [_], _ => rfl
  have mk0_Diagrams : Mk K C_Diagrams f2 := ⟨mk_Diagrams, a2, i2, kc_Diagrams⟩
  have F_Diagrams_there := fun_mk (st := s_Diagrams_there) l3 c3 k3
  have b_Diagrams_there := F_Diagrams_there.binds (ps := ["self", "entry"]) fun _ _ _ _ _ _ us hl => match us, hl with | [_, _], _ => rfl
  have m_Diagrams_there : Meth K C_Diagrams "there" f3 := ⟨a3, i3, k3⟩
  have F_Diagrams_conjunction := fun_mk (st := s_Diagrams_conjunction) l4 c4 k4
  have b_Diagrams_conjunction := F_Diagrams_conjunction.binds (ps := ["self", "first", "second"]) fun _ _ _ _ _ _ us hl => match us, hl with | [_, _, _], _ => rfl
  have m_Diagrams_conjunction : Meth K C_Diagrams "conjunction" f4 := ⟨a4, i4, k4⟩
  have F_Diagrams_disjunction := fun_mk (st := s_Diagrams_disjunction) l5 c5 k5
  have b_Diagrams_disjunction := F_Diagrams_disjunction.binds (ps := ["self", "first", "second"]) fun _ _ _ _ _ _ us hl => match us, hl with | [_, _, _], _ => rfl
  have m_Diagrams_disjunction : Meth K C_Diagrams "disjunction" f5 := ⟨a5, i5, k5⟩
  have F_Diagrams_negation := fun_mk (st := s_Diagrams_negation) l6 c6 k6
  have b_Diagrams_negation := F_Diagrams_negation.binds (ps := ["self", "condition"]) fun _ _ _ _ _ _ us hl => match us, hl with | [_, _], _ => rfl
  have m_Diagrams_negation : Meth K C_Diagrams "negation" f6 := ⟨a6, i6, k6⟩
  have F_Diagrams_differs := fun_mk (st := s_Diagrams_differs) l7 c7 k7
  have b_Diagrams_differs := F_Diagrams_differs.binds (ps := ["self", "first", "second"]) fun _ _ _ _ _ _ us hl => match us, hl with | [_, _, _], _ => rfl
  have m_Diagrams_differs : Meth K C_Diagrams "differs" f7 := ⟨a7, i7, k7⟩
  have F_Diagrams_size := fun_mk (st := s_Diagrams_size) l8 c8 k8
  have b_Diagrams_size := F_Diagrams_size.binds (ps := ["self", "conditions"]) fun _ _ _ _ _ _ us hl => match us, hl with | [_, _], _ => rfl
  have m_Diagrams_size : Meth K C_Diagrams "size" f8 := ⟨a8, i8, k8⟩
  have F_Diagrams_table := fun_mk (st := s_Diagrams_table) l9 c9 k9
  have b_Diagrams_table := F_Diagrams_table.binds (ps := ["self", "condition"]) fun _ _ _ _ _ _ us hl => match us, hl with | [_, _], _ => rfl
  have m_Diagrams_table : Meth K C_Diagrams "table" f9 := ⟨a9, i9, k9⟩
  have F_Diagrams_listed := fun_mk (st := s_Diagrams_listed) l10 c10 k10
  have b_Diagrams_listed := F_Diagrams_listed.binds (ps := ["self", "conditions"]) fun _ _ _ _ _ _ us hl => match us, hl with | [_, _], _ => rfl
  have m_Diagrams_listed : Meth K C_Diagrams "listed" f10 := ⟨a10, i10, k10⟩
  have F_Diagrams_top := fun_mk (st := s_Diagrams_top) l11 c11 k11
  have b_Diagrams_top := F_Diagrams_top.binds (ps := ["self", "conditions"]) fun _ _ _ _ _ _ us hl => match us, hl with | [_, _], _ => rfl
  have m_Diagrams_top : Meth K C_Diagrams "top" f11 := ⟨a11, i11, k11⟩
  have F_Diagrams_branches := fun_mk (st := s_Diagrams_branches) l12 c12 k12
  have b_Diagrams_branches := F_Diagrams_branches.binds (ps := ["self", "condition", "entry"]) fun _ _ _ _ _ _ us hl => match us, hl with | [_, _, _], _ => rfl
  have m_Diagrams_branches : Meth K C_Diagrams "branches" f12 := ⟨a12, i12, k12⟩
  have F_Diagrams_node_of := fun_mk (st := s_Diagrams_node_of) l13 c13 k13
  have b_Diagrams_node_of := F_Diagrams_node_of.binds (ps := ["self", "condition"]) fun _ _ _ _ _ _ us hl => match us, hl with | [_, _], _ => rfl
  have m_Diagrams_node_of : Meth K C_Diagrams "node_of" f13 := ⟨a13, i13, k13⟩
  have F_Diagrams_node := fun_mk (st := s_Diagrams_node) l14 c14 k14
  have b_Diagrams_node := F_Diagrams_node.binds (ps := ["self", "entry", "without", "there"]) fun _ _ _ _ _ _ us hl => match us, hl with | [_, _, _, _], _ => rfl
  have m_Diagrams_node : Meth K C_Diagrams "node" f14 := ⟨a14, i14, k14⟩
  have F_Diagrams_combine := fun_mk (st := s_Diagrams_combine) l15 c15 k15
  have b_Diagrams_combine := F_Diagrams_combine.binds (ps := ["self", "condition", "first", "second"]) fun _ _ _ _ _ _ us hl => match us, hl with | [_, _, _, _], _ => rfl
  have m_Diagrams_combine : Meth K C_Diagrams "combine" f15 := ⟨a15, i15, k15⟩
  have F_Way___init__ := fun_mk (st := s_Way___init__) l16 c16 k16
  have b_Way___init__ := F_Way___init__.binds (ps := ["self", "store", "most_rows", "most_nodes"]) fun _ _ _ _ _ _ us hl => match us, hl with | [_, _, _, _], _ => rfl
  have mk0_Way : Mk K C_Way f16 := ⟨mk_Way, a16, i16, kc_Way⟩
  have F_Way_meet := fun_mk (st := s_Way_meet) l17 c17 k17
  have b_Way_meet := F_Way_meet.binds (ps := ["self", "condition"]) fun _ _ _ _ _ _ us hl => match us, hl with | [_, _], _ => rfl
  have m_Way_meet : Meth K C_Way "meet" f17 := ⟨a17, i17, k17⟩
  have F_Way_either := fun_mk (st := s_Way_either) l18 c18 k18
  have b_Way_either := F_Way_either.binds (ps := ["self", "first", "second"]) fun _ _ _ _ _ _ us hl => match us, hl with | [_, _, _], _ => rfl
  have m_Way_either : Meth K C_Way "either" f18 := ⟨a18, i18, k18⟩
  have F_Way_joined := fun_mk (st := s_Way_joined) l19 c19 k19
  have b_Way_joined := F_Way_joined.binds (ps := ["self", "conditions"]) fun _ _ _ _ _ _ us hl => match us, hl with | [_, _], _ => rfl
  have m_Way_joined : Meth K C_Way "joined" f19 := ⟨a19, i19, k19⟩
  have F_none_of := fun_mk (st := s_none_of) l20 c20 k20
  have FD_none_of := fund_mk (st := s_none_of) (kws := [("most_nodes", V.int 500)]) l20 c20 k20 (fun q hq => by simp only [List.mem_cons, List.not_mem_nil, or_false] at hq; rcases hq with rfl; exact ⟨_, kd20_most_nodes, ⟨_, rfl⟩⟩)
  obtain ⟨ds_none_of, vd_none_of, bd_none_of⟩ := FD_none_of.binds0 (ps := ["store", "candidates", "prefix", "present", "costs", "most_nodes"]) 5 (by simp) rfl (fun D doc pm an cdv ct us ks hl hk => match us, ks, hl, hk with | [_, _, _, _, _], [_], _, _ => ⟨_, _, _, _, _, _, rfl, rfl, rfl⟩)
  obtain ⟨_, bn_none_of⟩ := FD_none_of.kbinds0 (ps := ["store", "candidates", "prefix", "present", "costs", "most_nodes"]) 5 ["most_nodes"] [] (fun us _ ws => us ++ ws) (by simp) (fun q hq => by cases hq) (fun a _ c => a.append c) (fun D doc pm an cdv ct us mv ws hl _ hw => match us, ws, hl, hw with | [_, _, _, _, _], [_], _, _ => rfl)
  have g_none_of := PySem.W.mg_of X G a20
  have F_beginning := fun_mk (st := s_beginning) l21 c21 k21
  have b_beginning := F_beginning.binds (ps := ["candidates", "prefix"]) fun _ _ _ _ _ _ us hl => match us, hl with | [_, _], _ => rfl
  have g_beginning := PySem.W.mg_of X G a21
  have F__law_draw := fun_mk (st := s__law_draw) l22 c22 k22
  have b__law_draw := F__law_draw.binds (ps := ["script"]) fun _ _ _ _ _ _ us hl => match us, hl with | [_], _ => rfl
  have g__law_draw := PySem.W.mg_of X G a22
  have F__law_next := fun_mk (st := s__law_next) l23 c23 k23
  have b__law_next := F__law_next.binds (ps := ["draw", "many"]) fun _ _ _ _ _ _ us hl => match us, hl with | [_, _], _ => rfl
  have g__law_next := PySem.W.mg_of X G a23
  have F__law_same := fun_mk (st := s__law_same) l24 c24 k24
  have b__law_same := F__law_same.binds (ps := ["actual", "due"]) fun _ _ _ _ _ _ us hl => match us, hl with | [_, _], _ => rfl
  have g__law_same := PySem.W.mg_of X G a24
  have F__law_entries := fun_mk (st := s__law_entries) l25 c25 k25
  have b__law_entries := F__law_entries.binds (ps := ["draw", "most"]) fun _ _ _ _ _ _ us hl => match us, hl with | [_, _], _ => rfl
  have g__law_entries := PySem.W.mg_of X G a25
  have F__law_tree := fun_mk (st := s__law_tree) l26 c26 k26
  have b__law_tree := F__law_tree.binds (ps := ["draw", "entries", "depth"]) fun _ _ _ _ _ _ us hl => match us, hl with | [_, _, _], _ => rfl
  have g__law_tree := PySem.W.mg_of X G a26
  have F__law_build := fun_mk (st := s__law_build) l27 c27 k27
  have b__law_build := F__law_build.binds (ps := ["store", "tree"]) fun _ _ _ _ _ _ us hl => match us, hl with | [_, _], _ => rfl
  have g__law_build := PySem.W.mg_of X G a27
  have F__law_true := fun_mk (st := s__law_true) l28 c28 k28
  have b__law_true := F__law_true.binds (ps := ["tree", "present"]) fun _ _ _ _ _ _ us hl => match us, hl with | [_, _], _ => rfl
  have g__law_true := PySem.W.mg_of X G a28
  have F__law_subsets := fun_mk (st := s__law_subsets) l29 c29 k29
  have b__law_subsets := F__law_subsets.binds (ps := ["entries"]) fun _ _ _ _ _ _ us hl => match us, hl with | [_], _ => rfl
  have g__law_subsets := PySem.W.mg_of X G a29
  have F__law_truth := fun_mk (st := s__law_truth) l30 c30 k30
  have b__law_truth := F__law_truth.binds (ps := ["tree", "entries"]) fun _ _ _ _ _ _ us hl => match us, hl with | [_, _], _ => rfl
  have g__law_truth := PySem.W.mg_of X G a30
  have F__law_fixed := fun_mk (st := s__law_fixed) l31 c31 k31
  have b__law_fixed := F__law_fixed.binds (ps := ["truth", "k", "there"]) fun _ _ _ _ _ _ us hl => match us, hl with | [_, _, _], _ => rfl
  have g__law_fixed := PySem.W.mg_of X G a31
  have F__law_top := fun_mk (st := s__law_top) l32 c32 k32
  have b__law_top := F__law_top.binds (ps := ["truth", "count"]) fun _ _ _ _ _ _ us hl => match us, hl with | [_, _], _ => rfl
  have g__law_top := PySem.W.mg_of X G a32
  have F__law_diagrams := fun_mk (st := s__law_diagrams) l33 c33 k33
  have b__law_diagrams := F__law_diagrams.binds (ps := ["truths", "count"]) fun _ _ _ _ _ _ us hl => match us, hl with | [_, _], _ => rfl
  have g__law_diagrams := PySem.W.mg_of X G a33
  have F__law_turned := fun_mk (st := s__law_turned) l34 c34 k34
  have b__law_turned := F__law_turned.binds (ps := ["present", "part"]) fun _ _ _ _ _ _ us hl => match us, hl with | [_, _], _ => rfl
  have g__law_turned := PySem.W.mg_of X G a34
  have F__law_costs := fun_mk (st := s__law_costs) l35 c35 k35
  have b__law_costs := F__law_costs.binds (ps := ["draw", "entries"]) fun _ _ _ _ _ _ us hl => match us, hl with | [_, _], _ => rfl
  have g__law_costs := PySem.W.mg_of X G a35
  have F__law_change_key := fun_mk (st := s__law_change_key) l36 c36 k36
  have b__law_change_key := F__law_change_key.binds (ps := ["change"]) fun _ _ _ _ _ _ us hl => match us, hl with | [_], _ => rfl
  have g__law_change_key := PySem.W.mg_of X G a36
  have F__law_best := fun_mk (st := s__law_best) l37 c37 k37
  have b__law_best := F__law_best.binds (ps := ["truth", "entries", "present", "costs"]) fun _ _ _ _ _ _ us hl => match us, hl with | [_, _, _, _], _ => rfl
  have g__law_best := PySem.W.mg_of X G a37
  have F__law_candidates := fun_mk (st := s__law_candidates) l38 c38 k38
  have b__law_candidates := F__law_candidates.binds (ps := ["draw", "store", "entries"]) fun _ _ _ _ _ _ us hl => match us, hl with | [_, _, _], _ => rfl
  have g__law_candidates := PySem.W.mg_of X G a38
  have F_law := fun_mk (st := s_law) l39 c39 k39
  have cl_Diagrams : Cls K C_Diagrams := ⟨pg_Diagrams, hd_Diagrams, po_Diagrams, sa_Diagrams⟩
  have g_Diagrams := PySem.W.mg_of X G aC_Diagrams
  have cl_Way : Cls K C_Way := ⟨pg_Way, hd_Way, po_Way, sa_Way⟩
  have g_Way := PySem.W.mg_of X G aC_Way
  have M : Mg mg := ⟨PySem.W.mg_none_of X G z_abs, PySem.W.mg_none_of X G z_all, PySem.W.mg_none_of X G z_bool, PySem.W.mg_none_of X G z_int, PySem.W.mg_none_of X G z_isinstance, PySem.W.mg_none_of X G z_len, PySem.W.mg_none_of X G z_list, PySem.W.mg_none_of X G z_max, PySem.W.mg_none_of X G z_min, PySem.W.mg_none_of X G z_range, PySem.W.mg_none_of X G z_repr, PySem.W.mg_none_of X G z_reversed, PySem.W.mg_none_of X G z_sorted, PySem.W.mg_none_of X G z_str, PySem.W.mg_none_of X G z_sum, PySem.W.mg_none_of X G z_tuple⟩
  exact ⟨PySem.W.fnOf "law" "law" (defArgs s_law) (defBody s_law) (defScope s_law) .none kV39 dc39 pm39 an39 cd39 ct39, fun s v => .of_eq rfl, fun base _ _ => by
  have GD : DgC K C_Diagrams mg := ⟨cl_Diagrams, nf_Diagrams_kept, nf_Diagrams_numbers, nf_Diagrams_combined, ⟨_, PySem.W.mg_of X G w_NEVER, _, rfl⟩, ⟨_, PySem.W.mg_of X G w_ALWAYS, _, rfl⟩, ⟨_, PySem.W.mg_of X G w_FIRST_NODE, _, rfl⟩⟩
  have NOF := FnOk.clm (P := l.prog) (w := w) (base := base) (ok_nof F_Diagrams_node_of M GD) m_Diagrams_node_of cl_Diagrams b_Diagrams_node_of
  have NDE := FnOk.clm (P := l.prog) (w := w) (base := base) (ok_node F_Diagrams_node M GD) m_Diagrams_node cl_Diagrams b_Diagrams_node
  have TOP := FnOk.clm (ok_top F_Diagrams_top M GD NOF) m_Diagrams_top cl_Diagrams b_Diagrams_top
  have BRA := FnOk.clm (ok_bra F_Diagrams_branches M GD NOF) m_Diagrams_branches cl_Diagrams b_Diagrams_branches
  have CMB := cl_comb F_Diagrams_combine M GD m_Diagrams_combine b_Diagrams_combine NDE TOP BRA 6
  have THE := FnOk.clm (ok_there F_Diagrams_there M GD NDE) m_Diagrams_there cl_Diagrams b_Diagrams_there
  have CON := FnOk.clm (ok_conj F_Diagrams_conjunction M GD CMB) m_Diagrams_conjunction cl_Diagrams b_Diagrams_conjunction
  have DIS := FnOk.clm (ok_disj F_Diagrams_disjunction M GD CMB) m_Diagrams_disjunction cl_Diagrams b_Diagrams_disjunction
  have NEG := FnOk.clm (ok_neg F_Diagrams_negation M GD CMB) m_Diagrams_negation cl_Diagrams b_Diagrams_negation
  have DIF := FnOk.clm (ok_diff F_Diagrams_differs M GD CMB NEG) m_Diagrams_differs cl_Diagrams b_Diagrams_differs
  have DIN : ClC l.prog w K mg base 1 "Diagrams" C_Diagrams (sp_dinit C_Diagrams K) := ⟨_, _, _, ok_dinit F_Diagrams___init__ GD, mk0_Diagrams, g_Diagrams, b_Diagrams___init__⟩
  have N := FnOk.cl (P := l.prog) (w := w) (base := base) (ok_next F__law_next M) F__law_next g__law_next b__law_next
  have DR := FnOk.cl (P := l.prog) (w := w) (base := base) (ok_draw F__law_draw M) F__law_draw g__law_draw b__law_draw
  have LTR := cl_ltr F__law_tree M g__law_tree b__law_tree N
  have LBU := cl_build 6 F__law_build M g__law_build b__law_build THE CON DIS NEG DIF
  have LTU := cl_true (P := l.prog) (w := w) (base := base) F__law_true M g__law_true b__law_true
  have LSU := FnOk.cl (P := l.prog) (w := w) (base := base) (ok_subs F__law_subsets M) F__law_subsets g__law_subsets b__law_subsets

  have PE_Q : PlE K mg C_TooManyQuestions "TooManyQuestions" := ⟨epq_TooManyQuestions, PySem.W.mg_of X G epa_TooManyQuestions, epk_TooManyQuestions, eps_TooManyQuestions, ept_TooManyQuestions⟩
  have CA : Cat K C_TooManyQuestions C_LineError C_SourceError := ⟨PySem.W.exm_ref ecs_TooManyQuestions ech_TooManyQuestions ect_TooManyQuestions ecl_TooManyQuestions, ⟨exg_TooManyQuestions, exk_TooManyQuestions, eps_TooManyQuestions, exd_TooManyQuestions, exa_TooManyQuestions, exn_TooManyQuestions, ext_TooManyQuestions, exm_TooManyQuestions⟩, kit_refT, kit_refF eob_TooManyQuestions eod_TooManyQuestions eot_TooManyQuestions ek1_TooManyQuestions ek2_TooManyQuestions⟩
  have WG : WyG K C_Way := ⟨cl_Way, nf_Way_store, nf_Way_most_rows, nf_Way_most_nodes, nf_Way_passed⟩
  have LIS := FnOk.clm (ok_listed F_Diagrams_listed M GD NOF) m_Diagrams_listed cl_Diagrams b_Diagrams_listed
  have TAB := FnOk.clm (ok_table F_Diagrams_table M GD LIS) m_Diagrams_table cl_Diagrams b_Diagrams_table
  have SIZ := FnOk.clm (ok_size F_Diagrams_size M GD LIS) m_Diagrams_size cl_Diagrams b_Diagrams_size
  have WTN := FnOk.cl (P := l.prog) (w := w) (base := base) (ok_wtn F_with_turned M) F_with_turned g_with_turned b_with_turned
  have CHP := FnOk.cl (ok_chp F_cheapest M TAB WTN) F_cheapest g_cheapest b_cheapest
  have BEG := FnOk.cl (P := l.prog) (w := w) (base := base) (ok_beg F_beginning M) F_beginning g_beginning b_beginning
  have WIN : ClC l.prog w K mg base 1 "Way" C_Way (sp_winit C_Way) := ⟨_, _, _, ok_winit F_Way___init__ M WG, mk0_Way, g_Way, b_Way___init__⟩
  have MEE := FnOk.clmx (ok_meet F_Way_meet M WG PE_Q SIZ) m_Way_meet cl_Way b_Way_meet
  have EIT := FnOk.clmx (ok_either F_Way_either M WG DIS MEE (by decide)) m_Way_either cl_Way b_Way_either
  have JOI := FnOk.clmx (ok_joined F_Way_joined M GD EIT) m_Way_joined cl_Way b_Way_joined
  have NON : ClNX l.prog w K mg base 12 "none_of" 5 ["most_nodes"] (fun us ws => us ++ ws) (sp_none C_Diagrams C_TooManyQuestions K) := ⟨_, _, _, _, ok_none F_none_of M WIN BEG NEG JOI CHP, g_none_of, F_none_of.kp, bn_none_of⟩
  have SM := cl_same (P := l.prog) (w := w) (base := base) F__law_same M g__law_same b__law_same
  have LEN := FnOk.cl (ok_ents 4 F__law_entries M N) F__law_entries g__law_entries b__law_entries
  have LTD := FnOk.cl (P := l.prog) (w := w) (base := base) (ok_trnd F__law_turned M) F__law_turned g__law_turned b__law_turned
  have LSN := FnOk.cl (P := l.prog) (w := w) (base := base) (ok_subsN F__law_subsets M) F__law_subsets g__law_subsets b__law_subsets
  have LCO := FnOk.cl (ok_lcosts F__law_costs M N) F__law_costs g__law_costs b__law_costs
  have LCK := FnOk.cl (P := l.prog) (w := w) (base := base) (ok_ckey F__law_change_key M) F__law_change_key g__law_change_key b__law_change_key
  have LBE := FnOk.cl (ok_lbest F__law_best M LSN LTD LCK) F__law_best g__law_best b__law_best
  have LCA := FnOk.cl (ok_cand F__law_candidates M N (LTR 6) (LBU 9)) F__law_candidates g__law_candidates b__law_candidates
  have LTT := FnOk.cl (ok_truth 10 F__law_truth M LSU (LTU 10)) F__law_truth g__law_truth b__law_truth
  have LFX := FnOk.cl (P := l.prog) (w := w) (base := base) (ok_fixed F__law_fixed M) F__law_fixed g__law_fixed b__law_fixed
  have LTP := FnOk.cl (ok_ltop F__law_top M LFX) F__law_top g__law_top b__law_top
  have LDI := FnOk.cl (ok_ldia F__law_diagrams M LFX LTP) F__law_diagrams g__law_diagrams b__law_diagrams
  exact ok_law F_law M (PySem.W.mg_of X G ea_LineError) (PySem.W.mg_of X G ea_SourceError) (PySem.W.mg_of X G epa_TooManyQuestions) CA DR N LEN DIN LCA (LBU 9) LSN LTT LDI LCO LBE (SM 5) NON⟩
end Lw
open PySem PySem.W PyProof.Rows
set_option maxHeartbeats 0 in
theorem PySem.Challenge.cw_lineworks_k78_none_of_the_rows_holds : PySem.Challenge.rw_lineworks_k78_none_of_the_rows.Holds := by
  w_on; o_law; k_head; (case hw => w_witness2)
  k_fill
  refine Lw.walk_ofG (l := PySem.Challenge.rw_lineworks_k78_none_of_the_rows) (n := 63) (p := "script") (sp := fun w => Lw.sp_law _) rfl (by decide) rfl (fun w h Y => PySem.W.kIn_of Y) ?F (fun _ _ a ns hl hS => ⟨a, ns, rfl, hS, hl, fun _ => rfl⟩)
  case F =>
    intro w mg fa h KX G hmg
    refine' Lw.all_mk KX G hmg ?a0 ?l0 ?c0 ?k0 ?a1 ?l1 ?c1 ?k1 ?a2 ?i2 ?l2 ?c2 ?k2 ?a3 ?i3 ?l3 ?c3 ?k3 ?a4 ?i4 ?l4 ?c4 ?k4 ?a5 ?i5 ?l5 ?c5 ?k5 ?a6 ?i6 ?l6 ?c6 ?k6 ?a7 ?i7 ?l7 ?c7 ?k7 ?a8 ?i8 ?l8 ?c8 ?k8 ?a9 ?i9 ?l9 ?c9 ?k9 ?a10 ?i10 ?l10 ?c10 ?k10 ?a11 ?i11 ?l11 ?c11 ?k11 ?a12 ?i12 ?l12 ?c12 ?k12 ?a13 ?i13 ?l13 ?c13 ?k13 ?a14 ?i14 ?l14 ?c14 ?k14 ?a15 ?i15 ?l15 ?c15 ?k15 ?a16 ?i16 ?l16 ?c16 ?k16 ?a17 ?i17 ?l17 ?c17 ?k17 ?a18 ?i18 ?l18 ?c18 ?k18 ?a19 ?i19 ?l19 ?c19 ?k19 ?a20 ?l20 ?c20 ?k20 ?kd20_most_nodes ?a21 ?l21 ?c21 ?k21 ?a22 ?l22 ?c22 ?k22 ?a23 ?l23 ?c23 ?k23 ?a24 ?l24 ?c24 ?k24 ?a25 ?l25 ?c25 ?k25 ?a26 ?l26 ?c26 ?k26 ?a27 ?l27 ?c27 ?k27 ?a28 ?l28 ?c28 ?k28 ?a29 ?l29 ?c29 ?k29 ?a30 ?l30 ?c30 ?k30 ?a31 ?l31 ?c31 ?k31 ?a32 ?l32 ?c32 ?k32 ?a33 ?l33 ?c33 ?k33 ?a34 ?l34 ?c34 ?k34 ?a35 ?l35 ?c35 ?k35 ?a36 ?l36 ?c36 ?k36 ?a37 ?l37 ?c37 ?k37 ?a38 ?l38 ?c38 ?k38 ?a39 ?l39 ?c39 ?k39 ?w_NEVER ?w_ALWAYS ?w_FIRST_NODE ?aC_Diagrams ?pg_Diagrams ?hd_Diagrams ?po_Diagrams ?sa_Diagrams ?mk_Diagrams ?kc_Diagrams ?nf_Diagrams_combined ?nf_Diagrams_kept ?nf_Diagrams_numbers ?aC_Way ?pg_Way ?hd_Way ?po_Way ?sa_Way ?mk_Way ?kc_Way ?nf_Way_most_nodes ?nf_Way_most_rows ?nf_Way_passed ?nf_Way_store ?z_abs ?z_all ?z_bool ?z_int ?z_isinstance ?z_len ?z_list ?z_max ?z_min ?z_range ?z_repr ?z_reversed ?z_sorted ?z_str ?z_sum ?z_tuple ?epa_TooManyQuestions ?epq_TooManyQuestions ?epk_TooManyQuestions ?eps_TooManyQuestions ?ept_TooManyQuestions ?ea_LineError ?ea_SourceError ?ecs_TooManyQuestions ?ech_TooManyQuestions ?ect_TooManyQuestions ?ecl_TooManyQuestions ?exg_TooManyQuestions ?exk_TooManyQuestions ?exd_TooManyQuestions ?exa_TooManyQuestions ?exn_TooManyQuestions ?ext_TooManyQuestions ?exm_TooManyQuestions ?ek1_TooManyQuestions ?ek2_TooManyQuestions ?eob_TooManyQuestions ?eod_TooManyQuestions ?eot_TooManyQuestions
    (case aC_Diagrams => k_is)
    (case pg_Diagrams => k_is)
    (case hd_Diagrams => k_is)
    (case po_Diagrams => k_is)
    (case sa_Diagrams => k_is)
    (case mk_Diagrams => k_is)
    (case kc_Diagrams => k_is)
    (case nf_Diagrams_combined => k_is)
    (case nf_Diagrams_kept => k_is)
    (case nf_Diagrams_numbers => k_is)
    (case aC_Way => k_is)
    (case pg_Way => k_is)
    (case hd_Way => k_is)
    (case po_Way => k_is)
    (case sa_Way => k_is)
    (case mk_Way => k_is)
    (case kc_Way => k_is)
    (case nf_Way_most_nodes => k_is)
    (case nf_Way_most_rows => k_is)
    (case nf_Way_passed => k_is)
    (case nf_Way_store => k_is)
    (case a0 => k_is); (case l0 => k_is); (case c0 => k_is); (case k0 => k_is)
    (case a1 => k_is); (case l1 => k_is); (case c1 => k_is); (case k1 => k_is)
    (case a2 => k_is); (case i2 => k_is); (case l2 => k_is); (case c2 => k_is); (case k2 => k_is)
    (case a3 => k_is); (case i3 => k_is); (case l3 => k_is); (case c3 => k_is); (case k3 => k_is)
    (case a4 => k_is); (case i4 => k_is); (case l4 => k_is); (case c4 => k_is); (case k4 => k_is)
    (case a5 => k_is); (case i5 => k_is); (case l5 => k_is); (case c5 => k_is); (case k5 => k_is)
    (case a6 => k_is); (case i6 => k_is); (case l6 => k_is); (case c6 => k_is); (case k6 => k_is)
    (case a7 => k_is); (case i7 => k_is); (case l7 => k_is); (case c7 => k_is); (case k7 => k_is)
    (case a8 => k_is); (case i8 => k_is); (case l8 => k_is); (case c8 => k_is); (case k8 => k_is)
    (case a9 => k_is); (case i9 => k_is); (case l9 => k_is); (case c9 => k_is); (case k9 => k_is)
    (case a10 => k_is); (case i10 => k_is); (case l10 => k_is); (case c10 => k_is); (case k10 => k_is)
    (case a11 => k_is); (case i11 => k_is); (case l11 => k_is); (case c11 => k_is); (case k11 => k_is)
    (case a12 => k_is); (case i12 => k_is); (case l12 => k_is); (case c12 => k_is); (case k12 => k_is)
    (case a13 => k_is); (case i13 => k_is); (case l13 => k_is); (case c13 => k_is); (case k13 => k_is)
    (case a14 => k_is); (case i14 => k_is); (case l14 => k_is); (case c14 => k_is); (case k14 => k_is)
    (case a15 => k_is); (case i15 => k_is); (case l15 => k_is); (case c15 => k_is); (case k15 => k_is)
    (case a16 => k_is); (case i16 => k_is); (case l16 => k_is); (case c16 => k_is); (case k16 => k_is)
    (case a17 => k_is); (case i17 => k_is); (case l17 => k_is); (case c17 => k_is); (case k17 => k_is)
    (case a18 => k_is); (case i18 => k_is); (case l18 => k_is); (case c18 => k_is); (case k18 => k_is)
    (case a19 => k_is); (case i19 => k_is); (case l19 => k_is); (case c19 => k_is); (case k19 => k_is)
    (case a20 => k_is); (case l20 => k_is); (case c20 => k_is); (case k20 => k_is)
    (case kd20_most_nodes => k_is)
    (case a21 => k_is); (case l21 => k_is); (case c21 => k_is); (case k21 => k_is)
    (case a22 => k_is); (case l22 => k_is); (case c22 => k_is); (case k22 => k_is)
    (case a23 => k_is); (case l23 => k_is); (case c23 => k_is); (case k23 => k_is)
    (case a24 => k_is); (case l24 => k_is); (case c24 => k_is); (case k24 => k_is)
    (case a25 => k_is); (case l25 => k_is); (case c25 => k_is); (case k25 => k_is)
    (case a26 => k_is); (case l26 => k_is); (case c26 => k_is); (case k26 => k_is)
    (case a27 => k_is); (case l27 => k_is); (case c27 => k_is); (case k27 => k_is)
    (case a28 => k_is); (case l28 => k_is); (case c28 => k_is); (case k28 => k_is)
    (case a29 => k_is); (case l29 => k_is); (case c29 => k_is); (case k29 => k_is)
    (case a30 => k_is); (case l30 => k_is); (case c30 => k_is); (case k30 => k_is)
    (case a31 => k_is); (case l31 => k_is); (case c31 => k_is); (case k31 => k_is)
    (case a32 => k_is); (case l32 => k_is); (case c32 => k_is); (case k32 => k_is)
    (case a33 => k_is); (case l33 => k_is); (case c33 => k_is); (case k33 => k_is)
    (case a34 => k_is); (case l34 => k_is); (case c34 => k_is); (case k34 => k_is)
    (case a35 => k_is); (case l35 => k_is); (case c35 => k_is); (case k35 => k_is)
    (case a36 => k_is); (case l36 => k_is); (case c36 => k_is); (case k36 => k_is)
    (case a37 => k_is); (case l37 => k_is); (case c37 => k_is); (case k37 => k_is)
    (case a38 => k_is); (case l38 => k_is); (case c38 => k_is); (case k38 => k_is)
    (case a39 => k_is); (case l39 => k_is); (case c39 => k_is); (case k39 => k_is)
    (case w_NEVER => k_is)
    (case w_ALWAYS => k_is)
    (case w_FIRST_NODE => k_is)
    (case z_abs => k_is); (case z_all => k_is); (case z_bool => k_is); (case z_int => k_is); (case z_isinstance => k_is); (case z_len => k_is); (case z_list => k_is); (case z_max => k_is); (case z_min => k_is); (case z_range => k_is); (case z_repr => k_is); (case z_reversed => k_is); (case z_sorted => k_is); (case z_str => k_is); (case z_sum => k_is); (case z_tuple => k_is)
    (case epa_TooManyQuestions => k_is)
    (case epq_TooManyQuestions => k_exc)
    (case epk_TooManyQuestions => k_is)
    (case eps_TooManyQuestions => k_is)
    (case ept_TooManyQuestions => k_is)
    (case ea_LineError => k_is)
    (case ea_SourceError => k_is)
    (case ecs_TooManyQuestions => k_is)
    (case ech_TooManyQuestions => k_is)
    (case ect_TooManyQuestions => k_is)
    (case ecl_TooManyQuestions => k_is)
    (case exg_TooManyQuestions => k_is)
    (case exk_TooManyQuestions => k_is)
    (case exd_TooManyQuestions => k_is)
    (case exa_TooManyQuestions => k_is)
    (case exn_TooManyQuestions => k_is)
    (case ext_TooManyQuestions => k_is)
    (case exm_TooManyQuestions => k_is)
    (case ek1_TooManyQuestions => k_is)
    (case ek2_TooManyQuestions => k_is)
    (case eob_TooManyQuestions => k_is)
    (case eod_TooManyQuestions => k_is)
    (case eot_TooManyQuestions => k_is)

