import PyProof.Rows.All
import Wide.All
import OpenK.AllK
import Wide.FinOn
import HandS.ForMost
import HandS.Wide
import HandS.IsInst
import HandS.Codes
import HandS.More
import HandS.DictComp
import HandS.Star
import HandS.CallLocal
import HandS.SortKw
import HandS.Set
import HandS.SetBool
import HandS.SetKeys
import HandS.Deep
import HandS.Iter
import HandS.SortInts
import HandS.Zip
import HandS.Rev
import HandS.RevRange
import HandS.Strs
import HandS.SetFor
import HandS.WideBits
import HandS.Exc
import HandS.ExcOwn
import HandS.ExcIs
import HandS.WordsExc
import HandS.Defaults
import HandS.MakeKwOnly
import HandS.Evl
import HandS.Gcd
import KE.KMathGC
import KE.LtSeq
import KE.LtData
import KE.KSortTup
import KE.DataCmp
import KE.KMinKey
import KE.DataMinKey
import KE.DataMinMax
import PySem.Challenge.RW_lineworks_k60_cases_of_conditions
set_option Elab.async false
set_option linter.all false
set_option maxRecDepth 100000
namespace Lw
open PySem PySem.Spec PyProof.Rows L2
def topS (i : Nat) : Stmt := PySem.Challenge.pw_lineworks_k60_cases_of_conditions.main.body.getD i (.Pass ⟨0, 0, 0, 0⟩)
abbrev s__wall : Stmt := topS 0
abbrev s_Diagrams___init__ : Stmt := inClass (topS 5) 0
abbrev N_Diagrams___init__ : List Str := ["self"]
theorem sc_Diagrams___init__ : FnScope N_Diagrams___init__ ["self"] (defScope s_Diagrams___init__) := ⟨rfl, rfl, rfl, by decide +kernel, rfl, by decide +kernel, by decide +kernel⟩
abbrev s_Diagrams_there : Stmt := inClass (topS 5) 1
abbrev N_Diagrams_there : List Str := ["self", "entry"]
theorem sc_Diagrams_there : FnScope N_Diagrams_there ["self", "entry"] (defScope s_Diagrams_there) := ⟨rfl, rfl, rfl, by decide +kernel, rfl, by decide +kernel, by decide +kernel⟩
abbrev s_Diagrams_conjunction : Stmt := inClass (topS 5) 2
abbrev N_Diagrams_conjunction : List Str := ["self", "first", "second"]
theorem sc_Diagrams_conjunction : FnScope N_Diagrams_conjunction ["self", "first", "second"] (defScope s_Diagrams_conjunction) := ⟨rfl, rfl, rfl, by decide +kernel, rfl, by decide +kernel, by decide +kernel⟩
abbrev s_Diagrams_disjunction : Stmt := inClass (topS 5) 3
abbrev N_Diagrams_disjunction : List Str := ["self", "first", "second"]
theorem sc_Diagrams_disjunction : FnScope N_Diagrams_disjunction ["self", "first", "second"] (defScope s_Diagrams_disjunction) := ⟨rfl, rfl, rfl, by decide +kernel, rfl, by decide +kernel, by decide +kernel⟩
abbrev s_Diagrams_negation : Stmt := inClass (topS 5) 4
abbrev N_Diagrams_negation : List Str := ["self", "condition"]
theorem sc_Diagrams_negation : FnScope N_Diagrams_negation ["self", "condition"] (defScope s_Diagrams_negation) := ⟨rfl, rfl, rfl, by decide +kernel, rfl, by decide +kernel, by decide +kernel⟩
abbrev s_Diagrams_differs : Stmt := inClass (topS 5) 5
abbrev N_Diagrams_differs : List Str := ["self", "first", "second"]
theorem sc_Diagrams_differs : FnScope N_Diagrams_differs ["self", "first", "second"] (defScope s_Diagrams_differs) := ⟨rfl, rfl, rfl, by decide +kernel, rfl, by decide +kernel, by decide +kernel⟩
abbrev s_Diagrams_restrict : Stmt := inClass (topS 5) 6
abbrev s_Diagrams_holds : Stmt := inClass (topS 5) 7
abbrev s_Diagrams_depends : Stmt := inClass (topS 5) 8
abbrev s_Diagrams_size : Stmt := inClass (topS 5) 9
abbrev N_Diagrams_size : List Str := ["self", "conditions", "nodes", "_"]
theorem sc_Diagrams_size : FnScope N_Diagrams_size ["self", "conditions"] (defScope s_Diagrams_size) := ⟨rfl, rfl, rfl, by decide +kernel, rfl, by decide +kernel, by decide +kernel⟩
abbrev s_Diagrams_implies : Stmt := inClass (topS 5) 10
abbrev s_Diagrams_helps : Stmt := inClass (topS 5) 11
abbrev s_Diagrams_hurts : Stmt := inClass (topS 5) 12
abbrev s_Diagrams_ways : Stmt := inClass (topS 5) 13
abbrev s_Diagrams_first_set : Stmt := inClass (topS 5) 14
abbrev s_Diagrams_table : Stmt := inClass (topS 5) 15
abbrev s_Diagrams_listed : Stmt := inClass (topS 5) 16
abbrev N_Diagrams_listed : List Str := ["self", "conditions", "nodes", "numbers", "left", "condition", "entry", "without", "there", "waiting", "part"]
theorem sc_Diagrams_listed : FnScope N_Diagrams_listed ["self", "conditions"] (defScope s_Diagrams_listed) := ⟨rfl, rfl, rfl, by decide +kernel, rfl, by decide +kernel, by decide +kernel⟩
abbrev s_Diagrams_top : Stmt := inClass (topS 5) 17
abbrev N_Diagrams_top : List Str := ["self", "conditions", "condition"]
theorem sc_Diagrams_top : FnScope N_Diagrams_top ["self", "conditions"] (defScope s_Diagrams_top) := ⟨rfl, rfl, rfl, by decide +kernel, rfl, by decide +kernel, by decide +kernel⟩
abbrev s_Diagrams_branches : Stmt := inClass (topS 5) 18
abbrev N_Diagrams_branches : List Str := ["self", "condition", "entry", "asked", "without", "there"]
theorem sc_Diagrams_branches : FnScope N_Diagrams_branches ["self", "condition", "entry"] (defScope s_Diagrams_branches) := ⟨rfl, rfl, rfl, by decide +kernel, rfl, by decide +kernel, by decide +kernel⟩
abbrev s_Diagrams_node_of : Stmt := inClass (topS 5) 19
abbrev N_Diagrams_node_of : List Str := ["self", "condition"]
theorem sc_Diagrams_node_of : FnScope N_Diagrams_node_of ["self", "condition"] (defScope s_Diagrams_node_of) := ⟨rfl, rfl, rfl, by decide +kernel, rfl, by decide +kernel, by decide +kernel⟩
abbrev s_Diagrams_node : Stmt := inClass (topS 5) 20
abbrev N_Diagrams_node : List Str := ["self", "entry", "without", "there", "made"]
theorem sc_Diagrams_node : FnScope N_Diagrams_node ["self", "entry", "without", "there"] (defScope s_Diagrams_node) := ⟨rfl, rfl, rfl, by decide +kernel, rfl, by decide +kernel, by decide +kernel⟩
abbrev s_Diagrams_combine : Stmt := inClass (topS 5) 21
abbrev N_Diagrams_combine : List Str := ["self", "condition", "first", "second", "asked", "entry", "without", "there", "first_without", "first_there", "second_without", "second_there"]
theorem sc_Diagrams_combine : FnScope N_Diagrams_combine ["self", "condition", "first", "second"] (defScope s_Diagrams_combine) := ⟨rfl, rfl, rfl, by decide +kernel, rfl, by decide +kernel, by decide +kernel⟩
abbrev s_cases : Stmt := topS 10
abbrev N_cases : List Str := ["store", "condition", "most_cases", "most_nodes", "found", "there", "missing", "_"]
theorem sc_cases : FnScope N_cases ["store", "condition", "most_cases", "most_nodes"] (defScope s_cases) := ⟨rfl, rfl, rfl, by decide +kernel, rfl, by decide +kernel, by decide +kernel⟩
abbrev s_Cover___init__ : Stmt := inClass (topS 11) 0
abbrev N_Cover___init__ : List Str := ["self", "store", "most_cases", "most_nodes"]
theorem sc_Cover___init__ : FnScope N_Cover___init__ ["self", "store", "most_cases", "most_nodes"] (defScope s_Cover___init__) := ⟨rfl, rfl, rfl, by decide +kernel, rfl, by decide +kernel, by decide +kernel⟩
abbrev s_Cover_cover : Stmt := inClass (topS 11) 1
abbrev N_Cover_cover : List Str := ["self", "low", "high", "store", "entry", "low_without", "low_there", "high_without", "high_there", "without", "there", "rest", "both", "found", "case"]
theorem sc_Cover_cover : FnScope N_Cover_cover ["self", "low", "high"] (defScope s_Cover_cover) := ⟨rfl, rfl, rfl, by decide +kernel, rfl, by decide +kernel, by decide +kernel⟩
abbrev s_Cover_left_over : Stmt := inClass (topS 11) 2
abbrev N_Cover_left_over : List Str := ["self", "low", "found", "applied", "_", "applies", "rest"]
theorem sc_Cover_left_over : FnScope N_Cover_left_over ["self", "low", "found"] (defScope s_Cover_left_over) := ⟨rfl, rfl, rfl, by decide +kernel, rfl, by decide +kernel, by decide +kernel⟩
abbrev s_Cover_but_not : Stmt := inClass (topS 11) 3
abbrev N_Cover_but_not : List Str := ["self", "first", "second"]
theorem sc_Cover_but_not : FnScope N_Cover_but_not ["self", "first", "second"] (defScope s_Cover_but_not) := ⟨rfl, rfl, rfl, by decide +kernel, rfl, by decide +kernel, by decide +kernel⟩
abbrev s_Cover_case_without : Stmt := inClass (topS 11) 4
abbrev N_Cover_case_without : List Str := ["self", "entry", "case", "there", "missing", "applies"]
theorem sc_Cover_case_without : FnScope N_Cover_case_without ["self", "entry", "case"] (defScope s_Cover_case_without) := ⟨rfl, rfl, rfl, by decide +kernel, rfl, by decide +kernel, by decide +kernel⟩
abbrev s_Cover_case_with : Stmt := inClass (topS 11) 5
abbrev N_Cover_case_with : List Str := ["self", "entry", "case", "there", "missing", "applies"]
theorem sc_Cover_case_with : FnScope N_Cover_case_with ["self", "entry", "case"] (defScope s_Cover_case_with) := ⟨rfl, rfl, rfl, by decide +kernel, rfl, by decide +kernel, by decide +kernel⟩
abbrev s_Cover_empty_case : Stmt := inClass (topS 11) 6
abbrev N_Cover_empty_case : List Str := ["self"]
theorem sc_Cover_empty_case : FnScope N_Cover_empty_case ["self"] (defScope s_Cover_empty_case) := ⟨rfl, rfl, rfl, by decide +kernel, rfl, by decide +kernel, by decide +kernel⟩
abbrev s_Cover_check_size : Stmt := inClass (topS 11) 7
abbrev N_Cover_check_size : List Str := ["self", "condition"]
theorem sc_Cover_check_size : FnScope N_Cover_check_size ["self", "condition"] (defScope s_Cover_check_size) := ⟨rfl, rfl, rfl, by decide +kernel, rfl, by decide +kernel, by decide +kernel⟩
abbrev s__law_draw : Stmt := topS 13
abbrev N__law_draw : List Str := ["script"]
theorem sc__law_draw : FnScope N__law_draw ["script"] (defScope s__law_draw) := ⟨rfl, rfl, rfl, by decide +kernel, rfl, by decide +kernel, by decide +kernel⟩
abbrev s__law_next : Stmt := topS 14
abbrev N__law_next : List Str := ["draw", "many", "found", "cell"]
theorem sc__law_next : FnScope N__law_next ["draw", "many"] (defScope s__law_next) := ⟨rfl, rfl, rfl, by decide +kernel, rfl, by decide +kernel, by decide +kernel⟩
abbrev s__law_same : Stmt := topS 15
abbrev N__law_same : List Str := ["actual", "due", "k"]
theorem sc__law_same : FnScope N__law_same ["actual", "due"] (defScope s__law_same) := ⟨rfl, rfl, rfl, by decide +kernel, rfl, by decide +kernel, by decide +kernel⟩
abbrev s__law_entries : Stmt := topS 16
abbrev N__law_entries : List Str := ["draw", "most", "entries", "last", "k"]
theorem sc__law_entries : FnScope N__law_entries ["draw", "most"] (defScope s__law_entries) := ⟨rfl, rfl, rfl, by decide +kernel, rfl, by decide +kernel, by decide +kernel⟩
abbrev s__law_tree : Stmt := topS 17
abbrev N__law_tree : List Str := ["draw", "entries", "depth", "form", "first"]
theorem sc__law_tree : FnScope N__law_tree ["draw", "entries", "depth"] (defScope s__law_tree) := ⟨rfl, rfl, rfl, by decide +kernel, rfl, by decide +kernel, by decide +kernel⟩
abbrev s__law_build : Stmt := topS 18
abbrev N__law_build : List Str := ["store", "tree", "first", "second"]
theorem sc__law_build : FnScope N__law_build ["store", "tree"] (defScope s__law_build) := ⟨rfl, rfl, rfl, by decide +kernel, rfl, by decide +kernel, by decide +kernel⟩
abbrev s__law_true : Stmt := topS 19
abbrev N__law_true : List Str := ["tree", "present", "first", "second"]
theorem sc__law_true : FnScope N__law_true ["tree", "present"] (defScope s__law_true) := ⟨rfl, rfl, rfl, by decide +kernel, rfl, by decide +kernel, by decide +kernel⟩
abbrev s__law_subsets : Stmt := topS 20
abbrev N__law_subsets : List Str := ["entries", "found", "entry", "part"]
theorem sc__law_subsets : FnScope N__law_subsets ["entries"] (defScope s__law_subsets) := ⟨rfl, rfl, rfl, by decide +kernel, rfl, by decide +kernel, by decide +kernel⟩
abbrev s__law_truth : Stmt := topS 21
abbrev N__law_truth : List Str := ["tree", "entries", "part"]
theorem sc__law_truth : FnScope N__law_truth ["tree", "entries"] (defScope s__law_truth) := ⟨rfl, rfl, rfl, by decide +kernel, rfl, by decide +kernel, by decide +kernel⟩
abbrev s__law_fixed : Stmt := topS 22
abbrev N__law_fixed : List Str := ["truth", "k", "there", "step", "j", "found", "at", "base"]
theorem sc__law_fixed : FnScope N__law_fixed ["truth", "k", "there"] (defScope s__law_fixed) := ⟨rfl, rfl, rfl, by decide +kernel, rfl, by decide +kernel, by decide +kernel⟩
abbrev s__law_top : Stmt := topS 23
abbrev N__law_top : List Str := ["truth", "count", "k"]
theorem sc__law_top : FnScope N__law_top ["truth", "count"] (defScope s__law_top) := ⟨rfl, rfl, rfl, by decide +kernel, rfl, by decide +kernel, by decide +kernel⟩
abbrev s__law_diagrams : Stmt := topS 24
abbrev s__law_both : Stmt := topS 25
abbrev N__law_both : List Str := ["first", "second", "k"]
theorem sc__law_both : FnScope N__law_both ["first", "second"] (defScope s__law_both) := ⟨rfl, rfl, rfl, by decide +kernel, rfl, by decide +kernel, by decide +kernel⟩
abbrev s__law_not : Stmt := topS 26
abbrev N__law_not : List Str := ["truth", "one"]
theorem sc__law_not : FnScope N__law_not ["truth"] (defScope s__law_not) := ⟨rfl, rfl, rfl, by decide +kernel, rfl, by decide +kernel, by decide +kernel⟩
abbrev s__law_applies : Stmt := topS 27
abbrev N__law_applies : List Str := ["case", "part", "there", "missing", "entry"]
theorem sc__law_applies : FnScope N__law_applies ["case", "part"] (defScope s__law_applies) := ⟨rfl, rfl, rfl, by decide +kernel, rfl, by decide +kernel, by decide +kernel⟩
abbrev s__law_some : Stmt := topS 28
abbrev N__law_some : List Str := ["found", "entries", "part", "case"]
theorem sc__law_some : FnScope N__law_some ["found", "entries"] (defScope s__law_some) := ⟨rfl, rfl, rfl, by decide +kernel, rfl, by decide +kernel, by decide +kernel⟩
abbrev s__law_cover : Stmt := topS 29
abbrev N__law_cover : List Str := ["low", "high", "entries", "tops", "k", "lows", "highs", "first", "second", "left", "right", "rest", "third", "entry", "found", "truth", "there", "missing", "top", "j"]
theorem sc__law_cover : FnScope N__law_cover ["low", "high", "entries"] (defScope s__law_cover) := ⟨rfl, rfl, rfl, by decide +kernel, rfl, by decide +kernel, by decide +kernel⟩
abbrev s_law : Stmt := topS 30
abbrev N_law : List Str := ["script", "draw", "entries", "tree", "store", "condition", "truth", "due", "found"]
theorem sc_law : FnScope N_law ["script"] (defScope s_law) := ⟨rfl, rfl, rfl, by decide +kernel, rfl, by decide +kernel, by decide +kernel⟩
/-! ### heaps and calls -/
theorem same_upd {H : Hp} {p : Addr} {o : HO} (h : H p = none) : Same H (upd H p o) := fun b x e => by
  rw [upd_ne (ne_of_none e h)]
  exact e
/-- what stood stands, but for the object at d -/
def Fd (d : Addr) (H H' : Hp) : Prop := ∀ b o, b ≠ d → H b = some o → H' b = some o
theorem Fd.refl (d : Addr) (H : Hp) : Fd d H H := fun _ _ _ e => e
theorem Fd.trans {d : Addr} {H H1 H2 : Hp} (a : Fd d H H1) (b : Fd d H1 H2) : Fd d H H2 := fun c o n e => b c o n (a c o n e)
theorem Fd.of {d : Addr} {H H' : Hp} (a : Same H H') : Fd d H H' := fun b o _ e => a b o e
theorem Fd.new {d : Addr} {H : Hp} {p : Addr} {o : HO} (h : H p = none) : Fd d H (upd H p o) := Fd.of (same_upd h)
theorem Fd.at {d : Addr} {H : Hp} {o : HO} : Fd d H (upd H d o) := fun b x n e => by
  rw [upd_ne n]
  exact e
/-- a def that may be called by its name -/
structure Cl (P : Program) (w : World) (K : PySem.W.Frag) (mg : Str → Option Value) (base : Heap) (k : Nat) (x : Str) (sp : Sp) : Prop where
  ex : ∃ (f : Addr) (fd : FuncData) (ps : List Str), FnOk P w K mg base CX0 k f fd ps sp ∧ mg x = some (.ref f) ∧ PySem.W.keepIn K (.ref f) = true ∧ Binds K fd ps []
section
variable {X : Cx} {k j : Nat} {x : Str} {sp : Sp} {p pos : Pos} {e : Expr} {es : List Expr} {t : TA}
theorem pe_u (c : Cl X.prog X.w X.K X.mg X.base k x sp) (hr : Room j X.A) (hk : k ≤ j) (hg : Gl X x) (ha : PA X (e :: es) t)
    (hdb : (x == ("__debug__" : Str)) = false := by decide) (he : starEach (e :: es) X.env = (false, eval e X.env) :: starEach es X.env := by rfl) (hpl : (backTo pos (starEach es X.env)).any (·.1) = false := by rfl) :
    PE X (.Call (.Name x p) (e :: es) [] pos) (tCall sp [] E0 t) := by
  obtain ⟨f, fd, ps, F, hm, kp, b⟩ := c.ex
  exact pe_call F (hr.mono hk) hg hm kp b .nil pass0 ha hdb he hpl
theorem pe_u0 (c : Cl X.prog X.w X.K X.mg X.base k x sp) (hr : Room j X.A) (hk : k ≤ j) (hg : Gl X x) (hdb : (x == ("__debug__" : Str)) = false := by decide) : PE X (.Call (.Name x p) [] [] pos) (tCall sp [] E0 tNil) := by
  obtain ⟨f, fd, ps, F, hm, kp, b⟩ := c.ex
  exact pe_call0 F (hr.mono hk) hg hm kp b .nil pass0 hdb
end
theorem FnOk.cl {P : Program} {w : World} {K : PySem.W.Frag} {mg : Str → Option Value} {base : Heap} {k : Nat} {x q : Str} {st : Stmt} {f : Addr} {fd : FuncData} {ps : List Str} {sp : Sp} (h : FnOk P w K mg base CX0 k f fd ps sp) (F : Fun K x q st f fd) (g : mg x = some (.ref f)) (b : Binds K fd ps []) : Cl P w K mg base k x sp := ⟨f, fd, ps, h, g, F.kp, b⟩
/-! ### rules with the written part named (within a comprehension) -/
section
variable {X : Cx} (K : PySem.W.Frag)
theorem ix_listK (h : X.K = K := by rfl) : IxR X (rIxL K) := by subst h; exact ix_list
theorem ix_tupK (h : X.K = K := by rfl) : IxR X (rIxT K) := by subst h; exact ix_tup
theorem ix_seqK (h : X.K = K := by rfl) : IxR X (rIx K) := by subst h; exact ix_seq
theorem len_seqK (h : X.K = K := by rfl) : CallR X (.builtin "len") (fun xs H Q => ∃ p ys, xs = [.ref p] ∧ (SqL K H p ys ∨ SqT K H p ys) ∧ Q (.int ys.length) H) := by subst h; exact call_len_seq
theorem isiK (h : X.K = K := by rfl) : CallR X (.builtin "isinstance") (rIsi K) := by subst h; exact call_isi
theorem isiTK (h : X.K = K := by rfl) : CallR X (.builtin "isinstance") (rIsiT K) := by subst h; exact call_isiT
theorem allK (hc : X.calm = true) (h : X.K = K := by rfl) : CallR X (.builtin "all") (rAll K) := by subst h; exact cr_all hc
theorem listK (h : X.K = K := by rfl) : CallR X (.type "list") (fun xs H Q => ∃ p ys, xs = [.ref p] ∧ (SqL K H p ys ∨ SqT K H p ys) ∧ ∀ l, H l = none → Q (.ref l) (upd H l (.lst ys))) := by subst h; exact call_list_of
theorem tupleK (h : X.K = K := by rfl) : CallR X (.type "tuple") (fun xs H Q => ∃ p ys, xs = [.ref p] ∧ ((SqL K H p ys ∧ ∀ l, H l = none → Q (.ref l) (upd H l (.tup ys))) ∨ (SqT K H p ys ∧ Q (.ref p) H))) := by subst h; exact call_tuple_of
theorem inK (h : X.K = K := by rfl) : OpR X (compareOp .In) (rIn K false) := by subst h; exact op_in_seq
theorem notInK (h : X.K = K := by rfl) : OpR X (compareOp .NotIn) (rIn K true) := by subst h; exact op_notIn_seq
theorem pe_bmK {T : String} {name : Str} {id : String} {r : V → List V → Hp → VK → Prop} {o e : Expr} {es : List Expr} {to : TE} {t : TA} {apos cpos : Pos} (pa : PlainAttrs T) (slot : Slot T name id) (hty : typeOf (.builtin id) = pure (.type "method_descriptor")) (hm : MtR X id r) (ho : PE X o to) (ha : PA X (e :: es) t) (hK : X.K = K := by rfl)
    (hbase : attributeBase o name X.env (eval o X.env) = eval o X.env := by rfl)
    (hfew : ((backTo cpos (starEach (e :: es) X.env)).all (fun x => !x.1) && (backToKw cpos (keywordEach [] X.env)).all (fun x => x.1.isSome)
      && decide ((e :: es).length + ([] : List Keyword).length + (if ([] : List Keyword).isEmpty then 0 else 1) < 30)) = true := by rfl)
    (hline : (apos.endLine == cpos.line) = true := by rfl) (hs : starEach (e :: es) X.env = (false, eval e X.env) :: starEach es X.env := by rfl) (hplain : (backTo cpos (starEach es X.env)).any (·.1) = false := by rfl) :
    PE X (.Call (.Attribute o name apos) (e :: es) [] cpos) (tBM K T r to t) := by subst hK; exact pe_bm pa slot hty hm ho ha hbase hfew hline hs hplain
theorem pt_truthK {a : Expr} {ta : TE} (ha : PE X a ta) (he : ∀ whole, isTrue a X.env whole = (do let v ← whole; standAt a.pos; holding [v] (truthy v))) (h : X.K = K := by rfl) : PT X a (fun σ H Q => ta σ H fun x H' => ∃ k, TruV K x H' k ∧ Q k H') := by subst h; exact pt_truth ha he
theorem eqDK (hu : X.A.units + 64 < cLine) (h : X.K = K := by rfl) : OpR X (compareOp .Eq) (rEqD K) := by subst h; exact op_eqD hu
theorem neDK (hu : X.A.units + 64 < cLine) (h : X.K = K := by rfl) : OpR X (compareOp .NotEq) (rNeD K) := by subst h; exact op_neD hu
end
/-- over the signs of a text -/
theorem for_strs {x : Str} {g : TG} {tb : TS} {D : Ends} {σ : L2.St} {H : Hp} (Pv : Nat → L2.St → Hp → Prop) (h0 : Pv 0 σ H)
    (hs : ∀ i c σ H, x.cps.toList[i]? = some c → Pv i σ H → g (.str ⟨#[c]⟩) σ H fun σ2 H2 => tb { D with nx := Pv (i + 1), ct := Pv (i + 1), bk := D.nx } σ2 H2) (hd : ∀ σ H, Pv x.cps.toList.length σ H → D.nx σ H) :
    ∃ W : Nat → Nat → L2.St → Hp → Prop, (∃ m, W 0 m σ H) ∧ ∀ i m σ H, W i m σ H →
      ((Its x).stop i H ∧ D.nx σ H) ∨ ((Its x).go i H ∧ ∃ N : L2.St → Hp → Prop, (∀ σ' H', N σ' H' → ∃ m', m' < m ∧ W (i + 1) m' σ' H') ∧ ∀ v H', (Its x).yld i H v H' → g v σ H' fun σ2 H2 => tb { D with nx := N, ct := N, bk := D.nx } σ2 H2) := by
  have es : x.cps.toList.length = x.cps.size := by simp
  refine ⟨fun i m σ H => m = x.cps.size - i ∧ i ≤ x.cps.size ∧ Pv i σ H, ⟨x.cps.size, by simp, Nat.zero_le _, h0⟩, ?_⟩
  rintro i m σ H ⟨rfl, hi, p⟩
  by_cases hlt : i < x.cps.size
  · refine .inr ⟨hlt, Pv (i + 1), fun σ' H' p' => ⟨x.cps.size - (i + 1), by omega, rfl, hlt, p'⟩, fun v H' y => ?_⟩
    obtain ⟨e, c, hc, rfl⟩ := y
    subst e
    exact hs i c σ _ (by rw [Array.getElem?_toList]; exact hc) p
  · have e : i = x.cps.size := by omega
    subst e
    exact .inl ⟨Nat.le_refl _, hd σ H (by rw [es]; exact p)⟩
theorem joinL0 : ∀ ps : List (List Nat), TL.joinL [] ps = ps.flatten
  | [] => rfl
  | [p] => by
    show p = p ++ []
    rw [List.append_nil]
  | p :: q :: r => by
    show p ++ ([] ++ TL.joinL [] (q :: r)) = p ++ (q :: r).flatten
    rw [joinL0 (q :: r), List.nil_append]
theorem join0 (ys : List Str) : Txt.join ⟨#[]⟩ ys = ⟨((ys.map TL.tl).flatten).toArray⟩ := by
  refine TL.ext_tl ?_
  rw [TL.join_eq, TL.tl_join]
  show TL.joinL [] _ = _
  rw [joinL0]
theorem flat_len : ∀ ys : List Str, ((ys.map TL.tl).flatten).length = (ys.map (·.length)).sum
  | [] => rfl
  | y :: ys => by
    rw [List.map_cons, List.flatten_cons, List.length_append, flat_len ys, List.map_cons, List.sum_cons]
    show y.cps.toList.length + _ = _
    rw [Array.length_toList]
    rfl
theorem S_len' (l : List Nat) : (⟨l.toArray⟩ : Str).length = l.length := by simp [Str.length]
theorem cut_to (l : List Nat) {o : Nat} (h : o ≤ l.length) : cutS ⟨l.toArray⟩ none (some (o : Int)) = ⟨(l.take o).toArray⟩ := by
  unfold cutS
  rw [HT.sIx_none, HT.sIx_nat, S_len', Nat.sub_zero, Nat.min_eq_left h]
  show (⟨((l.drop 0).take o).toArray⟩ : Str) = _
  rw [List.drop_zero]
theorem str1 (c : Nat) (d : Nat) : decide (V.str ⟨#[c]⟩ = V.str ⟨#[d]⟩) = decide (c = d) := by
  by_cases h : c = d
  · subst h
    rw [decide_eq_true rfl, decide_eq_true rfl]
  · rw [decide_eq_false h, decide_eq_false]
    intro e
    have e1 := V.str.inj e
    have e2 := Array.toList_inj.mpr (Str.mk.inj e1)
    exact h (by simpa using e2)
def tx (l : List Nat) : V := .str ⟨l.toArray⟩
/-- a comprehension's scope within another scope -/
def relS (scope sc : Scope) : Scope := { scope with names := scope.names.map fun (n, k) => if (k == .free && sc.kind == .function && sc.names.lookup n == some .cell) then (n, .cell) else (n, k) }
theorem anyK {X : Cx} (K : PySem.W.Frag) (hc : X.calm = true) (h : X.K = K := by rfl) : CallR X (.builtin "any") (rAny K) := by subst h; exact cr_any hc
theorem pi_listK {X : Cx} (K : PySem.W.Frag) {l tg : Expr} {tl : TE} (hl : PE X l tl) (h : X.K = K := by rfl) : PI X tg l (iList K tl) := by subst h; exact pi_list hl
theorem pi_tupK {X : Cx} (K : PySem.W.Frag) {l tg : Expr} {tl : TE} (hl : PE X l tl) (h : X.K = K := by rfl) : PI X tg l (iTup K tl) := by subst h; exact pi_tup hl

structure Mg (mg : Str → Option Value) : Prop where
  abs : mg "abs" = none
  all : mg "all" = none
  any : mg "any" = none
  bool : mg "bool" = none
  int : mg "int" = none
  isinstance : mg "isinstance" = none
  len : mg "len" = none
  list : mg "list" = none
  min : mg "min" = none
  range : mg "range" = none
  reversed : mg "reversed" = none
  str : mg "str" = none
  tuple : mg "tuple" = none
/-! ### the law's draws: a list of the script's copy, a place in it, what is left of a great number, a seed -/
def Dr (H : Hp) (d c : Addr) : Prop := c ≠ d ∧ ∃ (ns : List Int) (pos rest seed : Int), H d = some (.lst [.ref c, .int pos, .int rest, .int seed]) ∧ H c = some (.lst (ns.map V.int)) ∧ 0 ≤ pos ∧ 0 ≤ rest ∧ 0 ≤ seed ∧ seed < 2147483647
theorem Dr.ext {H H' : Hp} {d c : Addr} (h : Dr H d c) (e : Same H H') : Dr H' d c := by
  obtain ⟨n, ns, pos, rest, seed, h1, h2, r⟩ := h
  exact ⟨n, ns, pos, rest, seed, e _ _ h1, e _ _ h2, r⟩
theorem Dr.upd {H : Hp} {d c p : Addr} {o : HO} (h : Dr H d c) (n1 : p ≠ d) (n2 : p ≠ c) : Dr (upd H p o) d c := by
  obtain ⟨n, ns, pos, rest, seed, h1, h2, r⟩ := h
  exact ⟨n, ns, pos, rest, seed, by rw [upd_ne n1.symm]; exact h1, by rw [upd_ne n2.symm]; exact h2, r⟩
theorem Dr.nd {H : Hp} {d c p : Addr} (h : Dr H d c) (n : H p = none) : p ≠ d := by
  obtain ⟨_, ns, pos, rest, seed, h1, _⟩ := h
  exact (ne_of_none h1 n).symm
theorem Dr.nc {H : Hp} {d c p : Addr} (h : Dr H d c) (n : H p = none) : p ≠ c := by
  obtain ⟨_, ns, pos, rest, seed, _, h2, _⟩ := h
  exact (ne_of_none h2 n).symm
theorem Dr.lst {H : Hp} {d c : Addr} (h : Dr H d c) : ∃ zs, H d = some (.lst zs) := by
  obtain ⟨_, ns, pos, rest, seed, h1, _⟩ := h
  exact ⟨_, h1⟩
theorem Dr.lift {H H' : Hp} {d c d' c' : Addr} (_h : Dr H d c) (h' : Dr H' d' c') : Dr H' d' c' := h'
def sp_draw (K : PySem.W.Frag) : Sp := fun vs H Q _ => ∃ (a : Addr) (ns : List Int), vs = [.ref a] ∧ SqL K H a (ns.map V.int) ∧ ∀ H' d c, Same H H' → H d = none → Dr H' d c → Q (.ref d) H'
/-- a draw: some number below many -/
def sp_next : Sp := fun vs H Q _ => ∃ (d c : Addr) (many : Int), vs = [.ref d, .int many] ∧ Dr H d c ∧ 1 ≤ many ∧ many < 2 ^ 64 ∧ ∀ H' r, Fd d H H' → (∀ p, p ≠ d → H' p = H p) → Dr H' d c → 0 ≤ r → r < many → Q (.int r) H'
section
variable {P : Program} {w : World} {K : PySem.W.Frag} {mg : Str → Option Value} {base : Heap}
theorem ok_draw {f : Addr} {fd : FuncData} (F : Fun K "_law_draw" "_law_draw" s__law_draw f fd) (M : Mg mg) : FnOk P w K mg base CX0 1 f fd ["script"] (sp_draw K) := by
  refine F.ok sc__law_draw (fun vs H Q E h => ?_) (fun cdv A outer s H vs Q E hr h => ?_)
  · obtain ⟨a, ns, rfl, _⟩ := h
    rfl
  · obtain ⟨a, ns, rfl, hS, q⟩ := h
    refine ⟨_, (pss_one (ps_ret (pe_lst (pa_cons (pe_callTy (listK K) (by rfl) M.list (by decide +kernel) (pa_cons (pv 0) pa_nil)) (pa_cons pe_int (pa_cons pe_int (pa_cons pe_int pa_nil))))))), ?_⟩
    refine ⟨_, rfl, a, _, rfl, .inl hS, fun c nc => ?_⟩
    refine ⟨by show 4 ≤ sizeLine; decide, fun d nd => ?_⟩
    have hc : (upd H c (.lst (ns.map V.int))) c = some (.lst (ns.map V.int)) := upd_same
    have ncd : c ≠ d := ne_of_none hc nd
    have s1 := (same_upd nc (o := .lst (ns.map V.int))).trans (same_upd nd (o := .lst [.ref c, .int 0, .int 0, .int 17]))
    refine q _ d c s1 ((same_upd nc).free nd) ⟨ncd, ns, 0, 0, 17, upd_same, ?_, by decide, by decide, by decide, by decide⟩
    rw [upd_ne ncd]
    exact hc
theorem next_aux {H : Hp} {d c : Addr} {xs' : List V} {pos rest seed : Int} {ns : List Int} (hn : c ≠ d) (h2 : H c = some (.lst (ns.map V.int))) (hx : xs' = [.ref c, .int pos, .int rest, .int seed]) (h0 : 0 ≤ pos) (h1 : 0 ≤ rest) (h3 : 0 ≤ seed) (h4 : seed < 2147483647) : Dr (upd H d (.lst xs')) d c := by
  subst hx
  refine ⟨hn, ns, pos, rest, seed, upd_same, ?_, h0, h1, h3, h4⟩
  rw [upd_ne hn]
  exact h2
theorem ok_next {f : Addr} {fd : FuncData} (F : Fun K "_law_next" "_law_next" s__law_next f fd) (M : Mg mg) : FnOk P w K mg base CX0 1 f fd ["draw", "many"] sp_next := by
  refine F.ok sc__law_next (fun vs H Q E h => ?_) (fun cdv A outer s H vs Q E hr h => ?_)
  · obtain ⟨d, c, many, rfl, _⟩ := h
    rfl
  · obtain ⟨d, c, many, rfl, ⟨ncd, ns, pos, rest, seed, h1, h2, h0, h3, h4, h5⟩, hm1, hm2, q⟩ := h
    have hdv : ∀ x : Int, CDivW x many := fun x => wide_div (b := 64) (by omega) (by omega) (by decide) (by decide)
    have hcd : d ≠ c := ncd.symm
    have L0 : SqL K H d [.ref c, .int pos, .int rest, .int seed] := .of h1
    have at0 : ∀ (a b e g : V), atI [a, b, e, g] (0 : Int) = some a := fun a b e g => atI_nat (j := 0) rfl
    have at1 : ∀ (a b e g : V), atI [a, b, e, g] (1 : Int) = some b := fun a b e g => atI_nat (j := 1) rfl
    have at2 : ∀ (a b e g : V), atI [a, b, e, g] (2 : Int) = some e := fun a b e g => atI_nat (j := 2) rfl
    have at3 : ∀ (a b e g : V), atI [a, b, e, g] (3 : Int) = some g := fun a b e g => atI_nat (j := 3) rfl
    have fr : ∀ (H0 : Hp) (o : HO), (∀ p, p ≠ d → H0 p = H p) → (∀ p, p ≠ d → (upd H0 d o) p = H p) := fun H0 o e p n => by rw [upd_ne n]; exact e p n
    have fF : ∀ (H0 : Hp), (∀ p, p ≠ d → H0 p = H p) → Fd d H H0 := fun H0 e b o n h => by rw [e b n]; exact h
    -- the last row's value
    have last : ∀ (seed' : Int), 0 ≤ seed' → seed' < 2147483647 → ∀ H0 : Hp, (∀ p, p ≠ d → H0 p = H p) → (∃ pos rest, H0 d = some (.lst [.ref c, .int pos, .int rest, .int seed']) ∧ 0 ≤ pos ∧ 0 ≤ rest) → Q (.int ((seed' * 69621 % 2147483629 / 7) % many)) H0 := by
      intro seed' g0 g1 H0 e ⟨pos', rest', g2, g3, g4⟩
      exact q H0 _ (fF _ e) e ⟨ncd, ns, pos', rest', seed', g2, by rw [e c ncd]; exact h2, g3, g4, g0, g1⟩ (Int.emod_nonneg _ (by omega)) (Int.emod_lt_of_pos _ (by omega))
    refine ⟨_, (pss_cons (ps_if (pt_cmpR op_gt (pe_ix (ix_listK K) (pv 0) pe_int (fun _ _ => rfl)) pe_int (nomark _)) (pss_cons (ps_set (i := 2) sc__law_next.nd rfl (.inl rfl) (pe_op op_mod (pe_callTy call_int1 (by rfl) M.int (by decide +kernel) (pa_cons (pe_ix (ix_listK K) (pv 0) pe_int (fun _ _ => rfl)) pa_nil)) (pv 1)))
      (pss_cons (ps_asg (pe_op op_fdivW (pe_ix (ix_listK K) (pv 0) pe_int (fun _ _ => rfl)) (pv 1)) (pg_sub (pv 0) pe_int set_list))
      (pss_one (ps_ret (pv 2))))) pss_nil)
      (pss_cons (ps_if (pt_cmpR op_lt (pe_ix (ix_listK K) (pv 0) pe_int (fun _ _ => rfl)) (pe_callB (len_seqK K) (by rfl) M.len PySem.boot_len (pa_cons (pe_ix (ix_listK K) (pv 0) pe_int (fun _ _ => rfl)) pa_nil)) (nomark _)) (pss_cons (ps_set (i := 3) sc__law_next.nd rfl (.inl rfl) (pe_callB call_abs (by rfl) M.abs (by decide +kernel) (pa_cons (pe_ix (ix_listK K) (pe_ix (ix_listK K) (pv 0) pe_int (fun _ _ => rfl)) (pe_ix (ix_listK K) (pv 0) pe_int (fun _ _ => rfl)) (fun _ _ => rfl)) pa_nil)))
      (pss_cons (ps_asg (pe_op op_add (pe_ix (ix_listK K) (pv 0) pe_int (fun _ _ => rfl)) pe_int) (pg_sub (pv 0) pe_int set_list))
      (pss_cons (ps_if (pt_cmpR op_ge (pv 3) (pe_op op_pow pe_int pe_int) (nomark _)) (pss_cons (ps_asg (pe_op op_fdivW (pv 3) (pv 1)) (pg_sub (pv 0) pe_int set_list))
      (pss_one (ps_ret (pe_op op_mod (pe_callTy call_int1 (by rfl) M.int (by decide +kernel) (pa_cons (pv 3) pa_nil)) (pv 1))))) pss_nil)
      (pss_one (ps_asg (pe_op op_mod (pe_callTy call_int1 (by rfl) M.int (by decide +kernel) (pa_cons (pe_op op_add (pe_op op_add (pe_op op_mul (pe_ix (ix_listK K) (pv 0) pe_int (fun _ _ => rfl)) pe_int) (pv 3)) pe_int) pa_nil)) pe_int) (pg_sub (pv 0) pe_int set_list)))))) (pss_one (ps_asg (pe_op op_mod (pe_callTy call_int1 (by rfl) M.int (by decide +kernel) (pa_cons (pe_op op_add (pe_op op_mul (pe_ix (ix_listK K) (pv 0) pe_int (fun _ _ => rfl)) pe_int) pe_int) pa_nil)) pe_int) (pg_sub (pv 0) pe_int set_list))))
      (pss_one (ps_ret (pe_op op_mod (pe_op op_fdivW (pe_callTy call_int1 (by rfl) M.int (by decide +kernel) (pa_cons (pe_op op_mod (pe_op op_mul (pe_ix (ix_listK K) (pv 0) pe_int (fun _ _ => rfl)) pe_int) pe_int) pa_nil)) pe_int) (pv 1)))))), ?_⟩
    refine ⟨_, rfl, d, _, 2, .int rest, rfl, rfl, L0, at2 .., ?_⟩
    refine ⟨_, _, rfl, rfl, _, rfl, ite2 (fun e => ?_) (fun e => ?_)⟩
    · -- draw[2] > 0
      have hr0 : 0 < rest := of_decide_eq_true e
      refine ⟨_, rfl, d, _, 2, .int rest, rfl, rfl, L0, at2 .., .inl ⟨_, rfl, ?_⟩⟩
      refine ⟨_, rfl, _, _, rfl, rfl, by omega, ?_⟩
      refine ⟨_, rfl, d, _, 2, .int rest, rfl, rfl, L0, at2 .., ?_⟩
      refine ⟨_, rfl, _, _, rfl, rfl, hdv _, ?_⟩
      refine ⟨_, rfl, d, _, 2, 2, rfl, rfl, h1, rfl, ?_⟩
      refine ⟨_, rfl, ?_⟩
      have e1 := fr H (.lst ([.ref c, .int pos, .int rest, .int seed].set 2 (.int (rest / many)))) (fun _ _ => rfl)
      exact q _ _ (fF _ e1) e1 (next_aux ncd h2 rfl h0 (Int.ediv_nonneg h3 (by omega)) h4 h5) (Int.emod_nonneg _ (by omega)) (Int.emod_lt_of_pos _ (by omega))
    · refine ⟨_, rfl, d, _, 1, .int pos, rfl, rfl, L0, at1 .., ?_⟩
      refine ⟨_, rfl, d, _, 0, .ref c, rfl, rfl, L0, at0 .., ?_⟩
      refine ⟨c, _, rfl, .inl (.of h2), ?_⟩
      refine ⟨_, _, rfl, rfl, _, rfl, ite2 (fun e2 => ?_) (fun e2 => ?_)⟩
      · have hp : pos < ((ns.map V.int).length : Int) := of_decide_eq_true e2
        rw [List.length_map] at hp
        obtain ⟨i, rfl⟩ := Int.eq_ofNat_of_zero_le h0
        have hi : i < ns.length := by omega
        have hat : atI (ns.map V.int) ((i : Nat) : Int) = some (.int ns[i]) := atI_nat (by rw [List.getElem?_map, List.getElem?_eq_getElem hi]; rfl)
        -- cell = abs(..)
        refine ⟨_, rfl, d, _, 0, .ref c, rfl, rfl, L0, at0 .., ?_⟩
        refine ⟨_, rfl, d, _, 1, _, rfl, rfl, L0, at1 .., ?_⟩
        refine ⟨c, _, _, _, rfl, rfl, .of h2, hat, ?_⟩
        refine ⟨_, rfl, ?_⟩
        have hcell : (0 : Int) ≤ (if ns[i] < 0 then -ns[i] else ns[i]) := by split <;> omega
        generalize (if ns[i] < 0 then -ns[i] else ns[i]) = cell at hcell
        -- draw[1] = draw[1] + 1
        refine ⟨_, rfl, d, _, 1, _, rfl, rfl, L0, at1 .., ?_⟩
        refine ⟨_, _, rfl, rfl, ?_⟩
        refine ⟨_, rfl, d, _, 1, 1, rfl, rfl, h1, rfl, ?_⟩
        have hd1 : (upd H d (.lst ([.ref c, .int ((i : Nat) : Int), .int rest, .int seed].set 1 (.int ((i : Nat) + 1))))) d = some (.lst [.ref c, .int ((i : Nat) + 1), .int rest, .int seed]) := upd_same
        have e1 := fr H (.lst ([.ref c, .int ((i : Nat) : Int), .int rest, .int seed].set 1 (.int ((i : Nat) + 1)))) (fun _ _ => rfl)
        generalize upd H d (.lst ([.ref c, .int ((i : Nat) : Int), .int rest, .int seed].set 1 (.int ((i : Nat) + 1)))) = H1 at hd1 e1
        have h2' : H1 c = some (.lst (ns.map V.int)) := by rw [e1 c ncd]; exact h2
        -- cell >= 10 ** 18
        refine ⟨_, rfl, _, _, rfl, rfl, ⟨by decide, by decide, by decide⟩, ?_⟩
        refine ⟨_, _, rfl, rfl, _, rfl, ite2 (fun e3 => ?_) (fun e3 => ?_)⟩
        · refine ⟨_, rfl, _, rfl, _, _, rfl, rfl, hdv _, ?_⟩
          refine ⟨_, rfl, d, _, 2, 2, rfl, rfl, hd1, rfl, ?_⟩
          refine ⟨_, rfl, .inl ⟨_, rfl, ?_⟩⟩
          refine ⟨_, rfl, _, _, rfl, rfl, by omega, ?_⟩
          have e5 := fr H1 (.lst ([.ref c, .int ((i : Nat) + 1), .int rest, .int seed].set 2 (.int (cell / many)))) e1
          exact q _ _ (fF _ e5) e5 (next_aux ncd h2' rfl (by omega) (Int.ediv_nonneg hcell (by omega)) h4 h5) (Int.emod_nonneg _ (by omega)) (Int.emod_lt_of_pos _ (by omega))
        · -- draw[3] = ..
          refine ⟨_, rfl, d, _, 3, .int seed, rfl, rfl, .of hd1, at3 .., ?_⟩
          refine ⟨_, _, rfl, rfl, .inl ⟨by omega, by omega⟩, ?_⟩
          refine ⟨_, rfl, _, _, rfl, rfl, ?_⟩
          refine ⟨_, _, rfl, rfl, .inl ⟨_, rfl, ?_⟩⟩
          refine ⟨_, _, rfl, rfl, by show (0 : Int) < 2147483647; decide, ?_⟩
          refine ⟨_, rfl, d, _, 3, 3, rfl, rfl, hd1, rfl, ?_⟩
          have hs0 : 0 ≤ (seed * 48271 + cell + 11) % 2147483647 := Int.emod_nonneg _ (by decide)
          have hs1 : (seed * 48271 + cell + 11) % 2147483647 < 2147483647 := Int.emod_lt_of_pos _ (by decide)
          have e5 := fr H1 (.lst ([.ref c, .int ((i : Nat) + 1), .int rest, .int seed].set 3 (.int ((seed * 48271 + cell + 11) % 2147483647)))) e1
          have hd5 : (upd H1 d (.lst ([.ref c, .int ((i : Nat) + 1), .int rest, .int seed].set 3 (.int ((seed * 48271 + cell + 11) % 2147483647))))) d = some (.lst [.ref c, .int ((i : Nat) + 1), .int rest, .int ((seed * 48271 + cell + 11) % 2147483647)]) := upd_same
          dsimp only
          generalize (seed * 48271 + cell + 11) % 2147483647 = seed' at hs0 hs1 e5 hd5 ⊢
          refine ⟨_, rfl, d, _, 3, .int seed', rfl, rfl, .of hd5, at3 .., ?_⟩
          refine ⟨_, _, rfl, rfl, .inl ⟨by omega, by omega⟩, ?_⟩
          refine ⟨_, _, rfl, rfl, by show (0 : Int) < 2147483629; decide, .inl ⟨_, rfl, ?_⟩⟩
          refine ⟨_, _, rfl, rfl, ⟨by decide, by decide⟩, ?_⟩
          refine ⟨_, rfl, _, _, rfl, rfl, by omega, ?_⟩
          exact last seed' hs0 hs1 _ e5 ⟨_, _, hd5, by omega, h3⟩
      · -- draw[3] = ..
        refine ⟨_, rfl, d, _, 3, .int seed, rfl, rfl, L0, at3 .., ?_⟩
        refine ⟨_, _, rfl, rfl, .inl ⟨by omega, by omega⟩, ?_⟩
        refine ⟨_, _, rfl, rfl, .inl ⟨_, rfl, ?_⟩⟩
        refine ⟨_, _, rfl, rfl, by show (0 : Int) < 2147483647; decide, ?_⟩
        refine ⟨_, rfl, d, _, 3, 3, rfl, rfl, h1, rfl, ?_⟩
        have hs0 : 0 ≤ (seed * 48271 + 12345) % 2147483647 := Int.emod_nonneg _ (by decide)
        have hs1 : (seed * 48271 + 12345) % 2147483647 < 2147483647 := Int.emod_lt_of_pos _ (by decide)
        have e5 := fr H (.lst ([.ref c, .int pos, .int rest, .int seed].set 3 (.int ((seed * 48271 + 12345) % 2147483647)))) (fun _ _ => rfl)
        have hd5 : (upd H d (.lst ([.ref c, .int pos, .int rest, .int seed].set 3 (.int ((seed * 48271 + 12345) % 2147483647))))) d = some (.lst [.ref c, .int pos, .int rest, .int ((seed * 48271 + 12345) % 2147483647)]) := upd_same
        dsimp only
        generalize (seed * 48271 + 12345) % 2147483647 = seed' at hs0 hs1 e5 hd5 ⊢
        refine ⟨_, rfl, d, _, 3, .int seed', rfl, rfl, .of hd5, at3 .., ?_⟩
        refine ⟨_, _, rfl, rfl, .inl ⟨by omega, by omega⟩, ?_⟩
        refine ⟨_, _, rfl, rfl, by show (0 : Int) < 2147483629; decide, .inl ⟨_, rfl, ?_⟩⟩
        refine ⟨_, _, rfl, rfl, ⟨by decide, by decide⟩, ?_⟩
        refine ⟨_, rfl, _, _, rfl, rfl, by omega, ?_⟩
        exact last seed' hs0 hs1 _ e5 ⟨_, _, hd5, h0, h3⟩
end

/-! ### data in the heap -/
theorem SqT.ext {K : PySem.W.Frag} {H H' : Hp} {a : Addr} {xs : List V} (e : Same H H') (h : SqT K H a xs) : SqT K H' a xs := by
  rcases h with (h | ⟨o, h⟩) | h
  · exact .inl (.inl (e _ _ h))
  · exact .inl (.inr ⟨o, e _ _ h⟩)
  · exact .inr h
mutual
theorem Dp.ext {K : PySem.W.Frag} {H H' : Hp} (e : Same H H') : ∀ (d : PyData) (v : V), Dp K H v d → Dp K H' v d
  | .none, _, h => by cases h; exact .non
  | .bool b, _, h => by cases h; exact .bl b
  | .int i, _, h => by cases h; exact .int i
  | .str x, _, h => by cases h; exact .str x
  | .list ds, _, h => by
    cases h with
    | lst hs ha => exact .lst (e.seq hs) (DpAll.ext e ds _ ha)
  | .tuple ds, _, h => by
    cases h with
    | tup hs ha => exact .tup (SqT.ext e hs) (DpAll.ext e ds _ ha)
  | .dict _, _, h => by cases h
theorem DpAll.ext {K : PySem.W.Frag} {H H' : Hp} (e : Same H H') : ∀ (ds : List PyData) (vs : List V), DpAll K H vs ds → DpAll K H' vs ds
  | [], _, h => by cases h; exact .nil
  | d :: ds, _, h => by
    cases h with
    | cons h1 h2 => exact .cons (Dp.ext e d _ h1) (DpAll.ext e ds _ h2)
end
theorem DpAll.len {K : PySem.W.Frag} {H : Hp} : ∀ {ds : List PyData} {vs : List V}, DpAll K H vs ds → vs.length = ds.length
  | [], _, h => by cases h; rfl
  | d :: ds, _, h => by
    cases h with
    | cons h1 h2 => exact congrArg (· + 1) (DpAll.len h2)
theorem DpAll.get {K : PySem.W.Frag} {H : Hp} : ∀ {ds : List PyData} {vs : List V} {i : Nat} {d : PyData}, DpAll K H vs ds → ds[i]? = some d → ∃ v, vs[i]? = some v ∧ Dp K H v d
  | [], _, _, _, _, e => by simp at e
  | x :: ds, _, 0, d, h, e => by
    cases h with
    | cons h1 h2 =>
      have e1 : x = d := Option.some.inj e
      subst e1
      exact ⟨_, rfl, h1⟩
  | x :: ds, _, i + 1, d, h, e => by
    cases h with
    | cons h1 h2 =>
      obtain ⟨v, hv, hd⟩ := DpAll.get (i := i) h2 (by simpa using e)
      exact ⟨v, by simpa using hv, hd⟩
theorem tyL {K : PySem.W.Frag} {H : Hp} {a : Addr} {xs : List V} (h : SqL K H a xs) : TyX K H (.ref a) (.type "list") := by
  rcases h with (h | ⟨o, h⟩) | ⟨o, its, n, h, c, _⟩
  · exact .base (.lst h)
  · exact .base (.frz h)
  · exact .kList h c
theorem tyT {K : PySem.W.Frag} {H : Hp} {a : Addr} {xs : List V} (h : SqT K H a xs) : TyX K H (.ref a) (.type "tuple") := by
  rcases h with (h | ⟨o, h⟩) | ⟨o, its, n, h, c, _⟩
  · exact .base (.tup h)
  · exact .fTuple h
  · exact .kTuple h c
mutual
/-- no list within -/
def tupOnly : PyData → Bool
  | .list _ => false
  | .dict _ => false
  | .tuple ds => tupOnlys ds
  | _ => true
def tupOnlys : List PyData → Bool
  | [] => true
  | d :: ds => tupOnly d && tupOnlys ds
end
mutual
theorem Dp.away {K : PySem.W.Frag} {H : Hp} {D : Addr} {zs : List V} {o : HO} (hD : H D = some (.lst zs)) : ∀ (d : PyData) (v : V), tupOnly d = true → Dp K H v d → Dp K (upd H D o) v d
  | .none, _, _, h => by cases h; exact .non
  | .bool b, _, _, h => by cases h; exact .bl b
  | .int i, _, _, h => by cases h; exact .int i
  | .str x, _, _, h => by cases h; exact .str x
  | .list ds, _, e, _ => by unfold tupOnly at e; cases e
  | .tuple ds, _, e, h => by
    unfold tupOnly at e
    cases h with
    | @tup a _ _ hs ha =>
      refine .tup ?_ (DpAll.away hD ds _ e ha)
      rcases hs with (hs | ⟨o', hs⟩) | hs
      · exact .inl (.inl (by rw [upd_ne (ne_of hs hD (fun z => nomatch z))]; exact hs))
      · exact .inl (.inr ⟨o', by rw [upd_ne (ne_of hs hD (fun z => nomatch z))]; exact hs⟩)
      · exact .inr hs
  | .dict _, _, _, h => by cases h
theorem DpAll.away {K : PySem.W.Frag} {H : Hp} {D : Addr} {zs : List V} {o : HO} (hD : H D = some (.lst zs)) : ∀ (ds : List PyData) (vs : List V), tupOnlys ds = true → DpAll K H vs ds → DpAll K (upd H D o) vs ds
  | [], _, _, h => by cases h; exact .nil
  | d :: ds, _, e, h => by
    unfold tupOnlys at e
    rw [Bool.and_eq_true] at e
    cases h with
    | cons h1 h2 => exact .cons (Dp.away hD d _ e.1 h1) (DpAll.away hD ds _ e.2 h2)
end
theorem DpAll.snoc {K : PySem.W.Frag} {H : Hp} : ∀ {ds : List PyData} {xs : List V} {v : V} {d : PyData}, DpAll K H xs ds → Dp K H v d → DpAll K H (xs ++ [v]) (ds ++ [d])
  | [], _, _, _, h, h2 => by cases h; exact .cons h2 .nil
  | _ :: ds, _, _, _, h, h2 => by
    cases h with
    | cons a b => exact .cons a (DpAll.snoc b h2)
theorem at_0 {α : Type} {xs : List α} {i : Nat} {v : α} (h : xs[i]? = some v) : atI xs (0 + (i : Int)) = some v := by
  rw [Int.zero_add]
  exact atI_nat h
mutual
/-- what is made of tuples stands when another list is changed -/
theorem Dp.fd {K : PySem.W.Frag} {H H' : Hp} {D : Addr} (hD : ∃ zs, H D = some (.lst zs)) (e : Fd D H H') : ∀ (d : PyData) (v : V), tupOnly d = true → Dp K H v d → Dp K H' v d
  | .none, _, _, h => by cases h; exact .non
  | .bool b, _, _, h => by cases h; exact .bl b
  | .int i, _, _, h => by cases h; exact .int i
  | .str x, _, _, h => by cases h; exact .str x
  | .list ds, _, e, _ => by unfold tupOnly at e; cases e
  | .tuple ds, _, e', h => by
    unfold tupOnly at e'
    obtain ⟨zs, hz⟩ := hD
    cases h with
    | @tup a _ _ hs ha =>
      refine .tup ?_ (DpAll.fd ⟨zs, hz⟩ e ds _ e' ha)
      rcases hs with (hs | ⟨o', hs⟩) | hs
      · exact .inl (.inl (e _ _ (ne_of hs hz (fun z => nomatch z)) hs))
      · exact .inl (.inr ⟨o', e _ _ (ne_of hs hz (fun z => nomatch z)) hs⟩)
      · exact .inr hs
  | .dict _, _, _, h => by cases h
theorem DpAll.fd {K : PySem.W.Frag} {H H' : Hp} {D : Addr} (hD : ∃ zs, H D = some (.lst zs)) (e : Fd D H H') : ∀ (ds : List PyData) (vs : List V), tupOnlys ds = true → DpAll K H vs ds → DpAll K H' vs ds
  | [], _, _, h => by cases h; exact .nil
  | d :: ds, _, e', h => by
    unfold tupOnlys at e'
    rw [Bool.and_eq_true] at e'
    cases h with
    | cons h1 h2 => exact .cons (Dp.fd hD e d _ e'.1 h1) (DpAll.fd hD e ds _ e'.2 h2)
end

/-! ### diagrams as trees -/
inductive Bd where
  | lf (b : Bool)
  | nd (e : Int) (w t : Bd)
deriving DecidableEq
def Bd.ev : Bd → (Int → Bool) → Bool
  | .lf b, _ => b
  | .nd e w t, r => if r e = true then t.ev r else w.ev r
/-- its questions ascend, they are all of the list; both sides of a node differ -/
inductive Wf : List Int → Bd → Prop
  | lf {es b} : Wf es (.lf b)
  | here {x es w t} : Wf es w → Wf es t → w ≠ t → Wf (x :: es) (.nd x w t)
  | skip {x es a} : Wf es a → Wf (x :: es) a
def setR (r : Int → Bool) (x : Int) (b : Bool) : Int → Bool := fun y => if y = x then b else r y
theorem setR_same (r : Int → Bool) (x : Int) (b : Bool) : setR r x b x = b := if_pos rfl
theorem setR_ne {r : Int → Bool} {x y : Int} {b : Bool} (h : y ≠ x) : setR r x b y = r y := if_neg h
theorem Wf.away {es : List Int} {a : Bd} (h : Wf es a) : ∀ {x : Int} {b : Bool} {r : Int → Bool}, x ∉ es → a.ev (setR r x b) = a.ev r := by
  induction h with
  | lf => intros; rfl
  | @here y es w t _ _ _ iw it =>
    intro x b r hx
    rw [List.mem_cons, not_or] at hx
    show (if setR r x b y = true then t.ev (setR r x b) else w.ev (setR r x b)) = if r y = true then t.ev r else w.ev r
    rw [setR_ne (Ne.symm hx.1), iw hx.2, it hx.2]
  | @skip y es a _ ih =>
    intro x b r hx
    rw [List.mem_cons, not_or] at hx
    exact ih hx.2
/-- both sides at the question x, which no other one comes ahead of -/
def Bd.cw (x : Int) : Bd → Bd
  | .nd e w t => if e = x then w else .nd e w t
  | a => a
def Bd.ct (x : Int) : Bd → Bd
  | .nd e w t => if e = x then t else .nd e w t
  | a => a
theorem Wf.none_of {es : List Int} {x : Int} {w t : Bd} (h : Wf es (.nd x w t)) : x ∈ es := by
  generalize e : Bd.nd x w t = a at h
  induction h with
  | lf => cases e
  | here _ _ _ => cases e; exact List.mem_cons_self
  | skip _ ih => exact List.mem_cons_of_mem _ (ih e)
theorem Wf.cw {x : Int} {es : List Int} {a : Bd} (hx : x ∉ es) (h : Wf (x :: es) a) : Wf es (a.cw x) ∧ ∀ r, (a.cw x).ev r = a.ev (setR r x false) := by
  cases h with
  | lf => exact ⟨.lf, fun _ => rfl⟩
  | @here _ _ w t hw ht hn =>
    have e1 : (Bd.nd x w t).cw x = w := if_pos rfl
    rw [e1]
    refine ⟨hw, fun r => ?_⟩
    show _ = if setR r x false x = true then _ else _
    rw [setR_same, if_neg Bool.false_ne_true, hw.away hx]
  | skip h =>
    have e : a.cw x = a := by
      cases a with
      | lf b => rfl
      | nd y w t =>
        have hy := h.none_of
        exact if_neg (fun (z : y = x) => hx (z ▸ hy))
    rw [e]
    exact ⟨h, fun r => (h.away hx).symm⟩
theorem Wf.ct {x : Int} {es : List Int} {a : Bd} (hx : x ∉ es) (h : Wf (x :: es) a) : Wf es (a.ct x) ∧ ∀ r, (a.ct x).ev r = a.ev (setR r x true) := by
  cases h with
  | lf => exact ⟨.lf, fun _ => rfl⟩
  | @here _ _ w t hw ht hn =>
    have e1 : (Bd.nd x w t).ct x = t := if_pos rfl
    rw [e1]
    refine ⟨ht, fun r => ?_⟩
    show _ = if setR r x true x = true then _ else _
    rw [setR_same, if_pos rfl, ht.away hx]
  | skip h =>
    have e : a.ct x = a := by
      cases a with
      | lf b => rfl
      | nd y w t =>
        have hy := h.none_of
        exact if_neg (fun (z : y = x) => hx (z ▸ hy))
    rw [e]
    exact ⟨h, fun r => (h.away hx).symm⟩
theorem Wf.cwt_eq {x : Int} {es : List Int} {a : Bd} (hx : x ∉ es) (h : Wf (x :: es) a) : (a.cw x = a.ct x ↔ Wf es a) ∧ (a.cw x = a.ct x → a.cw x = a) ∧ (a.cw x ≠ a.ct x → a = .nd x (a.cw x) (a.ct x)) := by
  have key : ∀ {a : Bd}, Wf es a → a.cw x = a ∧ a.ct x = a := fun {a} h => by
    cases a with
    | lf b => exact ⟨rfl, rfl⟩
    | nd y w t =>
      have hy := h.none_of
      exact ⟨if_neg (fun (z : y = x) => hx (z ▸ hy)), if_neg (fun (z : y = x) => hx (z ▸ hy))⟩
  cases h with
  | lf => exact ⟨⟨fun _ => .lf, fun _ => rfl⟩, fun _ => rfl, fun n => absurd rfl n⟩
  | @here _ _ w t hw ht hn =>
    have e1 : (Bd.nd x w t).cw x = w := if_pos rfl
    have e2 : (Bd.nd x w t).ct x = t := if_pos rfl
    rw [e1, e2]
    exact ⟨⟨fun e => absurd e hn, fun h => absurd h.none_of hx⟩, fun e => absurd e hn, fun _ => rfl⟩
  | skip h =>
    obtain ⟨e1, e2⟩ := key h
    rw [e1, e2]
    exact ⟨⟨fun _ => h, fun _ => rfl⟩, fun _ => rfl, fun n => absurd rfl n⟩
/-- just one diagram for each condition -/
theorem canon : ∀ {es : List Int} {a b : Bd}, es.Nodup → Wf es a → Wf es b → (∀ r, a.ev r = b.ev r) → a = b
  | [], a, b, _, ha, hb, h => by
    cases ha
    cases hb
    exact congrArg Bd.lf (h fun _ => false)
  | x :: es, a, b, hn, ha, hb, h => by
    rw [List.nodup_cons] at hn
    have w := canon hn.2 (ha.cw hn.1).1 (hb.cw hn.1).1 fun r => by rw [(ha.cw hn.1).2, (hb.cw hn.1).2, h]
    have t := canon hn.2 (ha.ct hn.1).1 (hb.ct hn.1).1 fun r => by rw [(ha.ct hn.1).2, (hb.ct hn.1).2, h]
    obtain ⟨_, ea, na⟩ := ha.cwt_eq hn.1
    obtain ⟨_, eb, nb⟩ := hb.cwt_eq hn.1
    by_cases e : a.cw x = a.ct x
    · rw [← ea e, ← eb (by rw [← w, ← t, e]), w]
    · rw [na e, nb (by rw [← w, ← t]; exact e), w, t]
/-- a node, or what both sides are -/
def mkB (x : Int) (w t : Bd) : Bd := if w = t then w else .nd x w t
theorem mkB_wf {x : Int} {es : List Int} {w t : Bd} (hw : Wf es w) (ht : Wf es t) : Wf (x :: es) (mkB x w t) := by
  unfold mkB
  split
  · exact .skip hw
  · exact .here hw ht ‹_›
theorem mkB_ev {x : Int} {w t : Bd} (r : Int → Bool) : (mkB x w t).ev r = if r x = true then t.ev r else w.ev r := by
  unfold mkB
  split
  · rename_i h
    subst h
    split <;> rfl
  · rfl
/-! ### diagrams in a store: its nodes by their places -/
abbrev Nds := List (Int × Nat × Nat)
inductive At (N : Nds) : Nat → Bd → Prop
  | f : At N 0 (.lf false)
  | t : At N 1 (.lf true)
  | nd {k : Nat} {e : Int} {w t : Nat} {a b : Bd} : N[k]? = some (e, w, t) → At N w a → At N t b → At N (k + 2) (.nd e a b)
theorem At.mono {N M : Nds} {c : Nat} {a : Bd} (h : At N c a) : At (N ++ M) c a := by
  induction h with
  | f => exact .f
  | t => exact .t
  | nd hk _ _ ia ib => exact .nd (by rw [List.getElem?_append_left (List.getElem?_eq_some_iff.mp hk).1]; exact hk) ia ib
theorem At.fn {N : Nds} {c : Nat} {a : Bd} (h : At N c a) : ∀ {b : Bd}, At N c b → a = b := by
  induction h with
  | f => intro b hb; cases hb; rfl
  | t => intro b hb; cases hb; rfl
  | nd hk _ _ ia ib =>
    intro b hb
    cases hb with
    | nd hk2 ha2 hb2 =>
      have e := Option.some.inj (hk.symm.trans hk2)
      cases e
      have e1 := ia ha2
      have e2 := ib hb2
      rw [e1, e2]
theorem nodup_at {α : Type} : ∀ {l : List α} {i j : Nat} {x : α}, l.Nodup → l[i]? = some x → l[j]? = some x → i = j
  | [], _, _, _, _, h, _ => by simp at h
  | y :: l, 0, 0, _, _, _, _ => rfl
  | y :: l, 0, j + 1, x, hn, h1, h2 => by
    rw [List.nodup_cons] at hn
    have e : y = x := Option.some.inj h1
    have h2 : l[j]? = some x := by simpa using h2
    exact absurd (e ▸ List.mem_of_getElem? h2) hn.1
  | y :: l, i + 1, 0, x, hn, h1, h2 => by
    rw [List.nodup_cons] at hn
    have e : y = x := Option.some.inj h2
    have h1 : l[i]? = some x := by simpa using h1
    exact absurd (e ▸ List.mem_of_getElem? h1) hn.1
  | y :: l, i + 1, j + 1, x, hn, h1, h2 => by
    rw [List.nodup_cons] at hn
    exact congrArg (· + 1) (nodup_at hn.2 (by simpa using h1) (by simpa using h2))
theorem At.inj {N : Nds} (hn : N.Nodup) {c : Nat} {a : Bd} (h : At N c a) : ∀ {d : Nat}, At N d a → c = d := by
  induction h with
  | f => intro d hd; cases hd; rfl
  | t => intro d hd; cases hd; rfl
  | nd hk _ _ ia ib =>
    intro d hd
    cases hd with
    | nd hk2 ha2 hb2 =>
      have e1 := ia ha2
      have e2 := ib hb2
      subst e1 e2
      rw [nodup_at hn hk hk2]
theorem At.lt {N : Nds} {c : Nat} {a : Bd} (h : At N c a) : c < N.length + 2 := by
  cases h with
  | f => omega
  | t => omega
  | nd hk _ _ => have := (List.getElem?_eq_some_iff.mp hk).1; omega
theorem At.leaf {N : Nds} {c : Nat} {b : Bool} (h : At N c (.lf b)) : c = if b = true then 1 else 0 := by cases h <;> rfl
theorem At.ge {N : Nds} {c : Nat} {a : Bd} (h : At N c a) (h2 : 2 ≤ c) : ∃ e w t a1 b1, N[c - 2]? = some (e, w, t) ∧ At N w a1 ∧ At N t b1 ∧ a = .nd e a1 b1 := by
  cases h with
  | f => omega
  | t => omega
  | nd hk ha hb => exact ⟨_, _, _, _, _, hk, ha, hb, rfl⟩

/-! ### a store of diagrams in the heap -/
/-! ### what is made of tuples stands where all tuples stand -/
theorem SqT.tsn {K : PySem.W.Frag} {H H' : Hp} {a : Addr} {xs : List V} (e : ∀ b o, (∃ ys, o = HO.tup ys) ∨ (∃ q u, o = HO.frz q u) → H b = some o → H' b = some o) (h : SqT K H a xs) : SqT K H' a xs := by
  rcases h with (h | ⟨o, h⟩) | h
  · exact .inl (.inl (e _ _ (.inl ⟨_, rfl⟩) h))
  · exact .inl (.inr ⟨o, e _ _ (.inr ⟨_, _, rfl⟩) h⟩)
  · exact .inr h
mutual
/-- what is made of tuples stands where all tuples stand -/
theorem Dp.tsn {K : PySem.W.Frag} {H H' : Hp} (e : ∀ b o, (∃ ys, o = HO.tup ys) ∨ (∃ q u, o = HO.frz q u) → H b = some o → H' b = some o) : ∀ (d : PyData) (v : V), tupOnly d = true → Dp K H v d → Dp K H' v d
  | .none, _, _, h => by cases h; exact .non
  | .bool b, _, _, h => by cases h; exact .bl b
  | .int i, _, _, h => by cases h; exact .int i
  | .str x, _, _, h => by cases h; exact .str x
  | .list ds, _, e', _ => by unfold tupOnly at e'; cases e'
  | .tuple ds, _, e', h => by
    unfold tupOnly at e'
    cases h with
    | tup hs ha => exact .tup (SqT.tsn e hs) (DpAll.tsn e ds _ e' ha)
  | .dict _, _, _, h => by cases h
theorem DpAll.tsn {K : PySem.W.Frag} {H H' : Hp} (e : ∀ b o, (∃ ys, o = HO.tup ys) ∨ (∃ q u, o = HO.frz q u) → H b = some o → H' b = some o) : ∀ (ds : List PyData) (vs : List V), tupOnlys ds = true → DpAll K H vs ds → DpAll K H' vs ds
  | [], _, _, h => by cases h; exact .nil
  | d :: ds, _, e', h => by
    unfold tupOnlys at e'
    rw [Bool.and_eq_true] at e'
    cases h with
    | cons h1 h2 => exact .cons (Dp.tsn e d _ e'.1 h1) (DpAll.tsn e ds _ e'.2 h2)
end

/-- the instance, its list, its two dicts -/
structure SA where
  p : Addr
  k : Addr
  u : Addr
  m : Addr
def sfl (s : SA) : List (Str × V) := [("kept", .ref s.k), ("numbers", .ref s.u), ("combined", .ref s.m)]
theorem sf_kept (s : SA) : (sfl s).lookup ("kept" : Str) = some (.ref s.k) := rfl
theorem sf_num (s : SA) : (sfl s).lookup ("numbers" : Str) = some (.ref s.u) := rfl
theorem sf_comb (s : SA) : (sfl s).lookup ("combined" : Str) = some (.ref s.m) := rfl
theorem sf_no (s : SA) {m : Str} (h1 : (m == ("kept" : Str)) = false) (h2 : (m == ("numbers" : Str)) = false) (h3 : (m == ("combined" : Str)) = false) : (sfl s).lookup m = none := by
  unfold sfl
  simp only [List.lookup, h1, h2, h3]
/-- what stood stands, but for the store's list and dicts -/
def FdS (s : SA) (H H' : Hp) : Prop := ∀ b o, b ≠ s.k → b ≠ s.u → b ≠ s.m → H b = some o → H' b = some o
theorem FdS.refl (s : SA) (H : Hp) : FdS s H H := fun _ _ _ _ _ h => h
theorem FdS.trans {s : SA} {H H1 H2 : Hp} (a : FdS s H H1) (b : FdS s H1 H2) : FdS s H H2 := fun x o h1 h2 h3 h => b x o h1 h2 h3 (a x o h1 h2 h3 h)
theorem FdS.of {s : SA} {H H' : Hp} (a : Same H H') : FdS s H H' := fun x o _ _ _ h => a x o h
def nD (n : Int × Nat × Nat) : PyData := .tuple [.int n.1, .int (n.2.1 : Nat), .int (n.2.2 : Nat)]
theorem nD_only : ∀ N : Nds, tupOnlys (N.map nD) = true
  | [] => rfl
  | n :: N => by
    rw [List.map_cons]
    unfold tupOnlys
    rw [nD_only N]
    rfl
abbrev ky3 (a b c : Int) : List Key := [.inl a, .inl b, .inl c]
def NumsOk (N : Nds) (kvs : List (List Key × V)) : Prop := (∀ (e : Int) (w t : Nat), valV kvs (ky3 e w t) = none → (e, w, t) ∉ N) ∧ ∀ (e : Int) (w t : Nat) v, valV kvs (ky3 e w t) = some v → ∃ i : Nat, N[i]? = some (e, w, t) ∧ v = .int ((i + 2 : Nat) : Int)
/-- the diagram that is one of two, where a third one holds -/
def IsIte (es : List Int) (a b c d : Bd) : Prop := Wf es d ∧ ∀ r, d.ev r = if a.ev r = true then b.ev r else c.ev r
def MemoOk (N : Nds) (es : List Int) (cvs : List (List Key × V)) : Prop := ∀ (c a b : Nat) v, valV cvs (ky3 c a b) = some v → ∃ (r : Nat) (A B C T : Bd), v = .int (r : Int) ∧ At N c A ∧ At N a B ∧ At N b C ∧ At N r T ∧ IsIte es A B C T
def Sto (C : Addr) (K : PySem.W.Frag) (H : Hp) (s : SA) (N : Nds) (es : List Int) (L : Nat) : Prop :=
  (∃ dx, H s.p = some (.ins C dx (sfl s))) ∧ (∃ xs, H s.k = some (.lst xs) ∧ DpAll K H xs (N.map nD)) ∧ (∃ kvs, H s.u = some (.dT kvs) ∧ kvs.length ≤ N.length ∧ NumsOk N kvs) ∧
    (∃ cvs, H s.m = some (.dT cvs) ∧ cvs.length ≤ L ∧ MemoOk N es cvs) ∧ N.Nodup ∧ s.u ≠ s.m ∧ es.Pairwise (· < ·)
section
variable {C : Addr} {K : PySem.W.Frag} {H H' : Hp} {s : SA} {N : Nds} {es : List Int} {L : Nat}
theorem Sto.ins (h : Sto C K H s N es L) : ∃ dx, H s.p = some (.ins C dx (sfl s)) := h.1
theorem Sto.nd (h : Sto C K H s N es L) : N.Nodup := h.2.2.2.2.1
theorem Sto.srt (h : Sto C K H s N es L) : es.Pairwise (· < ·) := h.2.2.2.2.2.2
theorem Sto.es_nd (h : Sto C K H s N es L) : es.Nodup := h.srt.imp fun h => by omega
theorem Sto.ext (e : Same H H') (h : Sto C K H s N es L) : Sto C K H' s N es L := by
  obtain ⟨⟨dx, h1⟩, ⟨xs, h2, h3⟩, ⟨kvs, h4, h5⟩, ⟨cvs, h6, h7⟩, h8⟩ := h
  exact ⟨⟨dx, e _ _ h1⟩, ⟨xs, e _ _ h2, DpAll.ext e _ _ h3⟩, ⟨kvs, e _ _ h4, h5⟩, ⟨cvs, e _ _ h6, h7⟩, h8⟩
theorem Sto.tup (h : Sto C K H s N es L) (f : FdS s H H') : ∀ b o, (∃ ys, o = HO.tup ys) ∨ (∃ q u, o = HO.frz q u) → H b = some o → H' b = some o := by
  obtain ⟨_, ⟨xs, h2, _⟩, ⟨kvs, h4, _⟩, ⟨cvs, h6, _⟩, _⟩ := h
  rintro b o (⟨ys, rfl⟩ | ⟨q, u, rfl⟩) hb
  · exact f _ _ (ne_of hb h2 (fun z => nomatch z)) (ne_of hb h4 (fun z => nomatch z)) (ne_of hb h6 (fun z => nomatch z)) hb
  · exact f _ _ (ne_of hb h2 (fun z => nomatch z)) (ne_of hb h4 (fun z => nomatch z)) (ne_of hb h6 (fun z => nomatch z)) hb
theorem Sto.dp (h : Sto C K H s N es L) (f : FdS s H H') {d : PyData} {v : V} (ht : tupOnly d = true) (hd : Dp K H v d) : Dp K H' v d := Dp.tsn (h.tup f) d v ht hd
theorem Sto.at (h : Sto C K H s N es L) {c : Nat} {n : Int × Nat × Nat} (h2 : 2 ≤ c) (hn : N[c - 2]? = some n) : ∃ dx xs q, H s.p = some (.ins C dx (sfl s)) ∧ SqL K H s.k xs ∧ atI xs ((c : Int) - 2) = some (.ref q) ∧ SqT K H q [.int n.1, .int (n.2.1 : Nat), .int (n.2.2 : Nat)] := by
  obtain ⟨⟨dx, h1⟩, ⟨xs, h3, h4⟩, _⟩ := h
  obtain ⟨v, hv, hd⟩ := DpAll.get h4 (show (N.map nD)[c - 2]? = some (nD n) by rw [List.getElem?_map, hn]; rfl)
  have e : (c : Int) - 2 = ((c - 2 : Nat) : Int) := by omega
  cases hd with
  | @tup q _ _ hs ha =>
    cases ha with
    | cons g1 g2 =>
      cases g1
      cases g2 with
      | cons g3 g4 =>
        cases g3
        cases g4 with
        | cons g5 g6 =>
          cases g5
          cases g6
          exact ⟨dx, xs, q, h1, .of h3, by rw [e]; exact atI_nat hv, hs⟩
end
theorem NumsOk.snoc {N : Nds} {kvs : List (List Key × V)} (h : NumsOk N kvs) {e : Int} {w t : Nat} (hn : valV kvs (ky3 e w t) = none) : NumsOk (N ++ [(e, w, t)]) (putK kvs (ky3 e w t) (.int ((N.length + 2 : Nat) : Int))) := by
  have inj : ∀ {e' : Int} {w' t' : Nat}, ky3 e' w' t' = ky3 e w t → (e', w', t') = (e, w, t) := by
    intro e' w' t' h
    injection h with h1 h2
    injection h2 with h2 h3
    injection h3 with h3 _
    injection h1 with h1
    injection h2 with h2
    injection h3 with h3
    have : w' = w := by omega
    have : t' = t := by omega
    subst_vars
    rfl
  refine ⟨fun e' w' t' h' hm => ?_, fun e' w' t' v h' => ?_⟩
  · rw [valV_put] at h'
    split at h'
    · cases h'
    · rename_i hne
      rcases List.mem_append.mp hm with hm | hm
      · exact h.1 _ _ _ h' hm
      · rw [List.mem_singleton] at hm
        cases hm
        exact hne rfl
  · rw [valV_put] at h'
    split at h'
    · rename_i he
      cases inj he
      refine ⟨N.length, by rw [List.getElem?_append_right (Nat.le_refl _), Nat.sub_self]; rfl, ?_⟩
      exact (Option.some.inj h').symm
    · obtain ⟨i, hi, hv⟩ := h.2 _ _ _ _ h'
      exact ⟨i, by rw [List.getElem?_append_left (List.getElem?_eq_some_iff.mp hi).1]; exact hi, hv⟩
theorem MemoOk.mono {N M : Nds} {es : List Int} {cvs : List (List Key × V)} (h : MemoOk N es cvs) : MemoOk (N ++ M) es cvs := fun c a b v hv => by
  obtain ⟨r, A, B, C, T, e, h1, h2, h3, h4, h5⟩ := h c a b v hv
  exact ⟨r, A, B, C, T, e, h1.mono, h2.mono, h3.mono, h4.mono, h5⟩
theorem MemoOk.put {N : Nds} {es : List Int} {cvs : List (List Key × V)} (h : MemoOk N es cvs) {c a b r : Nat} {A B C T : Bd} (h1 : At N c A) (h2 : At N a B) (h3 : At N b C) (h4 : At N r T) (h5 : IsIte es A B C T) : MemoOk N es (putK cvs (ky3 c a b) (.int (r : Int))) := fun c' a' b' v hv => by
  rw [valV_put] at hv
  split at hv
  · rename_i he
    injection he with e1 e2
    injection e2 with e2 e3
    injection e3 with e3 _
    injection e1 with e1
    injection e2 with e2
    injection e3 with e3
    have e1 : c' = c := by omega
    have e2 : a' = a := by omega
    have e3 : b' = b := by omega
    subst e1 e2 e3
    exact ⟨r, A, B, C, T, (Option.some.inj hv).symm, h1, h2, h3, h4, h5⟩
  · exact h _ _ _ _ hv
/-! ### what both sides give -/
theorem Wf.skips {es : List Int} {a : Bd} (h : Wf es a) : ∀ pre : List Int, Wf (pre ++ es) a
  | [] => h
  | _ :: pre => .skip (h.skips pre)
theorem ite_step {x : Int} {es : List Int} {a b c t1 t2 : Bd} (hx : x ∉ es) (ha : Wf (x :: es) a) (hb : Wf (x :: es) b) (hc : Wf (x :: es) c) (h1 : IsIte es (a.cw x) (b.cw x) (c.cw x) t1) (h2 : IsIte es (a.ct x) (b.ct x) (c.ct x) t2) : IsIte (x :: es) a b c (mkB x t1 t2) := by
  refine ⟨mkB_wf h1.1 h2.1, fun r => ?_⟩
  have hs : ∀ v, r x = v → setR r x v = r := fun v e => by
    funext y
    by_cases hy : y = x
    · subst hy
      rw [setR_same, e]
    · rw [setR_ne hy]
  rw [mkB_ev]
  cases e : r x with
  | true => rw [if_pos rfl, h2.2, (ha.ct hx).2, (hb.ct hx).2, (hc.ct hx).2, hs _ e]
  | false => rw [if_neg Bool.false_ne_true, h1.2, (ha.cw hx).2, (hb.cw hx).2, (hc.cw hx).2, hs _ e]
/-- there is one -/
theorem ite_ex : ∀ {es : List Int} {a b c : Bd}, es.Nodup → Wf es a → Wf es b → Wf es c → ∃ t, IsIte es a b c t
  | [], a, b, c, _, ha, hb, hc => by
    cases ha with
    | @lf _ v =>
      cases v with
      | true => exact ⟨b, hb, fun _ => (if_pos rfl).symm⟩
      | false => exact ⟨c, hc, fun _ => (if_neg Bool.false_ne_true).symm⟩
  | x :: es, a, b, c, hn, ha, hb, hc => by
    rw [List.nodup_cons] at hn
    obtain ⟨t1, h1⟩ := ite_ex hn.2 (ha.cw hn.1).1 (hb.cw hn.1).1 (hc.cw hn.1).1
    obtain ⟨t2, h2⟩ := ite_ex hn.2 (ha.ct hn.1).1 (hb.ct hn.1).1 (hc.ct hn.1).1
    exact ⟨_, ite_step hn.1 ha hb hc h1 h2⟩
theorem ite_low {pre es : List Int} {a b c t : Bd} (hn : (pre ++ es).Nodup) (ha : Wf es a) (hb : Wf es b) (hc : Wf es c) (h : IsIte (pre ++ es) a b c t) : IsIte es a b c t := by
  obtain ⟨t', h'⟩ := ite_ex (List.nodup_append.mp hn).2.1 ha hb hc
  have e := canon hn h.1 (h'.1.skips pre) fun r => by rw [h.2, h'.2]
  rw [e]
  exact h'
theorem IsIte.skips {es : List Int} {a b c t : Bd} (pre : List Int) (h : IsIte es a b c t) : IsIte (pre ++ es) a b c t := ⟨h.1.skips pre, h.2⟩
/-- the question of the first one that has one -/
theorem top_ex : ∀ {es : List Int} {cs : List Bd}, (∀ a ∈ cs, Wf es a) → (∃ a ∈ cs, ∀ b, a ≠ .lf b) → ∃ pre x rest, es = pre ++ x :: rest ∧ (∀ a ∈ cs, Wf (x :: rest) a) ∧ ∃ w t, Bd.nd x w t ∈ cs
  | [], cs, h, ⟨a, ha, hn⟩ => by
    have := h a ha
    cases this
    exact absurd rfl (hn _)
  | x :: es, cs, h, hex => by
    by_cases hx : ∃ w t, Bd.nd x w t ∈ cs
    · exact ⟨[], x, es, rfl, h, hx⟩
    · have h' : ∀ a ∈ cs, Wf es a := fun a ha => by
        cases h a ha with
        | lf => exact .lf
        | here _ _ _ => exact absurd ⟨_, _, ha⟩ hx
        | skip h => exact h
      obtain ⟨pre, y, rest, e, h1, h2⟩ := top_ex h' hex
      exact ⟨x :: pre, y, rest, by rw [e]; rfl, h1, h2⟩
theorem Wf.head {es : List Int} {x : Int} {w t : Bd} (h : Wf es (.nd x w t)) : x ∈ es := h.none_of

/-! ### methods, defs that a name holds, instances -/
structure ClM (P : Program) (w : World) (K : PySem.W.Frag) (mg : Str → Option Value) (base : Heap) (k : Nat) (C : Addr) (m : Str) (sp : Sp) : Prop where
  ex : ∃ (f : Addr) (fd : FuncData) (ps : List Str), FnOk P w K mg base CX0 k f fd ps sp ∧ Meth K C m f ∧ Cls K C ∧ Binds K fd ps []
structure ClC (P : Program) (w : World) (K : PySem.W.Frag) (mg : Str → Option Value) (base : Heap) (k : Nat) (x : Str) (C : Addr) (sp : Sp) : Prop where
  ex : ∃ (f : Addr) (fd : FuncData) (ps : List Str), FnOk P w K mg base CX0 k f fd ps sp ∧ Mk K C f ∧ mg x = some (.ref C) ∧ Binds K fd ps []
theorem FnOk.clm {P : Program} {w : World} {K : PySem.W.Frag} {mg : Str → Option Value} {base : Heap} {k : Nat} {C : Addr} {m : Str} {f : Addr} {fd : FuncData} {ps : List Str} {sp : Sp} (h : FnOk P w K mg base CX0 k f fd ps sp) (mt : Meth K C m f) (cl : Cls K C) (b : Binds K fd ps []) : ClM P w K mg base k C m sp := ⟨f, fd, ps, h, mt, cl, b⟩
section
variable {X : Cx} {k j i : Nat} {m x : Str} {C : Addr} {sp : Sp} {p pos apos : Pos} {o e : Expr} {es : List Expr} {t : TA} {ta : TE}
theorem pe_mt {pl : Sem Bool} (c : ClM X.prog X.w X.K X.mg X.base k C m sp) (hr : Room j X.A) (hk : k ≤ j) (he : PE X o ta) (ha : PA X (e :: es) t) (hst : starEach (e :: es) X.env = (false, eval e X.env) :: starEach es X.env := by rfl) (hpl : (backTo pos (starEach es X.env)).any (·.1) = false := by rfl)
    (ht : eval (.Call (.Attribute o m apos) (e :: es) [] pos) X.env = (do let ov ← eval o X.env; standAt apos.atName; let (f, first) ← holding [ov] (getMethod ov m pl); callWith pos f first (backTo pos (starEach (e :: es) X.env)) (backToKw pos (keywordEach [] X.env))) := by rfl) : PE X (.Call (.Attribute o m apos) (e :: es) [] pos) (tMeth C m sp [] E0 ta t) := by
  obtain ⟨f, fd, ps, F, hm, cl, b⟩ := c.ex
  exact pe_meth he cl hm F (hr.mono hk) b .nil pass0 ha hst hpl ht
theorem pe_mt0 {pl : Sem Bool} (c : ClM X.prog X.w X.K X.mg X.base k C m sp) (hr : Room j X.A) (hk : k ≤ j) (he : PE X o ta)
    (ht : eval (.Call (.Attribute o m apos) [] [] pos) X.env = (do let ov ← eval o X.env; standAt apos.atName; let (f, first) ← holding [ov] (getMethod ov m pl); callWith pos f first (backTo pos (starEach [] X.env)) (backToKw pos (keywordEach [] X.env))) := by rfl) : PE X (.Call (.Attribute o m apos) [] [] pos) (tMeth C m sp [] E0 ta tNil) := by
  obtain ⟨f, fd, ps, F, hm, cl, b⟩ := c.ex
  exact pe_meth0 he cl hm F (hr.mono hk) b .nil pass0 ht
theorem pe_mk (c : ClC X.prog X.w X.K X.mg X.base k x C sp) (hr : Room j X.A) (hk : k + 1 ≤ j) (hg : L2.Gl X x) (ha : PA X (e :: es) t) (hdb : (x == ("__debug__" : Str)) = false := by decide) (he : starEach (e :: es) X.env = (false, eval e X.env) :: starEach es X.env := by rfl) (hpl : (backTo pos (starEach es X.env)).any (·.1) = false := by rfl) : PE X (.Call (.Name x p) (e :: es) [] pos) (tMake C sp [] E0 t) := by
  obtain ⟨f, fd, ps, F, M, hm, b⟩ := c.ex
  exact pe_make M F (hr.mono hk) hg hm b .nil pass0 ha hdb he hpl
theorem pe_mk0 (c : ClC X.prog X.w X.K X.mg X.base k x C sp) (hr : Room j X.A) (hk : k + 1 ≤ j) (hg : L2.Gl X x) (hdb : (x == ("__debug__" : Str)) = false := by decide) : PE X (.Call (.Name x p) [] [] pos) (tMake C sp [] E0 tNil) := by
  obtain ⟨f, fd, ps, F, M, hm, b⟩ := c.ex
  exact pe_make0 M F (hr.mono hk) hg hm b .nil pass0 hdb
end

/-! ### the store's methods -/
structure DgC (K : PySem.W.Frag) (C : Addr) (mg : Str → Option Value) : Prop where
  cl : Cls K C
  nK : NoAttr K C "kept"
  nN : NoAttr K C "numbers"
  nM : NoAttr K C "combined"
  NEVER : ∃ u, mg "NEVER" = some u ∧ RelV (.int 0) u
  ALWAYS : ∃ u, mg "ALWAYS" = some u ∧ RelV (.int 1) u
  FIRST_NODE : ∃ u, mg "FIRST_NODE" = some u ∧ RelV (.int 2) u
theorem Sto.go {C : Addr} {K : PySem.W.Frag} {H : Hp} {s : SA} {N : Nds} {es : List Int} {L : Nat} (h : Sto C K H s N es L) {m : Str} (h1 : (m == ("kept" : Str)) = false) (h2 : (m == ("numbers" : Str)) = false) (h3 : (m == ("combined" : Str)) = false) {R : Prop} (r : R) : ∃ a dx fs, V.ref s.p = .ref a ∧ H a = some (.ins C dx fs) ∧ fs.lookup m = none ∧ R := by
  obtain ⟨dx, hp⟩ := h.ins
  exact ⟨s.p, dx, _, rfl, hp, sf_no s h1 h2 h3, r⟩
def sp_nof (C : Addr) (K : PySem.W.Frag) : Sp := fun vs H Q _ => ∃ s N es L c n, vs = [.ref s.p, .int ((c : Nat) : Int)] ∧ Sto C K H s N es L ∧ 2 ≤ c ∧ N[c - 2]? = some n ∧ ∀ q, SqT K H q [.int n.1, .int (n.2.1 : Nat), .int (n.2.2 : Nat)] → Q (.ref q) H
def sp_node (C : Addr) (K : PySem.W.Frag) : Sp := fun vs H Q _ => ∃ s N es L x w t W T, vs = [.ref s.p, .int x, .int ((w : Nat) : Int), .int ((t : Nat) : Int)] ∧ Sto C K H s N es L ∧ At N w W ∧ At N t T ∧ N.length + 1 < sizeLine ∧
  ∀ H' M r, FdS s H H' → M.length ≤ 1 → Sto C K H' s (N ++ M) es L → At (N ++ M) r (mkB x W T) → Q (.int ((r : Nat) : Int)) H'
def sp_top (C : Addr) (K : PySem.W.Frag) : Sp := fun vs H Q _ => ∃ s N es L pre es' a, ∃ cs : List (Nat × Bd), vs = [.ref s.p, .ref a] ∧ Sto C K H s N es L ∧ SqT K H a (cs.map fun c => .int ((c.1 : Nat) : Int)) ∧ es = pre ++ es' ∧ cs.length ≤ 3 ∧ (∀ c ∈ cs, At N c.1 c.2 ∧ Wf es' c.2) ∧ (∃ c ∈ cs, 2 ≤ c.1) ∧
  ∀ H' pre2 x es2, Same H H' → es' = pre2 ++ x :: es2 → (∀ c ∈ cs, Wf (x :: es2) c.2) → Q (.int x) H'
def sp_bra (C : Addr) (K : PySem.W.Frag) : Sp := fun vs H Q _ => ∃ s N es L x es2 c A, vs = [.ref s.p, .int ((c : Nat) : Int), .int x] ∧ Sto C K H s N es L ∧ At N c A ∧ Wf (x :: es2) A ∧ x ∉ es2 ∧
  ∀ H' q w t, Same H H' → H' q = some (.tup [.int ((w : Nat) : Int), .int ((t : Nat) : Int)]) → At N w (A.cw x) → At N t (A.ct x) → Q (.ref q) H'
def sp_comb (C : Addr) (K : PySem.W.Frag) (n : Nat) : Sp := fun vs H Q _ => ∃ s N es L pre es' c a b A B D, vs = [.ref s.p, .int ((c : Nat) : Int), .int ((a : Nat) : Int), .int ((b : Nat) : Int)] ∧ Sto C K H s N es L ∧ es = pre ++ es' ∧ es'.length < n ∧ At N c A ∧ At N a B ∧ At N b D ∧ Wf es' A ∧ Wf es' B ∧ Wf es' D ∧
  N.length + 2 ^ es'.length < sizeLine ∧ L + 2 ^ es'.length < sizeLine ∧
  ∀ H' M r T, FdS s H H' → M.length + 1 ≤ 2 ^ es'.length → Sto C K H' s (N ++ M) es (L + (2 ^ es'.length - 1)) → At (N ++ M) r T → IsIte es' A B D T → Q (.int ((r : Nat) : Int)) H'
section
variable {P : Program} {w : World} {K : PySem.W.Frag} {mg : Str → Option Value} {base : Heap}
theorem ok_nof {f C : Addr} {fd : FuncData} (F : Fun K "node_of" "Diagrams.node_of" s_Diagrams_node_of f fd) (M : Mg mg) (G : DgC K C mg) : FnOk P w K mg base CX0 1 f fd ["self", "condition"] (sp_nof C K) := by
  refine F.ok sc_Diagrams_node_of (fun vs H Q E h => ?_) (fun cdv A outer s H vs Q E hr h => ?_)
  · obtain ⟨s, N, es, L, c, n, rfl, _⟩ := h
    rfl
  · obtain ⟨s, N, es, L, c, n, rfl, st, h2, hn, q⟩ := h
    obtain ⟨dx, xs, a, hp, hk, hat, hq⟩ := st.at h2 hn
    refine ⟨_, (pss_one (ps_ret (pe_ix (ix_listK K) (pe_fld (pv 0) rfl) (pe_op op_sub (pv 1) (C8.pe_gc (by rfl) G.FIRST_NODE)) (fun _ _ => rfl)))), ?_⟩
    exact ⟨_, rfl, s.p, C, dx, _, _, rfl, hp, G.cl, G.nK, sf_kept s, _, rfl, _, _, rfl, rfl, s.k, xs, _, _, rfl, rfl, hk, hat, q a hq⟩
theorem ok_node {f C : Addr} {fd : FuncData} (F : Fun K "node" "Diagrams.node" s_Diagrams_node f fd) (M : Mg mg) (G : DgC K C mg) : FnOk P w K mg base CX0 1 f fd ["self", "entry", "without", "there"] (sp_node C K) := by
  refine F.ok sc_Diagrams_node (fun vs H Q E h => ?_) (fun cdv A outer s H vs Q E hr h => ?_)
  · obtain ⟨s, N, es, L, x, w, t, W, T, rfl, _⟩ := h
    rfl
  · obtain ⟨s, N, es, L, x, w, t, W, T, rfl, st, hw, ht, hz, q⟩ := h
    refine ⟨_, (pss_cons (ps_if (pt_cmpR op_eq (pv 2) (pv 3) (nomark _)) (pss_one (ps_ret (pv 2))) pss_nil)
      (pss_cons (ps_set (i := 4) sc_Diagrams_node.nd rfl (.inl rfl) (pe_tup (pa_cons (pv 1) (pa_cons (pv 2) (pa_cons (pv 3) pa_nil)))))
      (pss_cons (ps_if (pt_cmp (pc_dnotin (hu_of hr) (pv 4) (pe_fld (pv 0) rfl))) (pss_cons (ps_dput (hu_of hr) (pe_fld (pv 0) rfl) (pv 4) (pe_op op_add (pe_callB (len_seqK K) (by rfl) M.len PySem.boot_len (pa_cons (pe_fld (pv 0) rfl) pa_nil)) (C8.pe_gc (by rfl) G.FIRST_NODE)) rfl)
      (pss_one (ps_expr (pe_bmK K PySem.F.plainAttrs_list PySem.F.slot_list_append PySem.F.type_list_append mt_append (pe_fld (pv 0) rfl) (pa_cons (pv 4) pa_nil))))) pss_nil)
      (pss_one (ps_ret (pe_dget (hu_of hr) (pe_fld (pv 0) rfl) (pv 4) (fun _ _ => rfl))))))), ?_⟩
    refine ⟨_, rfl, _, rfl, rfl, _, rfl, ite2 (fun e => ?_) (fun e => ?_)⟩
    · have e1 : w = t := by
        have := V.int.inj (of_decide_eq_true e)
        omega
      subst e1
      have e2 := hw.fn ht
      subst e2
      refine ⟨_, rfl, q H [] w (FdS.refl s H) (Nat.zero_le _) (by rw [List.append_nil]; exact st) ?_⟩
      rw [List.append_nil, show mkB x W W = W from if_pos rfl]
      exact hw
    · have hne : W ≠ T := fun z => by
        subst z
        exact e (by rw [hw.inj st.nd ht]; exact decide_eq_true rfl)
      have em : mkB x W T = .nd x W T := if_neg hne
      rw [em] at q
      refine ⟨_, rfl, _, rfl, _, rfl, by show 3 ≤ sizeLine; decide, fun tp ntp => ?_⟩
      have s1 := same_upd ntp (o := .tup [.int x, .int ((w : Nat) : Int), .int ((t : Nat) : Int)])
      have et : (upd H tp (.tup [.int x, .int ((w : Nat) : Int), .int ((t : Nat) : Int)])) tp = some (.tup ((ky3 x w t).map kV)) := upd_same
      generalize upd H tp (.tup [.int x, .int ((w : Nat) : Int), .int ((t : Nat) : Int)]) = H1 at s1 et
      have st1 := st.ext s1
      obtain ⟨⟨dx, hp⟩, ⟨xs, hk, hxs⟩, ⟨kvs, hu, hkl, hko⟩, ⟨cvs, hm, hcl, hco⟩, hnd, hum, hes⟩ := id st1
      have npk : s.p ≠ s.k := ne_of hp hk (fun z => nomatch z)
      have npu : s.p ≠ s.u := ne_of hp hu (fun z => nomatch z)
      have nku : s.k ≠ s.u := ne_of hk hu (fun z => nomatch z)
      have nkm : s.k ≠ s.m := ne_of hk hm (fun z => nomatch z)
      have ntk : tp ≠ s.k := ne_of et hk (fun z => nomatch z)
      have ntu : tp ≠ s.u := ne_of et hu (fun z => nomatch z)
      refine ⟨_, rfl, _, rfl, s.p, C, dx, _, _, rfl, hp, G.cl, G.nN, sf_num s, s.u, _, rfl, DGet.t hu et, _, rfl, ?_⟩
      cases ev : valV kvs (ky3 x w t) with
      | some v =>
        obtain ⟨i, hi, rfl⟩ := hko.2 _ _ _ _ ev
        refine iteF ?_
        refine ⟨_, rfl, s.p, C, dx, _, _, rfl, hp, G.cl, G.nN, sf_num s, _, rfl, s.u, .int ((i + 2 : Nat) : Int), rfl, ?_, ?_⟩
        · have := DGet.t hu et
          rw [ev] at this
          exact this
        · exact q H1 [] (i + 2) (FdS.of s1) (Nat.zero_le _) (by rw [List.append_nil]; exact st1) (by rw [List.append_nil]; exact .nd hi hw ht)
      | none =>
        have hnew : (x, w, t) ∉ N := hko.1 _ _ _ ev
        have lxs : xs.length = N.length := by rw [DpAll.len hxs, List.length_map]
        refine iteT ?_
        refine ⟨_, rfl, s.p, C, dx, _, _, rfl, hp, G.cl, G.nK, sf_kept s, s.k, xs, rfl, .inl (.of hk), _, _, rfl, rfl, _, rfl, s.p, C, dx, _, _, rfl, hp, G.cl, G.nN, sf_num s, _, rfl, s.u, _, rfl, DPut.t hu et (by omega), ?_⟩
        rw [lxs]
        dsimp only
        rw [show ((N.length : Nat) : Int) + 2 = ((N.length + 2 : Nat) : Int) by omega]
        have hk2 : (upd H1 s.u (.dT (putK kvs (ky3 x w t) (.int ((N.length + 2 : Nat) : Int))))) s.k = some (.lst xs) := by rw [upd_ne nku]; exact hk
        have hp2 : (upd H1 s.u (.dT (putK kvs (ky3 x w t) (.int ((N.length + 2 : Nat) : Int))))) s.p = some (.ins C dx (sfl s)) := by rw [upd_ne npu]; exact hp
        refine ⟨_, rfl, s.p, C, dx, _, _, rfl, hp2, G.cl, G.nK, sf_kept s, .inl ⟨rfl, _, .inl (.inl hk2)⟩, _, rfl, s.k, xs, _, rfl, rfl, hk2, by omega, ?_⟩
        have eu3 : (upd (upd H1 s.u (.dT (putK kvs (ky3 x w t) (.int ((N.length + 2 : Nat) : Int))))) s.k (.lst (xs ++ [.ref tp]))) s.u = some (.dT (putK kvs (ky3 x w t) (.int ((N.length + 2 : Nat) : Int)))) := by rw [upd_ne nku.symm, upd_same]
        have f3 : FdS s H1 (upd (upd H1 s.u (.dT (putK kvs (ky3 x w t) (.int ((N.length + 2 : Nat) : Int))))) s.k (.lst (xs ++ [.ref tp]))) := fun b o n1 n2 n3 hb => by
          rw [upd_ne n1, upd_ne n2]
          exact hb
        have ep3 : (upd (upd H1 s.u (.dT (putK kvs (ky3 x w t) (.int ((N.length + 2 : Nat) : Int))))) s.k (.lst (xs ++ [.ref tp]))) s.p = some (.ins C dx (sfl s)) := by rw [upd_ne npk]; exact hp2
        have em3 : (upd (upd H1 s.u (.dT (putK kvs (ky3 x w t) (.int ((N.length + 2 : Nat) : Int))))) s.k (.lst (xs ++ [.ref tp]))) s.m = some (.dT cvs) := by rw [upd_ne nkm.symm, upd_ne hum.symm]; exact hm
        have ek3 : (upd (upd H1 s.u (.dT (putK kvs (ky3 x w t) (.int ((N.length + 2 : Nat) : Int))))) s.k (.lst (xs ++ [.ref tp]))) s.k = some (.lst (xs ++ [.ref tp])) := upd_same
        have et3 : (upd (upd H1 s.u (.dT (putK kvs (ky3 x w t) (.int ((N.length + 2 : Nat) : Int))))) s.k (.lst (xs ++ [.ref tp]))) tp = some (.tup ((ky3 x w t).map kV)) := by rw [upd_ne ntk, upd_ne ntu]; exact et
        generalize upd (upd H1 s.u (.dT (putK kvs (ky3 x w t) (.int ((N.length + 2 : Nat) : Int))))) s.k (.lst (xs ++ [.ref tp])) = H3 at eu3 f3 ep3 em3 ek3 et3
        have nk : NumsOk (N ++ [(x, w, t)]) (putK kvs (ky3 x w t) (.int ((N.length + 2 : Nat) : Int))) := hko.snoc ev
        have st3 : Sto C K H3 s (N ++ [(x, w, t)]) es L := by
          refine ⟨⟨dx, ep3⟩, ⟨_, ek3, ?_⟩, ⟨_, eu3, ?_, nk⟩, ⟨cvs, em3, hcl, hco.mono⟩, ?_, hum, hes⟩
          · rw [List.map_append]
            exact DpAll.snoc (DpAll.tsn (st1.tup f3) _ _ (nD_only _) hxs) (.tup (.of et3) (.cons (.int _) (.cons (.int _) (.cons (.int _) .nil))))
          · have := length_putK kvs (ky3 x w t) (.int ((N.length + 2 : Nat) : Int))
            rw [List.length_append]
            show _ ≤ _ + 1
            omega
          · rw [List.nodup_append]
            exact ⟨hnd, List.nodup_cons.mpr ⟨List.not_mem_nil, List.nodup_nil⟩, fun a ha b hb z => by
              rw [List.mem_singleton] at hb
              subst z hb
              exact hnew ha⟩
        refine ⟨_, rfl, s.p, C, dx, _, _, rfl, ep3, G.cl, G.nN, sf_num s, _, rfl, s.u, .int ((N.length + 2 : Nat) : Int), rfl, ?_, ?_⟩
        · have := DGet.t eu3 et3
          rw [valV_put, if_pos rfl] at this
          exact this
        · refine q H3 [(x, w, t)] (N.length + 2) ((FdS.of s1).trans f3) (Nat.le_refl _) st3 (.nd ?_ hw.mono ht.mono)
          rw [List.getElem?_append_right (Nat.le_refl _), Nat.sub_self]
          rfl
def topOf : Bd → Option Int
  | .nd x _ _ => some x
  | .lf _ => none
theorem srt_le {pre es : List Int} {x y : Int} (h : (pre ++ x :: es).Pairwise (· < ·)) (hy : y ∈ x :: es) : x ≤ y := by
  have h2 := (List.pairwise_append.mp h).2.1
  rw [List.pairwise_cons] at h2
  rcases List.mem_cons.mp hy with e | hy
  · omega
  · have := h2.1 y hy
    omega
theorem ok_top {f C : Addr} {fd : FuncData} (F : Fun K "top" "Diagrams.top" s_Diagrams_top f fd) (M : Mg mg) (G : DgC K C mg) (c_Diagrams_node_of : ClM P w K mg base 1 C "node_of" (sp_nof C K)) : FnOk P w K mg base CX0 2 f fd ["self", "conditions"] (sp_top C K) := by
  refine F.ok sc_Diagrams_top (fun vs H Q E h => ?_) (fun cdv A outer s H vs Q E hr h => ?_)
  · obtain ⟨s, N, es, L, pre, es', a, cs, rfl, _⟩ := h
    rfl
  · obtain ⟨s, N, es, L, pre, es', a, cs, rfl, st, ha, he, hl, hc, hex, q⟩ := h
    refine ⟨_, (pss_one (ps_ret (pe_callB (cr_min rfl) (by rfl) M.min (by decide +kernel) (pa_cons (pe_lc (own := [("condition", 2)]) (g := gName 2) rfl sc_Diagrams_top.nd (pi_tup (pv 1)) (blkOk_by (N := N_Diagrams_top) (sc := defScope s_Diagrams_top) (by decide +kernel)) (fun _ _ _ _ _ => (pg_name (i := 2) sc_Diagrams_top.nd rfl (.inl rfl))) (fun _ _ _ _ _ => (pts_one (pt_cmpR op_ge (pv 2) (C8.pe_gc (by rfl) G.FIRST_NODE) (nomark _)))) (fun _ _ _ _ _ => (pe_ix (ix_tupK K) (pe_mt c_Diagrams_node_of hr (by first | decide | omega) (pv 0) (pa_cons (pv 2) pa_nil)) pe_int (fun _ _ => rfl)))) pa_nil)))), ?_⟩
    refine ⟨_, rfl, a, rfl, ⟨_, ha⟩, fun D nD => ?_⟩
    refine lc_tup (K := K) (a := a) (xs := cs.map fun c => .int ((c.1 : Nat) : Int)) (fun i Hi => Same H Hi ∧ ∃ ns : List Int, Hi D = some (.lst (ns.map V.int)) ∧ ns.length ≤ i ∧ ns = (cs.take i).filterMap fun c => topOf c.2) ⟨same_upd nD, [], upd_same, Nat.zero_le _, rfl⟩ (fun i Hi _ hp => SqT.ext hp.1 ha) (fun i x Hi hx hp => ?_) (fun Hn hp => ?_)
    · obtain ⟨si, ns, eD, ln, en⟩ := hp
      rw [List.getElem?_map] at hx
      obtain ⟨c, hcv, rfl⟩ := Option.map_eq_some_iff.mp hx
      have hi : i < cs.length := (List.getElem?_eq_some_iff.mp hcv).1
      obtain ⟨hAt, hWf⟩ := hc c (List.mem_of_getElem? hcv)
      have sti := st.ext si
      refine ⟨rfl, ?_⟩
      refine ⟨_, rfl, _, _, rfl, rfl, _, rfl, ite2 (fun e => ?_) (fun e => ?_)⟩
      · have h2 : 2 ≤ c.1 := by
          have := of_decide_eq_true e
          omega
        obtain ⟨e1, w1, t1, a1, b1, hn, hw1, ht1, ea⟩ := hAt.ge h2
        refine ⟨_, rfl, sti.go (by decide +kernel) (by decide +kernel) (by decide +kernel) ⟨_, rfl, ?_⟩⟩
        refine ⟨s, N, es, L, c.1, _, rfl, sti, h2, hn, fun qa hq => ?_⟩
        refine ⟨qa, _, _, _, rfl, rfl, hq, atI_nat (j := 0) rfl, ?_⟩
        refine ⟨_, eD, by rw [List.length_map]; exact Nat.lt_of_le_of_lt ln (Nat.lt_of_lt_of_le hi (Nat.le_trans hl (by decide))), ?_, ns ++ [e1], ?_, ?_, ?_⟩
        · intro b o hb
          rw [upd_ne (ne_of_none hb nD)]
          exact si _ _ hb
        · rw [upd_same, List.map_append]
          rfl
        · rw [List.length_append]
          show _ + 1 ≤ _
          omega
        · rw [List.take_add_one, hcv, List.filterMap_append, ← en]
          show _ = _ ++ ([c].filterMap fun c => topOf c.2)
          rw [List.filterMap_cons, ea]
          rfl
      · have h2 : ¬ 2 ≤ c.1 := by
          intro h
          exact e (decide_eq_true (by omega))
        refine ⟨si, ns, eD, by omega, ?_⟩
        rw [List.take_add_one, hcv, List.filterMap_append, ← en]
        show _ = _ ++ ([c].filterMap fun c => topOf c.2)
        have : topOf c.2 = none := by
          generalize c.1 = cn at hAt h2
          generalize c.2 = A at hAt
          cases hAt with
          | f => rfl
          | t => rfl
          | nd _ _ _ => omega
        rw [List.filterMap_cons, this]
        exact (List.append_nil _).symm
    · obtain ⟨sn, ns, eD, ln, en⟩ := hp
      rw [List.length_map, List.take_of_length_le (Nat.le_refl _)] at en
      obtain ⟨c0, hc0, h20⟩ := hex
      have hex' : ∃ a ∈ cs.map (·.2), ∀ b, a ≠ .lf b := by
        refine ⟨c0.2, List.mem_map.mpr ⟨c0, hc0, rfl⟩, fun b z => ?_⟩
        obtain ⟨_, _, _, _, _, _, _, _, ea⟩ := (hc c0 hc0).1.ge h20
        rw [ea] at z
        cases z
      obtain ⟨pre2, x, es2, ee, hwf, w0, t0, hm0⟩ := top_ex (es := es') (cs := cs.map (·.2)) (fun a ha => by
        obtain ⟨c, hcm, rfl⟩ := List.mem_map.mp ha
        exact (hc c hcm).2) hex'
      have hwf' : ∀ c ∈ cs, Wf (x :: es2) c.2 := fun c hcm => hwf _ (List.mem_map.mpr ⟨c, hcm, rfl⟩)
      have hx : x ∈ ns := by
        obtain ⟨c, hcm, ec⟩ := List.mem_map.mp hm0
        rw [en]
        exact List.mem_filterMap.mpr ⟨c, hcm, by rw [ec]; rfl⟩
      refine ⟨D, ns, rfl, .of eD, List.length_pos_of_mem hx, fun m hm hmin => ?_⟩
      have h1 := hmin x hx
      rw [en] at hm
      obtain ⟨c, hcm, ec⟩ := List.mem_filterMap.mp hm
      have h2 : x ≤ m := by
        have hw := hwf' c hcm
        generalize c.2 = A at hw ec
        cases A with
        | lf b => cases ec
        | nd y w t =>
          have e : y = m := Option.some.inj ec
          subst e
          have srt := st.srt
          rw [he, ee, ← List.append_assoc] at srt
          exact srt_le srt hw.none_of
      obtain rfl : m = x := by omega
      exact q Hn pre2 m es2 sn ee hwf'
theorem ok_bra {f C : Addr} {fd : FuncData} (F : Fun K "branches" "Diagrams.branches" s_Diagrams_branches f fd) (M : Mg mg) (G : DgC K C mg) (c_Diagrams_node_of : ClM P w K mg base 1 C "node_of" (sp_nof C K)) : FnOk P w K mg base CX0 2 f fd ["self", "condition", "entry"] (sp_bra C K) := by
  refine F.ok sc_Diagrams_branches (fun vs H Q E h => ?_) (fun cdv A outer s H vs Q E hr h => ?_)
  · obtain ⟨s, N, es, L, x, es2, c, A, rfl, _⟩ := h
    rfl
  · obtain ⟨s, N, es, L, x, es2, c, A, rfl, st, hAt, hWf, hx, q⟩ := h
    refine ⟨_, (pss_cons (ps_if (pt_cmpR op_ge (pv 1) (C8.pe_gc (by rfl) G.FIRST_NODE) (nomark _)) (pss_cons (ps_asg (pe_mt c_Diagrams_node_of hr (by first | decide | omega) (pv 0) (pa_cons (pv 1) pa_nil)) (pg_tup (by rfl) (pgs_cons (pg_name (i := 3) sc_Diagrams_branches.nd rfl (.inl rfl)) (pgs_cons (pg_name (i := 4) sc_Diagrams_branches.nd rfl (.inl rfl)) (pgs_cons (pg_name (i := 5) sc_Diagrams_branches.nd rfl (.inl rfl)) pgs_nil)))))
      (pss_one (ps_if (pt_cmpR op_eq (pv 3) (pv 2) (nomark _)) (pss_one (ps_ret (pe_tup (pa_cons (pv 4) (pa_cons (pv 5) pa_nil))))) pss_nil))) pss_nil)
      (pss_one (ps_ret (pe_tup (pa_cons (pv 1) (pa_cons (pv 1) pa_nil)))))), ?_⟩
    have both : A.cw x = A → A.ct x = A → ∀ q', H q' = none → Q (.ref q') (upd H q' (.tup [.int ((c : Nat) : Int), .int ((c : Nat) : Int)])) := fun e1 e2 q' nq => by
      refine q _ q' c c (same_upd nq) upd_same ?_ ?_
      · rw [e1]; exact hAt
      · rw [e2]; exact hAt
    refine ⟨_, rfl, _, _, rfl, rfl, _, rfl, ite2 (fun e => ?_) (fun e => ?_)⟩
    · have h2 : 2 ≤ c := by
        have := of_decide_eq_true e
        omega
      obtain ⟨e1, w1, t1, a1, b1, hn, hw1, ht1, ea⟩ := hAt.ge h2
      refine ⟨_, rfl, st.go (by decide +kernel) (by decide +kernel) (by decide +kernel) ⟨_, rfl, ?_⟩⟩
      refine ⟨s, N, es, L, c, _, rfl, st, h2, hn, fun qa hq => ?_⟩
      refine ⟨qa, _, rfl, hq, rfl, _, _, rfl, _, _, rfl, _, _, rfl, rfl, ?_⟩
      refine ⟨_, rfl, _, rfl, rfl, _, rfl, ite2 (fun e => ?_) (fun e => ?_)⟩
      · have ee : e1 = x := V.int.inj (of_decide_eq_true e)
        refine ⟨_, rfl, _, rfl, by show 2 ≤ sizeLine; decide, fun q' nq => ?_⟩
        refine q _ q' w1 t1 (same_upd nq) upd_same ?_ ?_
        · rw [ea, show (Bd.nd e1 a1 b1).cw x = a1 from if_pos ee]; exact hw1
        · rw [ea, show (Bd.nd e1 a1 b1).ct x = b1 from if_pos ee]; exact ht1
      · have ee : e1 ≠ x := fun z => e (by rw [z]; exact decide_eq_true rfl)
        exact ⟨_, rfl, _, rfl, by show 2 ≤ sizeLine; decide, both (by rw [ea]; exact if_neg ee) (by rw [ea]; exact if_neg ee)⟩
    · have hlf : A.cw x = A ∧ A.ct x = A := by
        cases hAt with
        | f => exact ⟨rfl, rfl⟩
        | t => exact ⟨rfl, rfl⟩
        | nd _ _ _ => exact absurd (decide_eq_true (by omega)) e
      exact ⟨_, rfl, _, rfl, by show 2 ≤ sizeLine; decide, both hlf.1 hlf.2⟩
theorem Sto.more {C : Addr} {H : Hp} {s : SA} {N : Nds} {es : List Int} {L L' : Nat} (h : Sto C K H s N es L) (hl : L ≤ L') : Sto C K H s N es L' := by
  obtain ⟨h1, h2, h3, ⟨cvs, h4, h5, h6⟩, h7⟩ := h
  exact ⟨h1, h2, h3, ⟨cvs, h4, Nat.le_trans h5 hl, h6⟩, h7⟩
theorem Sto.put {C : Addr} {H : Hp} {s : SA} {N : Nds} {es : List Int} {L : Nat} (st : Sto C K H s N es L) {c a b r : Nat} {A B D T : Bd} (h1 : At N c A) (h2 : At N a B) (h3 : At N b D) (h4 : At N r T) (h5 : IsIte es A B D T) :
    ∃ cvs, H s.m = some (.dT cvs) ∧ cvs.length ≤ L ∧ Sto C K (upd H s.m (.dT (putK cvs (ky3 c a b) (.int ((r : Nat) : Int))))) s N es (L + 1) ∧ FdS s H (upd H s.m (.dT (putK cvs (ky3 c a b) (.int ((r : Nat) : Int))))) := by
  have f : ∀ cvs, FdS s H (upd H s.m (.dT (putK cvs (ky3 c a b) (.int ((r : Nat) : Int))))) := fun cvs x o n1 n2 n3 e => by
    rw [upd_ne n3]
    exact e
  obtain ⟨⟨dx, hp⟩, ⟨xs, hk, hxs⟩, ⟨kvs, hu, hkl, hko⟩, ⟨cvs, hm, hcl, hco⟩, hnd, hum, hes⟩ := id st
  refine ⟨cvs, hm, hcl, ⟨⟨dx, ?_⟩, ⟨xs, ?_, ?_⟩, ⟨kvs, ?_, hkl, hko⟩, ⟨_, upd_same, ?_, hco.put h1 h2 h3 h4 h5⟩, hnd, hum, hes⟩, f cvs⟩
  · rw [upd_ne (ne_of hp hm (fun z => nomatch z))]; exact hp
  · rw [upd_ne (ne_of hk hm (fun z => nomatch z))]; exact hk
  · exact DpAll.tsn (st.tup (f cvs)) _ _ (nD_only _) hxs
  · rw [upd_ne hum]; exact hu
  · have := length_putK cvs (ky3 c a b) (.int ((r : Nat) : Int))
    omega
set_option maxHeartbeats 4000000 in
theorem ok_comb (n : Nat) {f C : Addr} {fd : FuncData} (F : Fun K "combine" "Diagrams.combine" s_Diagrams_combine f fd) (M : Mg mg) (G : DgC K C mg) (c_Diagrams_node : ClM P w K mg base 1 C "node" (sp_node C K)) (c_Diagrams_top : ClM P w K mg base 2 C "top" (sp_top C K)) (c_Diagrams_branches : ClM P w K mg base 2 C "branches" (sp_bra C K))
    (c_Diagrams_combine : ClM P w K mg base (n + 2) C "combine" (sp_comb C K n)) : FnOk P w K mg base CX0 (n + 3) f fd ["self", "condition", "first", "second"] (sp_comb C K (n + 1)) := by
  refine F.ok sc_Diagrams_combine (fun vs H Q E h => ?_) (fun cdv A outer s H vs Q E hr h => ?_)
  · obtain ⟨s, N, es, L, pre, es', c, a, b, A, B, D, rfl, _⟩ := h
    rfl
  · obtain ⟨s, N, es, L, pre, es', c, a, b, A, B, D, rfl, st, he, hn, hA, hB, hD, wA, wB, wD, z1, z2, q⟩ := h
    have hp1 : 1 ≤ 2 ^ es'.length := Nat.one_le_two_pow
    have ret : ∀ H1 r T, Same H H1 → At N r T → IsIte es' A B D T → Q (.int ((r : Nat) : Int)) H1 := fun H1 r T s1 h1 h2 => q H1 [] r T (FdS.of s1) (by rw [List.length_nil]; exact hp1) (by rw [List.append_nil]; exact (st.ext s1).more (Nat.le_add_right _ _)) (by rw [List.append_nil]; exact h1) h2
    have inat : ∀ {x y : Nat}, decide (V.int ((x : Nat) : Int) = V.int ((y : Nat) : Int)) = true → x = y := fun {x y} e => by
      have := V.int.inj (of_decide_eq_true e)
      omega
    refine ⟨_, (pss_cons (ps_if (PW.pt (pw_or (pt_cmpR op_eq (pv 1) (C8.pe_gc (by rfl) G.ALWAYS) (nomark _)) (pw_or1 (pt_cmpR op_eq (pv 2) (pv 3) (nomark _))))) (pss_one (ps_ret (pv 2))) pss_nil)
      (pss_cons (ps_if (pt_cmpR op_eq (pv 1) (C8.pe_gc (by rfl) G.NEVER) (nomark _)) (pss_one (ps_ret (pv 3))) pss_nil)
      (pss_cons (ps_set (i := 4) sc_Diagrams_combine.nd rfl (.inl rfl) (pe_tup (pa_cons (pv 1) (pa_cons (pv 2) (pa_cons (pv 3) pa_nil)))))
      (pss_cons (ps_if (pt_cmp (pc_dnotin (hu_of hr) (pv 4) (pe_fld (pv 0) rfl))) (pss_cons (ps_set (i := 5) sc_Diagrams_combine.nd rfl (.inl rfl) (pe_mt c_Diagrams_top hr (by first | decide | omega) (pv 0) (pa_cons (pv 4) pa_nil)))
      (pss_cons (ps_asg (pe_mt c_Diagrams_branches hr (by first | decide | omega) (pv 0) (pa_cons (pv 1) (pa_cons (pv 5) pa_nil))) (pg_tup (by rfl) (pgs_cons (pg_name (i := 6) sc_Diagrams_combine.nd rfl (.inl rfl)) (pgs_cons (pg_name (i := 7) sc_Diagrams_combine.nd rfl (.inl rfl)) pgs_nil))))
      (pss_cons (ps_asg (pe_mt c_Diagrams_branches hr (by first | decide | omega) (pv 0) (pa_cons (pv 2) (pa_cons (pv 5) pa_nil))) (pg_tup (by rfl) (pgs_cons (pg_name (i := 8) sc_Diagrams_combine.nd rfl (.inl rfl)) (pgs_cons (pg_name (i := 9) sc_Diagrams_combine.nd rfl (.inl rfl)) pgs_nil))))
      (pss_cons (ps_asg (pe_mt c_Diagrams_branches hr (by first | decide | omega) (pv 0) (pa_cons (pv 3) (pa_cons (pv 5) pa_nil))) (pg_tup (by rfl) (pgs_cons (pg_name (i := 10) sc_Diagrams_combine.nd rfl (.inl rfl)) (pgs_cons (pg_name (i := 11) sc_Diagrams_combine.nd rfl (.inl rfl)) pgs_nil))))
      (pss_one (ps_dput (hu_of hr) (pe_fld (pv 0) rfl) (pv 4) (pe_mt c_Diagrams_node hr (by first | decide | omega) (pv 0) (pa_cons (pv 5) (pa_cons (pe_mt c_Diagrams_combine hr (by first | decide | omega) (pv 0) (pa_cons (pv 6) (pa_cons (pv 8) (pa_cons (pv 10) pa_nil)))) (pa_cons (pe_mt c_Diagrams_combine hr (by first | decide | omega) (pv 0) (pa_cons (pv 7) (pa_cons (pv 9) (pa_cons (pv 11) pa_nil)))) pa_nil)))) rfl)))))) pss_nil)
      (pss_one (ps_ret (pe_dget (hu_of hr) (pe_fld (pv 0) rfl) (pv 4) (fun _ _ => rfl)))))))), ?_⟩
    refine ⟨_, rfl, rfl, _, rfl, ite2 (fun e => ?_) (fun e => ?_)⟩
    · obtain rfl : c = 1 := inat (y := 1) e
      have eA := hA.fn .t
      exact ⟨_, rfl, ret H a B (fun _ _ h => h) hB ⟨wB, fun r => by rw [eA]; exact (if_pos rfl).symm⟩⟩
    refine ⟨_, rfl, _, rfl, rfl, _, rfl, ite2 (fun e2 => ?_) (fun e2 => ?_)⟩
    · obtain rfl := inat e2
      have eB := hB.fn hD
      exact ⟨_, rfl, ret H a B (fun _ _ h => h) hB ⟨wB, fun r => by rw [← eB]; split <;> rfl⟩⟩
    refine ⟨_, rfl, rfl, _, rfl, ite2 (fun e3 => ?_) (fun e3 => ?_)⟩
    · obtain rfl : c = 0 := inat (y := 0) e3
      have eA := hA.fn .f
      exact ⟨_, rfl, ret H b D (fun _ _ h => h) hD ⟨wD, fun r => by rw [eA]; exact (if_neg Bool.false_ne_true).symm⟩⟩
    have hc2 : 2 ≤ c := by
      have g1 : c ≠ 1 := fun z => e (by subst z; exact decide_eq_true rfl)
      have g0 : c ≠ 0 := fun z => e3 (by subst z; exact decide_eq_true rfl)
      omega
    refine ⟨_, rfl, _, rfl, _, rfl, by show 3 ≤ sizeLine; decide, fun tp ntp => ?_⟩
    have s1 := same_upd ntp (o := .tup [.int ((c : Nat) : Int), .int ((a : Nat) : Int), .int ((b : Nat) : Int)])
    have et : (upd H tp (.tup [.int ((c : Nat) : Int), .int ((a : Nat) : Int), .int ((b : Nat) : Int)])) tp = some (.tup ((ky3 c a b).map kV)) := upd_same
    generalize upd H tp (.tup [.int ((c : Nat) : Int), .int ((a : Nat) : Int), .int ((b : Nat) : Int)]) = H1 at s1 et
    have st1 := st.ext s1
    obtain ⟨⟨dx, hp⟩, _, _, ⟨cvs, hm, hcl, hco⟩, _⟩ := id st1
    refine ⟨_, rfl, _, rfl, s.p, C, dx, _, _, rfl, hp, G.cl, G.nM, sf_comb s, s.m, _, rfl, DGet.t hm et, _, rfl, ?_⟩
    cases ev : valV cvs (ky3 c a b) with
    | some v =>
      obtain ⟨r, A', B', D', T, rfl, h1, h2, h3, h4, h5⟩ := hco _ _ _ _ ev
      have e1 := h1.fn hA
      have e2' := h2.fn hB
      have e3' := h3.fn hD
      subst e1 e2' e3'
      refine iteF ⟨_, rfl, s.p, C, dx, _, _, rfl, hp, G.cl, G.nM, sf_comb s, _, rfl, s.m, .int ((r : Nat) : Int), rfl, ?_, ?_⟩
      · have := DGet.t hm et
        rw [ev] at this
        exact this
      · refine ret H1 r T s1 h4 (ite_low (pre := pre) (by rw [← he]; exact st.es_nd) wA wB wD (by rw [← he]; exact h5))
    | none =>
      refine iteT ?_
      refine ⟨_, rfl, st1.go (by decide +kernel) (by decide +kernel) (by decide +kernel) ⟨_, rfl, ?_⟩⟩
      refine ⟨s, N, es, L, pre, es', tp, [(c, A), (a, B), (b, D)], rfl, st1, .of et, he, Nat.le_refl _, ?_, ⟨(c, A), List.mem_cons_self, hc2⟩, fun H2 pre2 x es2 s2 ee hw => ?_⟩
      · intro y hy
        simp only [List.mem_cons, List.not_mem_nil, or_false] at hy
        rcases hy with rfl | rfl | rfl
        · exact ⟨hA, wA⟩
        · exact ⟨hB, wB⟩
        · exact ⟨hD, wD⟩
      have st2 := st1.ext s2
      have vA := hw (c, A) (by simp)
      have vB := hw (a, B) (by simp)
      have vD := hw (b, D) (by simp)
      have hx : x ∉ es2 := by
        have := st.es_nd
        rw [he, ee] at this
        exact (List.nodup_cons.mp (List.nodup_append.mp (List.nodup_append.mp this).2.1).2.1).1
      refine ⟨_, rfl, st2.go (by decide +kernel) (by decide +kernel) (by decide +kernel) ⟨_, rfl, _, rfl, ?_⟩⟩
      refine ⟨s, N, es, L, x, es2, c, A, rfl, st2, hA, vA, hx, fun H3 q3 w1 t1 s3 e3 hw1 ht1 => ?_⟩
      refine ⟨q3, _, rfl, .of e3, rfl, _, _, rfl, _, _, rfl, rfl, ?_⟩
      have st3 := st2.ext s3
      refine ⟨_, rfl, st3.go (by decide +kernel) (by decide +kernel) (by decide +kernel) ⟨_, rfl, _, rfl, ?_⟩⟩
      refine ⟨s, N, es, L, x, es2, a, B, rfl, st3, hB, vB, hx, fun H4 q4 w2 t2 s4 e4 hw2 ht2 => ?_⟩
      refine ⟨q4, _, rfl, .of e4, rfl, _, _, rfl, _, _, rfl, rfl, ?_⟩
      have st4 := st3.ext s4
      refine ⟨_, rfl, st4.go (by decide +kernel) (by decide +kernel) (by decide +kernel) ⟨_, rfl, _, rfl, ?_⟩⟩
      refine ⟨s, N, es, L, x, es2, b, D, rfl, st4, hD, vD, hx, fun H5 q5 w3 t3 s5 e5 hw3 ht3 => ?_⟩
      refine ⟨q5, _, rfl, .of e5, rfl, _, _, rfl, _, _, rfl, rfl, ?_⟩
      have st5 := st4.ext s5
      have s25 := ((s2.trans s3).trans s4).trans s5
      have et5 := s25 _ _ et
      have lee : es'.length = pre2.length + (es2.length + 1) := by rw [ee, List.length_append, List.length_cons]
      have hpow : 2 ^ es2.length + 2 ^ es2.length ≤ 2 ^ es'.length := by
        have : 2 ^ (es2.length + 1) ≤ 2 ^ es'.length := Nat.pow_le_pow_right (by decide) (by omega)
        rw [Nat.pow_succ] at this
        omega
      have hp2 : 1 ≤ 2 ^ es2.length := Nat.one_le_two_pow
      have he2 : es = (pre ++ pre2 ++ [x]) ++ es2 := by rw [he, ee]; simp
      refine ⟨_, rfl, st5.go (by decide +kernel) (by decide +kernel) (by decide +kernel) ⟨_, rfl, ?_⟩⟩
      refine ⟨_, rfl, st5.go (by decide +kernel) (by decide +kernel) (by decide +kernel) ⟨_, rfl, _, rfl, _, rfl, ?_⟩⟩
      refine ⟨s, N, es, L, pre ++ pre2 ++ [x], es2, w1, w2, w3, A.cw x, B.cw x, D.cw x, rfl, st5, he2, by omega, hw1, hw2, hw3, (vA.cw hx).1, (vB.cw hx).1, (vD.cw hx).1, by omega, by omega, fun H6 M1 r1 T1 f6 l1 st6 a1 i1 => ?_⟩
      refine ⟨_, rfl, st6.go (by decide +kernel) (by decide +kernel) (by decide +kernel) ⟨_, rfl, _, rfl, _, rfl, ?_⟩⟩
      refine ⟨s, N ++ M1, es, _, pre ++ pre2 ++ [x], es2, t1, t2, t3, A.ct x, B.ct x, D.ct x, rfl, st6, he2, by omega, ht1.mono, ht2.mono, ht3.mono, (vA.ct hx).1, (vB.ct hx).1, (vD.ct hx).1, by rw [List.length_append]; omega, by omega, fun H7 M2 r2 T2 f7 l2 st7 a2 i2 => ?_⟩
      refine ⟨s, (N ++ M1) ++ M2, es, _, x, r1, r2, T1, T2, rfl, st7, a1.mono, a2, by rw [List.length_append, List.length_append]; omega, fun H8 M3 r f8 l3 st8 a3 => ?_⟩
      have f58 := (f6.trans f7).trans f8
      have et8 := st5.tup f58 _ _ (.inl ⟨_, rfl⟩) et5
      have eN : N ++ M1 ++ M2 ++ M3 = N ++ (M1 ++ M2 ++ M3) := by simp only [List.append_assoc]
      rw [eN] at st8 a3
      have hI : IsIte es' A B D (mkB x T1 T2) := by
        rw [ee]
        exact (ite_step hx vA vB vD i1 i2).skips pre2
      obtain ⟨cv8, hm8, hl8, st9, f9⟩ := st8.put (hA.mono (M := M1 ++ M2 ++ M3)) (hB.mono (M := M1 ++ M2 ++ M3)) (hD.mono (M := M1 ++ M2 ++ M3)) a3 (by rw [he]; exact hI.skips pre)
      obtain ⟨dx8, hp8⟩ := st8.ins
      refine ⟨_, rfl, s.p, C, dx8, _, _, rfl, hp8, G.cl, G.nM, sf_comb s, _, rfl, s.m, _, rfl, DPut.t hm8 et8 (by omega), ?_⟩
      obtain ⟨dx9, hp9⟩ := st9.ins
      have et9 := st8.tup f9 _ _ (.inl ⟨_, rfl⟩) et8
      have em9 : (upd H8 s.m (.dT (putK cv8 (ky3 c a b) (.int ((r : Nat) : Int))))) s.m = some (.dT (putK cv8 (ky3 c a b) (.int ((r : Nat) : Int)))) := upd_same
      refine ⟨_, rfl, s.p, C, dx9, _, _, rfl, hp9, G.cl, G.nM, sf_comb s, _, rfl, s.m, .int ((r : Nat) : Int), rfl, ?_, ?_⟩
      · have := DGet.t em9 et9
        rw [valV_put, if_pos rfl] at this
        exact this
      · refine q _ (M1 ++ M2 ++ M3) r _ (((FdS.of (s1.trans s25)).trans f58).trans f9) ?_ (st9.more ?_) a3 hI
        · rw [List.length_append, List.length_append]
          omega
        · omega
end

/-! ### the least question of conditions in a list -/
def sp_topL (C : Addr) (K : PySem.W.Frag) : Sp := fun vs H Q _ => ∃ s N es L pre es' a, ∃ cs : List (Nat × Bd), vs = [.ref s.p, .ref a] ∧ Sto C K H s N es L ∧ H a = some (.lst (cs.map fun c => .int ((c.1 : Nat) : Int))) ∧ es = pre ++ es' ∧ cs.length ≤ 3 ∧ (∀ c ∈ cs, At N c.1 c.2 ∧ Wf es' c.2) ∧ (∃ c ∈ cs, 2 ≤ c.1) ∧
  ∀ H' pre2 x es2, Same H H' → es' = pre2 ++ x :: es2 → (∀ c ∈ cs, Wf (x :: es2) c.2) → (∃ c ∈ cs, ∃ w t, c.2 = Bd.nd x w t) → Q (.int x) H'
section
variable {P : Program} {w : World} {K : PySem.W.Frag} {mg : Str → Option Value} {base : Heap}
theorem ok_topL {f C : Addr} {fd : FuncData} (F : Fun K "top" "Diagrams.top" s_Diagrams_top f fd) (M : Mg mg) (G : DgC K C mg) (c_Diagrams_node_of : ClM P w K mg base 1 C "node_of" (sp_nof C K)) : FnOk P w K mg base CX0 2 f fd ["self", "conditions"] (sp_topL C K) := by
  refine F.ok sc_Diagrams_top (fun vs H Q E h => ?_) (fun cdv A outer s H vs Q E hr h => ?_)
  · obtain ⟨s, N, es, L, pre, es', a, cs, rfl, _⟩ := h
    rfl
  · obtain ⟨s, N, es, L, pre, es', a, cs, rfl, st, ha, he, hl, hc, hex, q⟩ := h
    refine ⟨_, (pss_one (ps_ret (pe_callB (cr_min rfl) (by rfl) M.min (by decide +kernel) (pa_cons (pe_lc (own := [("condition", 2)]) (g := gName 2) rfl sc_Diagrams_top.nd (pi_list (pv 1)) (blkOk_by (N := N_Diagrams_top) (sc := defScope s_Diagrams_top) (by decide +kernel)) (fun _ _ _ _ _ => (pg_name (i := 2) sc_Diagrams_top.nd rfl (.inl rfl))) (fun _ _ _ _ _ => (pts_one (pt_cmpR op_ge (pv 2) (C8.pe_gc (by rfl) G.FIRST_NODE) (nomark _)))) (fun _ _ _ _ _ => (pe_ix (ix_tupK K) (pe_mt c_Diagrams_node_of hr (by first | decide | omega) (pv 0) (pa_cons (pv 2) pa_nil)) pe_int (fun _ _ => rfl)))) pa_nil)))), ?_⟩
    refine ⟨_, rfl, a, rfl, ⟨_, .of ha⟩, fun D nD => ?_⟩
    refine lc_list (K := K) (a := a) (xs := cs.map fun c => .int ((c.1 : Nat) : Int)) (fun i Hi => Same H Hi ∧ ∃ ns : List Int, Hi D = some (.lst (ns.map V.int)) ∧ ns.length ≤ i ∧ ns = (cs.take i).filterMap fun c => topOf c.2) ⟨same_upd nD, [], upd_same, Nat.zero_le _, rfl⟩ (fun i Hi _ hp => .of (hp.1 _ _ ha)) (fun i x Hi hx hp => ?_) (fun Hn hp => ?_)
    · obtain ⟨si, ns, eD, ln, en⟩ := hp
      rw [List.getElem?_map] at hx
      obtain ⟨c, hcv, rfl⟩ := Option.map_eq_some_iff.mp hx
      have hi : i < cs.length := (List.getElem?_eq_some_iff.mp hcv).1
      obtain ⟨hAt, hWf⟩ := hc c (List.mem_of_getElem? hcv)
      have sti := st.ext si
      refine ⟨rfl, ?_⟩
      refine ⟨_, rfl, _, _, rfl, rfl, _, rfl, ite2 (fun e => ?_) (fun e => ?_)⟩
      · have h2 : 2 ≤ c.1 := by
          have := of_decide_eq_true e
          omega
        obtain ⟨e1, w1, t1, a1, b1, hn, hw1, ht1, ea⟩ := hAt.ge h2
        refine ⟨_, rfl, sti.go (by decide +kernel) (by decide +kernel) (by decide +kernel) ⟨_, rfl, ?_⟩⟩
        refine ⟨s, N, es, L, c.1, _, rfl, sti, h2, hn, fun qa hq => ?_⟩
        refine ⟨qa, _, _, _, rfl, rfl, hq, atI_nat (j := 0) rfl, ?_⟩
        refine ⟨_, eD, by rw [List.length_map]; exact Nat.lt_of_le_of_lt ln (Nat.lt_of_lt_of_le hi (Nat.le_trans hl (by decide))), ?_, ns ++ [e1], ?_, ?_, ?_⟩
        · intro b o hb
          rw [upd_ne (ne_of_none hb nD)]
          exact si _ _ hb
        · rw [upd_same, List.map_append]
          rfl
        · rw [List.length_append]
          show _ + 1 ≤ _
          omega
        · rw [List.take_add_one, hcv, List.filterMap_append, ← en]
          show _ = _ ++ ([c].filterMap fun c => topOf c.2)
          rw [List.filterMap_cons, ea]
          rfl
      · have h2 : ¬ 2 ≤ c.1 := by
          intro h
          exact e (decide_eq_true (by omega))
        refine ⟨si, ns, eD, by omega, ?_⟩
        rw [List.take_add_one, hcv, List.filterMap_append, ← en]
        show _ = _ ++ ([c].filterMap fun c => topOf c.2)
        have : topOf c.2 = none := by
          generalize c.1 = cn at hAt h2
          generalize c.2 = A at hAt
          cases hAt with
          | f => rfl
          | t => rfl
          | nd _ _ _ => omega
        rw [List.filterMap_cons, this]
        exact (List.append_nil _).symm
    · obtain ⟨sn, ns, eD, ln, en⟩ := hp
      rw [List.length_map, List.take_of_length_le (Nat.le_refl _)] at en
      obtain ⟨c0, hc0, h20⟩ := hex
      have hex' : ∃ a ∈ cs.map (·.2), ∀ b, a ≠ .lf b := by
        refine ⟨c0.2, List.mem_map.mpr ⟨c0, hc0, rfl⟩, fun b z => ?_⟩
        obtain ⟨_, _, _, _, _, _, _, _, ea⟩ := (hc c0 hc0).1.ge h20
        rw [ea] at z
        cases z
      obtain ⟨pre2, x, es2, ee, hwf, w0, t0, hm0⟩ := top_ex (es := es') (cs := cs.map (·.2)) (fun a ha => by
        obtain ⟨c, hcm, rfl⟩ := List.mem_map.mp ha
        exact (hc c hcm).2) hex'
      have hwf' : ∀ c ∈ cs, Wf (x :: es2) c.2 := fun c hcm => hwf _ (List.mem_map.mpr ⟨c, hcm, rfl⟩)
      have hx : x ∈ ns := by
        obtain ⟨c, hcm, ec⟩ := List.mem_map.mp hm0
        rw [en]
        exact List.mem_filterMap.mpr ⟨c, hcm, by rw [ec]; rfl⟩
      refine ⟨D, ns, rfl, .of eD, List.length_pos_of_mem hx, fun m hm hmin => ?_⟩
      have h1 := hmin x hx
      rw [en] at hm
      obtain ⟨c, hcm, ec⟩ := List.mem_filterMap.mp hm
      have h2 : x ≤ m := by
        have hw := hwf' c hcm
        generalize c.2 = A at hw ec
        cases A with
        | lf b => cases ec
        | nd y w t =>
          have e : y = m := Option.some.inj ec
          subst e
          have srt := st.srt
          rw [he, ee, ← List.append_assoc] at srt
          exact srt_le srt hw.none_of
      obtain rfl : m = x := by omega
      exact q Hn pre2 m es2 sn ee hwf' (by
        obtain ⟨c, hcm, ec⟩ := List.mem_map.mp hm0
        exact ⟨c, hcm, _, _, ec⟩)
end

/-! ### the operations, and what is said of a condition -/
theorem inV_int (e : Int) (ps : List Int) : inV (.int e) (ps.map V.int) = decide (e ∈ ps) := by
  unfold inV
  rw [List.any_map]
  by_cases h : e ∈ ps
  · rw [decide_eq_true h, List.any_eq_true]
    exact ⟨e, h, beq_self_eq_true e⟩
  · rw [decide_eq_false h]
    cases h2 : ps.any ((fun y => eqV y (.int e)) ∘ V.int) with
    | false => rfl
    | true =>
      exfalso
      obtain ⟨y, hy, hb⟩ := List.any_eq_true.mp h2
      have : y = e := eq_of_beq hb
      exact h (this ▸ hy)
theorem ints_flat (ps : List Int) : (ps.map V.int).all flatV = true := by
  rw [List.all_map]
  exact List.all_eq_true.mpr fun _ _ => rfl
def Bd.ht : Bd → Nat
  | .lf _ => 0
  | .nd _ w t => max w.ht t.ht + 1
def sp_there (C : Addr) (K : PySem.W.Frag) : Sp := fun vs H Q _ => ∃ s N es L x, vs = [.ref s.p, .int x] ∧ Sto C K H s N es L ∧ N.length + 1 < sizeLine ∧
  ∀ H' M r, FdS s H H' → M.length ≤ 1 → Sto C K H' s (N ++ M) es L → At (N ++ M) r (.nd x (.lf false) (.lf true)) → Q (.int ((r : Nat) : Int)) H'
def opB (es : List Int) : Nat := 2 * 2 ^ es.length
def sp_op2 (C : Addr) (K : PySem.W.Frag) (n : Nat) (f : Bool → Bool → Bool) : Sp := fun vs H Q _ => ∃ s N es L a b A B, vs = [.ref s.p, .int ((a : Nat) : Int), .int ((b : Nat) : Int)] ∧ Sto C K H s N es L ∧ es.length < n ∧ At N a A ∧ At N b B ∧ Wf es A ∧ Wf es B ∧ N.length + opB es < sizeLine ∧ L + opB es < sizeLine ∧
  ∀ H' M r T, FdS s H H' → M.length ≤ opB es → Sto C K H' s (N ++ M) es (L + opB es) → At (N ++ M) r T → Wf es T → (∀ ρ, T.ev ρ = f (A.ev ρ) (B.ev ρ)) → Q (.int ((r : Nat) : Int)) H'
def sp_neg (C : Addr) (K : PySem.W.Frag) (n : Nat) : Sp := fun vs H Q _ => ∃ s N es L a A, vs = [.ref s.p, .int ((a : Nat) : Int)] ∧ Sto C K H s N es L ∧ es.length < n ∧ At N a A ∧ Wf es A ∧ N.length + 2 ^ es.length < sizeLine ∧ L + 2 ^ es.length < sizeLine ∧
  ∀ H' M r T, FdS s H H' → M.length ≤ 2 ^ es.length → Sto C K H' s (N ++ M) es (L + 2 ^ es.length) → At (N ++ M) r T → Wf es T → (∀ ρ, T.ev ρ = !(A.ev ρ)) → Q (.int ((r : Nat) : Int)) H'
def sp_holds (C : Addr) (K : PySem.W.Frag) : Sp := fun vs H Q _ => ∃ s N es L c A a, ∃ ps : List Int, vs = [.ref s.p, .int ((c : Nat) : Int), .ref a] ∧ Sto C K H s N es L ∧ At N c A ∧ SqL K H a (ps.map V.int) ∧ Q (.bl (A.ev fun e => decide (e ∈ ps))) H
def sp_dinit (C : Addr) (K : PySem.W.Frag) : Sp := fun vs H Q _ => ∃ p dx, vs = [.ref p] ∧ H p = some (.ins C dx []) ∧ ∀ H' s, s.p = p → Fd p H H' → H s.k = none → H s.u = none → H s.m = none → (∀ es : List Int, es.Pairwise (· < ·) → Sto C K H' s [] es 0) → Q .non H'
theorem dk1 : ¬ (("kept" : Str) = "numbers") := by decide +kernel
theorem dk2 : ¬ (("kept" : Str) = "combined") := by decide +kernel
theorem dk3 : ¬ (("numbers" : Str) = "combined") := by decide +kernel
theorem sf_mk (s : SA) : putF "combined" (.ref s.m) (putF "numbers" (.ref s.u) (putF "kept" (.ref s.k) [])) = sfl s := by
  unfold sfl
  simp only [putF, if_neg dk1, if_neg dk2, if_neg dk3]
section
variable {P : Program} {w : World} {K : PySem.W.Frag} {mg : Str → Option Value} {base : Heap}
theorem bu_ne {C : Addr} {sa : SA} {N : Nds} {es : List Int} {L : Nat} {H : Hp} {B : Addr} (st : Sto C K H sa N es L) (nB : H B = none) : B ≠ sa.k ∧ B ≠ sa.u ∧ B ≠ sa.m := by
  obtain ⟨_, ⟨_, g1, _⟩, ⟨_, g2, _⟩, ⟨_, g3, _⟩, _⟩ := st
  exact ⟨(ne_of_none g1 nB).symm, (ne_of_none g2 nB).symm, (ne_of_none g3 nB).symm⟩
theorem cl_comb {f C : Addr} {fd : FuncData} (F : Fun K "combine" "Diagrams.combine" s_Diagrams_combine f fd) (M : Mg mg) (G : DgC K C mg) (mt : Meth K C "combine" f) (bi : Binds K fd ["self", "condition", "first", "second"] []) (c_Diagrams_node : ClM P w K mg base 1 C "node" (sp_node C K)) (c_Diagrams_top : ClM P w K mg base 2 C "top" (sp_top C K)) (c_Diagrams_branches : ClM P w K mg base 2 C "branches" (sp_bra C K)) :
    ∀ n, ClM P w K mg base (n + 2) C "combine" (sp_comb C K n)
  | 0 => FnOk.clm (P := P) (w := w) (base := base) (mg := mg) (F.ok sc_Diagrams_combine (fun vs H Q E h => by obtain ⟨s, N, es, L, pre, es', c, a, b, A, B, D, rfl, _⟩ := h; rfl) (fun cdv A outer s H vs Q E hr h => by obtain ⟨s, N, es, L, pre, es', c, a, b, A, B, D, rfl, st, he, hn, _⟩ := h; omega)) mt G.cl bi
  | n + 1 => FnOk.clm (ok_comb n F M G c_Diagrams_node c_Diagrams_top c_Diagrams_branches (cl_comb F M G mt bi c_Diagrams_node c_Diagrams_top c_Diagrams_branches n)) mt G.cl bi
theorem ok_there {f C : Addr} {fd : FuncData} (F : Fun K "there" "Diagrams.there" s_Diagrams_there f fd) (M : Mg mg) (G : DgC K C mg) (c_Diagrams_node : ClM P w K mg base 1 C "node" (sp_node C K)) : FnOk P w K mg base CX0 2 f fd ["self", "entry"] (sp_there C K) := by
  refine F.ok sc_Diagrams_there (fun vs H Q E h => ?_) (fun cdv A outer s H vs Q E hr h => ?_)
  · obtain ⟨s, N, es, L, x, rfl, _⟩ := h
    rfl
  · obtain ⟨s, N, es, L, x, rfl, st, hz, q⟩ := h
    refine ⟨_, (pss_one (ps_ret (pe_mt c_Diagrams_node hr (by first | decide | omega) (pv 0) (pa_cons (pv 1) (pa_cons (C8.pe_gc (by rfl) G.NEVER) (pa_cons (C8.pe_gc (by rfl) G.ALWAYS) pa_nil)))))), ?_⟩
    refine ⟨_, rfl, st.go (by decide +kernel) (by decide +kernel) (by decide +kernel) ⟨_, rfl, ?_⟩⟩
    exact ⟨s, N, es, L, x, 0, 1, _, _, rfl, st, .f, .t, hz, fun H' M r f l st' a => q H' M r f l st' a⟩
theorem opB_ge (es : List Int) : 2 ^ es.length + 2 ^ es.length = opB es := by unfold opB; omega
theorem ok_conj {n : Nat} {f C : Addr} {fd : FuncData} (F : Fun K "conjunction" "Diagrams.conjunction" s_Diagrams_conjunction f fd) (M : Mg mg) (G : DgC K C mg) (c_Diagrams_combine : ClM P w K mg base (n + 2) C "combine" (sp_comb C K n)) : FnOk P w K mg base CX0 (n + 3) f fd ["self", "first", "second"] (sp_op2 C K n and) := by
  refine F.ok sc_Diagrams_conjunction (fun vs H Q E h => ?_) (fun cdv A outer s H vs Q E hr h => ?_)
  · obtain ⟨s, N, es, L, a, b, A, B, rfl, _⟩ := h
    rfl
  · obtain ⟨s, N, es, L, a, b, A, B, rfl, st, hn, hA, hB, wA, wB, z1, z2, q⟩ := h
    have ob := opB_ge es
    refine ⟨_, (pss_one (ps_ret (pe_mt c_Diagrams_combine hr (by first | decide | omega) (pv 0) (pa_cons (pv 1) (pa_cons (pv 2) (pa_cons (C8.pe_gc (by rfl) G.NEVER) pa_nil)))))), ?_⟩
    refine ⟨_, rfl, st.go (by decide +kernel) (by decide +kernel) (by decide +kernel) ⟨_, rfl, _, rfl, ?_⟩⟩
    refine ⟨s, N, es, L, [], es, a, b, 0, A, B, _, rfl, st, rfl, hn, hA, hB, .f, wA, wB, .lf, by omega, by omega, fun H' M r T f l st' a i => q H' M r T f (by omega) (st'.more (by omega)) a i.1 fun ρ => ?_⟩
    rw [i.2]
    cases A.ev ρ <;> rfl
theorem ok_disj {n : Nat} {f C : Addr} {fd : FuncData} (F : Fun K "disjunction" "Diagrams.disjunction" s_Diagrams_disjunction f fd) (M : Mg mg) (G : DgC K C mg) (c_Diagrams_combine : ClM P w K mg base (n + 2) C "combine" (sp_comb C K n)) : FnOk P w K mg base CX0 (n + 3) f fd ["self", "first", "second"] (sp_op2 C K n or) := by
  refine F.ok sc_Diagrams_disjunction (fun vs H Q E h => ?_) (fun cdv A outer s H vs Q E hr h => ?_)
  · obtain ⟨s, N, es, L, a, b, A, B, rfl, _⟩ := h
    rfl
  · obtain ⟨s, N, es, L, a, b, A, B, rfl, st, hn, hA, hB, wA, wB, z1, z2, q⟩ := h
    have ob := opB_ge es
    refine ⟨_, (pss_one (ps_ret (pe_mt c_Diagrams_combine hr (by first | decide | omega) (pv 0) (pa_cons (pv 1) (pa_cons (C8.pe_gc (by rfl) G.ALWAYS) (pa_cons (pv 2) pa_nil)))))), ?_⟩
    refine ⟨_, rfl, st.go (by decide +kernel) (by decide +kernel) (by decide +kernel) ⟨_, rfl, _, rfl, ?_⟩⟩
    refine ⟨s, N, es, L, [], es, a, 1, b, A, _, B, rfl, st, rfl, hn, hA, .t, hB, wA, .lf, wB, by omega, by omega, fun H' M r T f l st' a i => q H' M r T f (by omega) (st'.more (by omega)) a i.1 fun ρ => ?_⟩
    rw [i.2]
    cases A.ev ρ <;> rfl
theorem ok_neg {n : Nat} {f C : Addr} {fd : FuncData} (F : Fun K "negation" "Diagrams.negation" s_Diagrams_negation f fd) (M : Mg mg) (G : DgC K C mg) (c_Diagrams_combine : ClM P w K mg base (n + 2) C "combine" (sp_comb C K n)) : FnOk P w K mg base CX0 (n + 3) f fd ["self", "condition"] (sp_neg C K n) := by
  refine F.ok sc_Diagrams_negation (fun vs H Q E h => ?_) (fun cdv A outer s H vs Q E hr h => ?_)
  · obtain ⟨s, N, es, L, a, A, rfl, _⟩ := h
    rfl
  · obtain ⟨s, N, es, L, a, A, rfl, st, hn, hA, wA, z1, z2, q⟩ := h
    refine ⟨_, (pss_one (ps_ret (pe_mt c_Diagrams_combine hr (by first | decide | omega) (pv 0) (pa_cons (pv 1) (pa_cons (C8.pe_gc (by rfl) G.NEVER) (pa_cons (C8.pe_gc (by rfl) G.ALWAYS) pa_nil)))))), ?_⟩
    refine ⟨_, rfl, st.go (by decide +kernel) (by decide +kernel) (by decide +kernel) ⟨_, rfl, ?_⟩⟩
    refine ⟨s, N, es, L, [], es, a, 0, 1, A, _, _, rfl, st, rfl, hn, hA, .f, .t, wA, .lf, .lf, by omega, by omega, fun H' M r T f l st' a i => q H' M r T f (by omega) (st'.more (by omega)) a i.1 fun ρ => ?_⟩
    rw [i.2]
    cases A.ev ρ <;> rfl
theorem ok_diff {n : Nat} {f C : Addr} {fd : FuncData} (F : Fun K "differs" "Diagrams.differs" s_Diagrams_differs f fd) (M : Mg mg) (G : DgC K C mg) (c_Diagrams_combine : ClM P w K mg base (n + 2) C "combine" (sp_comb C K n)) (c_Diagrams_negation : ClM P w K mg base (n + 3) C "negation" (sp_neg C K n)) : FnOk P w K mg base CX0 (n + 4) f fd ["self", "first", "second"] (sp_op2 C K n bne) := by
  refine F.ok sc_Diagrams_differs (fun vs H Q E h => ?_) (fun cdv A outer s H vs Q E hr h => ?_)
  · obtain ⟨s, N, es, L, a, b, A, B, rfl, _⟩ := h
    rfl
  · obtain ⟨s, N, es, L, a, b, A, B, rfl, st, hn, hA, hB, wA, wB, z1, z2, q⟩ := h
    have ob := opB_ge es
    refine ⟨_, (pss_one (ps_ret (pe_mt c_Diagrams_combine hr (by first | decide | omega) (pv 0) (pa_cons (pv 1) (pa_cons (pe_mt c_Diagrams_negation hr (by first | decide | omega) (pv 0) (pa_cons (pv 2) pa_nil)) (pa_cons (pv 2) pa_nil)))))), ?_⟩
    refine ⟨_, rfl, st.go (by decide +kernel) (by decide +kernel) (by decide +kernel) ⟨_, rfl, ?_⟩⟩
    refine ⟨_, rfl, st.go (by decide +kernel) (by decide +kernel) (by decide +kernel) ⟨_, rfl, ?_⟩⟩
    refine ⟨s, N, es, L, b, B, rfl, st, hn, hB, wB, by omega, by omega, fun H1 M1 r1 T1 f1 l1 st1 a1 w1 v1 => ?_⟩
    refine ⟨_, rfl, ?_⟩
    refine ⟨s, N ++ M1, es, _, [], es, a, r1, b, A, T1, B, rfl, st1, rfl, hn, hA.mono, a1, hB.mono, wA, w1, wB, by rw [List.length_append]; omega, by omega, fun H2 M2 r2 T2 f2 l2 st2 a2 i2 => ?_⟩
    rw [List.append_assoc] at st2 a2
    refine q H2 (M1 ++ M2) r2 T2 (f1.trans f2) (by rw [List.length_append]; omega) (st2.more (by omega)) a2 i2.1 fun ρ => ?_
    rw [i2.2, v1]
    cases A.ev ρ <;> cases B.ev ρ <;> rfl
theorem ok_dinit {f C : Addr} {fd : FuncData} (F : Fun K "__init__" "Diagrams.__init__" s_Diagrams___init__ f fd) (G : DgC K C mg) : FnOk P w K mg base CX0 1 f fd ["self"] (sp_dinit C K) := by
  refine F.ok sc_Diagrams___init__ (fun vs H Q E h => ?_) (fun cdv A outer s H vs Q E hr h => ?_)
  · obtain ⟨p, dx, rfl, _⟩ := h
    rfl
  · obtain ⟨p, dx, rfl, hp, q⟩ := h
    refine ⟨_, (pss_cons (ps_fld (pv 0) (pe_lst pa_nil) rfl)
      (pss_cons (ps_fld (pv 0) pe_dnewT rfl)
      (pss_one (ps_fld (pv 0) pe_dnewT rfl)))), ?_⟩
    refine ⟨by show 0 ≤ sizeLine; decide, fun k nk => ?_⟩
    have npk : p ≠ k := ne_of_none hp nk
    have e1 : (upd H k (.lst [])) p = some (.ins C dx []) := by rw [upd_ne npk]; exact hp
    refine ⟨_, rfl, p, C, dx, [], rfl, e1, G.cl, G.nK, by show 0 < 1000; decide, ?_⟩
    have f1 : Fd p H (upd (upd H k (.lst [])) p (.ins C dx (putF "kept" (.ref k) []))) := Fd.trans (Fd.new nk) Fd.at
    have ek1 : (upd (upd H k (.lst [])) p (.ins C dx (putF "kept" (.ref k) []))) k = some (.lst []) := by rw [upd_ne npk.symm, upd_same]
    have ep1 : (upd (upd H k (.lst [])) p (.ins C dx (putF "kept" (.ref k) []))) p = some (.ins C dx (putF "kept" (.ref k) [])) := upd_same
    generalize upd (upd H k (.lst [])) p (.ins C dx (putF "kept" (.ref k) [])) = H1 at f1 ek1 ep1
    intro u nu
    have npu : p ≠ u := ne_of_none ep1 nu
    have hu0 : H u = none := by
      cases e : H u with
      | none => rfl
      | some o => exact absurd (f1 u o npu.symm e) (by rw [nu]; exact fun z => nomatch z)
    have nku : k ≠ u := ne_of_none ek1 nu
    have e2 : (upd H1 u (.dT [])) p = some (.ins C dx (putF "kept" (.ref k) [])) := by rw [upd_ne npu]; exact ep1
    refine ⟨_, rfl, p, C, dx, _, rfl, e2, G.cl, G.nN, by show 1 < 1000; decide, ?_⟩
    have f2 : Fd p H1 (upd (upd H1 u (.dT [])) p (.ins C dx (putF "numbers" (.ref u) (putF "kept" (.ref k) [])))) := Fd.trans (Fd.new nu) Fd.at
    have eu2 : (upd (upd H1 u (.dT [])) p (.ins C dx (putF "numbers" (.ref u) (putF "kept" (.ref k) [])))) u = some (.dT []) := by rw [upd_ne npu.symm, upd_same]
    have ep2 : (upd (upd H1 u (.dT [])) p (.ins C dx (putF "numbers" (.ref u) (putF "kept" (.ref k) [])))) p = some (.ins C dx (putF "numbers" (.ref u) (putF "kept" (.ref k) []))) := upd_same
    generalize upd (upd H1 u (.dT [])) p (.ins C dx (putF "numbers" (.ref u) (putF "kept" (.ref k) []))) = H2 at f2 eu2 ep2
    intro m nm
    have npm : p ≠ m := ne_of_none ep2 nm
    have f12 := f1.trans f2
    have hm0 : H m = none := by
      cases e : H m with
      | none => rfl
      | some o => exact absurd (f12 m o npm.symm e) (by rw [nm]; exact fun z => nomatch z)
    have num : u ≠ m := ne_of_none eu2 nm
    have ek2 := f2 k _ npk.symm ek1
    have e3 : (upd H2 m (.dT [])) p = some (.ins C dx (putF "numbers" (.ref u) (putF "kept" (.ref k) []))) := by rw [upd_ne npm]; exact ep2
    refine ⟨_, rfl, p, C, dx, _, rfl, e3, G.cl, G.nM, by show 2 < 1000; decide, ?_⟩
    have f3 : Fd p H2 (upd (upd H2 m (.dT [])) p (.ins C dx (putF "combined" (.ref m) (putF "numbers" (.ref u) (putF "kept" (.ref k) []))))) := Fd.trans (Fd.new nm) Fd.at
    have em3 : (upd (upd H2 m (.dT [])) p (.ins C dx (putF "combined" (.ref m) (putF "numbers" (.ref u) (putF "kept" (.ref k) []))))) m = some (.dT []) := by rw [upd_ne npm.symm, upd_same]
    refine q _ ⟨p, k, u, m⟩ rfl (f12.trans f3) nk hu0 hm0 fun es hes => ⟨⟨dx, ?_⟩, ⟨[], f3 _ _ npk.symm ek2, .nil⟩, ⟨[], f3 _ _ npu.symm eu2, Nat.le_refl _, ⟨fun _ _ _ _ => List.not_mem_nil, fun _ _ _ _ h => nomatch (show none = some _ from h)⟩⟩, ⟨[], em3, Nat.le_refl _, fun _ _ _ _ h => nomatch (show none = some _ from h)⟩, List.nodup_nil, num, hes⟩
    rw [upd_same]
    exact congrArg (fun z => some (HO.ins C dx z)) (sf_mk ⟨p, k, u, m⟩)
end

theorem wne (a b : String) (h : (Str.ofString a == Str.ofString b) = false) : decide (V.str (Str.ofString a) = V.str (Str.ofString b)) = false := by
  refine decide_eq_false fun e => ?_
  rw [V.str.inj e] at h
  have : (Str.ofString b == Str.ofString b) = true := beq_self_eq_true _
  rw [this] at h
  cases h
theorem weq (a : Str) : decide (V.str a = V.str a) = true := decide_eq_true rfl
section
variable {K : PySem.W.Frag}
/-- a tuple's word and the rest -/
theorem dp_tup {H : Hp} {p : V} {ds : List PyData} (h : Dp K H p (.tuple ds)) : ∃ a xs, p = .ref a ∧ SqT K H a xs ∧ DpAll K H xs ds := by
  cases h with
  | tup hs ha => exact ⟨_, _, rfl, hs, ha⟩
theorem dp_two {H : Hp} {xs : List V} {s : Str} {d : PyData} (h : DpAll K H xs [.str s, d]) : ∃ v, xs = [.str s, v] ∧ Dp K H v d := by
  cases h with
  | cons h1 h2 =>
    cases h1
    cases h2 with
    | cons h3 h4 =>
      cases h4
      exact ⟨_, rfl, h3⟩
theorem dp_three {H : Hp} {xs : List V} {s : Str} {d e : PyData} (h : DpAll K H xs [.str s, d, e]) : ∃ v u, xs = [.str s, v, u] ∧ Dp K H v d ∧ Dp K H u e := by
  cases h with
  | cons h1 h2 =>
    cases h1
    cases h2 with
    | cons h3 h4 =>
      cases h4 with
      | cons h5 h6 =>
        cases h6
        exact ⟨_, _, rfl, h3, h5⟩
end

/-! ### the laws' input rows and conditions -/
inductive Bo where
  | and | or | df
def Bo.s : Bo → String
  | .and => "and" | .or => "or" | .df => "differ"
def Bo.f : Bo → Bool → Bool → Bool
  | .and => Bool.and | .or => Bool.or | .df => bne
inductive Tr where
  | con (b : Bool)
  | ther (e : Int)
  | nt (a : Tr)
  | bin (o : Bo) (a b : Tr)
def Tr.d : Tr → PyData
  | .con b => .tuple [.str "constant", .int (if b = true then 1 else 0)]
  | .ther e => .tuple [.str "there", .int e]
  | .nt a => .tuple [.str "not", a.d]
  | .bin o a b => .tuple [.str (Str.ofString o.s), a.d, b.d]
def Tr.ht : Tr → Nat
  | .nt a => a.ht + 1
  | .bin _ a b => max a.ht b.ht + 1
  | _ => 0
def Tr.sz : Tr → Nat
  | .nt a => a.sz + 1
  | .bin _ a b => a.sz + b.sz + 1
  | _ => 1
def Tr.ok (es : List Int) : Tr → Prop
  | .con _ => True
  | .ther e => e ∈ es
  | .nt a => a.ok es
  | .bin _ a b => a.ok es ∧ b.ok es
def Tr.ev : Tr → (Int → Bool) → Bool
  | .con b, _ => b
  | .ther e, r => r e
  | .nt a, r => !(a.ev r)
  | .bin o a b, r => o.f (a.ev r) (b.ev r)
theorem tr_only : ∀ t : Tr, tupOnly t.d = true
  | .con _ => rfl
  | .ther _ => rfl
  | .nt a => by simp [Tr.d, tupOnly, tupOnlys, tr_only a]
  | .bin _ a b => by simp [Tr.d, tupOnly, tupOnlys, tr_only a, tr_only b]
theorem tr_sz : ∀ t : Tr, t.sz + 1 ≤ 2 ^ (t.ht + 1)
  | .con _ => Nat.le_refl _
  | .ther _ => Nat.le_refl _
  | .nt a => by
    have := tr_sz a
    show a.sz + 1 + 1 ≤ 2 ^ (a.ht + 1 + 1)
    rw [Nat.pow_succ]
    have : 1 ≤ 2 ^ (a.ht + 1) := Nat.one_le_two_pow
    omega
  | .bin _ a b => by
    have h1 := Nat.le_trans (tr_sz a) (Nat.pow_le_pow_right (by decide) (show a.ht + 1 ≤ max a.ht b.ht + 1 by omega))
    have h2 := Nat.le_trans (tr_sz b) (Nat.pow_le_pow_right (by decide) (show b.ht + 1 ≤ max a.ht b.ht + 1 by omega))
    show a.sz + b.sz + 1 + 1 ≤ 2 ^ (max a.ht b.ht + 1 + 1)
    rw [Nat.pow_succ]
    omega
/-- it goes by the input rows of the list alone -/
theorem tr_agree {es : List Int} : ∀ {t : Tr} {r q : Int → Bool}, t.ok es → (∀ e ∈ es, r e = q e) → t.ev r = t.ev q
  | .con _, _, _, _, _ => rfl
  | .ther e, _, _, h, g => g e h
  | .nt a, r, q, h, g => congrArg not (tr_agree (t := a) h g)
  | .bin o a b, r, q, h, g => by
    show o.f _ _ = o.f _ _
    rw [tr_agree (t := a) h.1 g, tr_agree (t := b) h.2 g]
theorem wf_agree {es : List Int} {a : Bd} (h : Wf es a) : ∀ {r q : Int → Bool}, (∀ e ∈ es, r e = q e) → a.ev r = a.ev q := by
  induction h with
  | lf => intros; rfl
  | @here x es w t _ _ _ iw it =>
    intro r q g
    have gx := g x List.mem_cons_self
    have g' := fun e he => g e (List.mem_cons_of_mem _ he)
    show (if r x = true then t.ev r else w.ev r) = if q x = true then t.ev q else w.ev q
    rw [gx, iw g', it g']
  | skip _ ih =>
    intro r q g
    exact ih fun e he => g e (List.mem_cons_of_mem _ he)
/-- the input rows: a few, ascending -/
def EnA (H : Hp) (a d c : Addr) (es : List Int) (most : Nat) : Prop := a ≠ d ∧ a ≠ c ∧ H a = some (.lst (es.map V.int)) ∧ es.Pairwise (· < ·) ∧ 1 ≤ es.length ∧ es.length ≤ most ∧ ∀ e ∈ es, 0 ≤ e ∧ e < 1000
theorem EnA.fd {H H' : Hp} {a d c : Addr} {es : List Int} {most : Nat} (f : Fd d H H') (h : EnA H a d c es most) : EnA H' a d c es most := ⟨h.1, h.2.1, f _ _ h.1 h.2.2.1, h.2.2.2⟩
def sp_ents (most : Nat) : Sp := fun vs H Q _ => ∃ (d c : Addr), vs = [.ref d, .int (most : Nat)] ∧ 1 ≤ most ∧ most ≤ 8 ∧ Dr H d c ∧ ∀ H' a es, Fd d H H' → Dr H' d c → H a = none → EnA H' a d c es most → Q (.ref a) H'
def sp_ltr (K : PySem.W.Frag) (n : Nat) : Sp := fun vs H Q _ => ∃ (d c a : Addr) (es : List Int) (most m : Nat), vs = [.ref d, .ref a, .int (m : Nat)] ∧ m < n ∧ Dr H d c ∧ EnA H a d c es most ∧ most ≤ 8 ∧ ∀ H' p (t : Tr), Fd d H H' → Dr H' d c → t.ok es → t.ht ≤ m → Dp K H' p t.d → Q p H'
section
variable {P : Program} {w : World} {K : PySem.W.Frag} {mg : Str → Option Value} {base : Heap}
theorem ok_ents {f : Addr} {fd : FuncData} (most : Nat) (F : Fun K "_law_entries" "_law_entries" s__law_entries f fd) (M : Mg mg) (c__law_next : Cl P w K mg base 1 "_law_next" sp_next) : FnOk P w K mg base CX0 2 f fd ["draw", "most"] (sp_ents most) := by
  refine F.ok sc__law_entries (fun vs H Q E h => ?_) (fun cdv A outer s H vs Q E hr h => ?_)
  · obtain ⟨d, c, rfl, _⟩ := h
    rfl
  · obtain ⟨d, c, rfl, hm1, hm2, dr, q⟩ := h
    refine ⟨_, (pss_cons (ps_set (i := 2) sc__law_entries.nd rfl (.inl rfl) (pe_lst pa_nil))
      (pss_cons (ps_set (i := 3) sc__law_entries.nd rfl (.inl rfl) (pe_u c__law_next hr (by first | decide | omega) (by rfl) (pa_cons (pv 0) (pa_cons pe_int pa_nil))))
      (pss_cons (ps_for PassesOwn.never rfl (pi_range1 (by rfl) M.range (pa_cons (pe_op op_add pe_int (pe_u c__law_next hr (by first | decide | omega) (by rfl) (pa_cons (pv 0) (pa_cons (pv 1) pa_nil)))) pa_nil)) (pg_name (i := 4) sc__law_entries.nd rfl (.inl rfl)) (pss_cons (ps_expr (pe_bmK K PySem.F.plainAttrs_list PySem.F.slot_list_append PySem.F.type_list_append mt_append (pv 2) (pa_cons (pv 3) pa_nil)))
      (pss_one (ps_set (i := 3) sc__law_entries.nd rfl (.inl rfl) (pe_op op_add (pe_op op_add (pv 3) pe_int) (pe_op op_mul (pe_u c__law_next hr (by first | decide | omega) (by rfl) (pa_cons (pv 0) (pa_cons pe_int pa_nil))) (pe_u c__law_next hr (by first | decide | omega) (by rfl) (pa_cons (pv 0) (pa_cons pe_int pa_nil)))))))))
      (pss_one (ps_ret (pv 2)))))), ?_⟩
    refine ⟨by show 0 ≤ sizeLine; decide, fun a na => ?_⟩
    have nad := dr.nd na
    have nac := dr.nc na
    have dr1 := dr.ext (same_upd na (o := .lst []))
    refine ⟨_, rfl, d, c, 3, rfl, dr1, by decide, by decide, fun H2 r f2 _ dr2 r0 r1 => ?_⟩
    refine ⟨_, rfl, _, rfl, d, c, (most : Nat), rfl, dr2, by omega, by omega, fun H3 z f3 _ dr3 z0 z1 => ?_⟩
    refine ⟨_, _, rfl, rfl, _, rfl, by omega, by omega, ?_⟩
    have ea3 : H3 a = some (.lst (([] : List Int).map V.int)) := f3 _ _ nad (f2 _ _ nad upd_same)
    refine for_range (lo := 0) (n := (1 + z).toNat) (fun i σ Hi => Fd d H Hi ∧ Dr Hi d c ∧ ∃ (es : List Int) (last : Int) (y : Option V), σ = [some (.ref d), some (.int (most : Nat)), some (.ref a), some (.int last), y] ∧ Hi a = some (.lst (es.map V.int)) ∧ es.length = i ∧ es.Pairwise (· < ·) ∧ (∀ e ∈ es, 0 ≤ e ∧ e < last) ∧ 0 ≤ last ∧ last ≤ 2 + 100 * i) ⟨((Fd.new na).trans f2).trans f3, dr3, [], r, none, rfl, ea3, rfl, .nil, (fun _ h => by cases h), r0, by omega⟩ (fun i σ Hi hi hp => ?_) (fun σ Hn hp => ?_)
    · obtain ⟨fi, di, es, last, y, rfl, ea, el, ep, eb, l0, l1⟩ := hp
      refine ⟨_, rfl, .inl ⟨rfl, _, .inl (.inl ea)⟩, _, rfl, a, _, _, rfl, rfl, ea, by rw [List.length_map, el]; exact Nat.lt_of_lt_of_le (m := 100) (by omega) (by decide), ?_⟩
      have di2 := di.upd nad nac (o := .lst (es.map V.int ++ [.int last]))
      refine ⟨_, rfl, _, _, rfl, rfl, _, rfl, d, c, 2, rfl, di2, by decide, by decide, fun H5 r5 f5 _ dr5 r50 r51 => ?_⟩
      refine ⟨_, rfl, d, c, 90, rfl, dr5, by decide, by decide, fun H6 r6 f6 _ dr6 r60 r61 => ?_⟩
      refine ⟨_, _, rfl, rfl, .inl ⟨by omega, by omega⟩, _, _, rfl, rfl, ?_⟩
      have hmul : 0 ≤ r5 * r6 ∧ r5 * r6 ≤ 89 := by
        have : r5 = 0 ∨ r5 = 1 := by omega
        rcases this with rfl | rfl
        · simp
        · rw [Int.one_mul]; omega
      refine ⟨?_, dr6, es ++ [last], _, _, rfl, ?_, ?_, ?_, ?_, by omega, by omega⟩
      · intro b o nb e
        refine f6 _ _ nb (f5 _ _ nb ?_)
        rw [upd_ne (ne_of_none e na)]
        exact fi _ _ nb e
      · rw [f6 _ _ nad (f5 _ _ nad upd_same), List.map_append]
        rfl
      · rw [List.length_append, el]
        rfl
      · rw [List.pairwise_append]
        exact ⟨ep, List.pairwise_singleton _ _, fun x hx y hy => by rw [List.mem_singleton.mp hy]; exact (eb x hx).2⟩
      · intro e he
        rcases List.mem_append.mp he with he | he
        · have := eb e he
          omega
        · rw [List.mem_singleton.mp he]
          omega
    · obtain ⟨fi, di, es, last, y, rfl, ea, el, ep, eb, l0, l1⟩ := hp
      refine ⟨_, rfl, q Hn a es fi di na ⟨nad, nac, ea, ep, by omega, by omega, fun e he => ?_⟩⟩
      have := eb e he
      omega
theorem ok_ltr {f : Addr} {fd : FuncData} (n : Nat) (F : Fun K "_law_tree" "_law_tree" s__law_tree f fd) (M : Mg mg) (c__law_next : Cl P w K mg base 1 "_law_next" sp_next) (c__law_tree : Cl P w K mg base (n + 1) "_law_tree" (sp_ltr K n)) : FnOk P w K mg base CX0 (n + 2) f fd ["draw", "entries", "depth"] (sp_ltr K (n + 1)) := by
  refine F.ok sc__law_tree (fun vs H Q E h => ?_) (fun cdv A outer s H vs Q E hr h => ?_)
  · obtain ⟨d, c, a, es, most, m, rfl, _⟩ := h
    rfl
  · obtain ⟨d, c, a, es, most, m, rfl, hm, dr, en, hmo, q⟩ := h
    refine ⟨_, (pss_cons (ps_set (i := 3) sc__law_tree.nd rfl (.inl rfl) (pe_u c__law_next hr (by first | decide | omega) (by rfl) (pa_cons (pv 0) (pa_cons pe_int pa_nil))))
      (pss_cons (ps_if (PW.pt (pw_or (pt_cmpR op_eq (pv 2) pe_int (nomark _)) (pw_or1 (pt_cmpR op_lt (pv 3) pe_int (nomark _))))) (pss_cons (ps_if (pt_cmpR op_eq (pe_u c__law_next hr (by first | decide | omega) (by rfl) (pa_cons (pv 0) (pa_cons pe_int pa_nil))) pe_int (nomark _)) (pss_one (ps_ret (pe_tup (pa_cons pe_str (pa_cons (pe_u c__law_next hr (by first | decide | omega) (by rfl) (pa_cons (pv 0) (pa_cons pe_int pa_nil))) pa_nil))))) pss_nil)
      (pss_one (ps_ret (pe_tup (pa_cons pe_str (pa_cons (pe_ix (ix_listK K) (pv 1) (pe_u c__law_next hr (by first | decide | omega) (by rfl) (pa_cons (pv 0) (pa_cons (pe_callB (len_seqK K) (by rfl) M.len PySem.boot_len (pa_cons (pv 1) pa_nil)) pa_nil))) (fun _ _ => rfl)) pa_nil)))))) pss_nil)
      (pss_cons (ps_if (pt_cmpR op_eq (pv 3) pe_int (nomark _)) (pss_one (ps_ret (pe_tup (pa_cons pe_str (pa_cons (pe_u c__law_tree hr (by first | decide | omega) (by rfl) (pa_cons (pv 0) (pa_cons (pv 1) (pa_cons (pe_op op_sub (pv 2) pe_int) pa_nil)))) pa_nil))))) pss_nil)
      (pss_cons (ps_set (i := 4) sc__law_tree.nd rfl (.inl rfl) (pe_u c__law_tree hr (by first | decide | omega) (by rfl) (pa_cons (pv 0) (pa_cons (pv 1) (pa_cons (pe_op op_sub (pv 2) pe_int) pa_nil)))))
      (pss_one (ps_ret (pe_tup (pa_cons (pe_ix (ix_listK K) (pe_lst (pa_cons pe_str (pa_cons pe_str (pa_cons pe_str pa_nil)))) (pe_op op_mod (pv 3) pe_int) (fun _ _ => rfl)) (pa_cons (pv 4) (pa_cons (pe_u c__law_tree hr (by first | decide | omega) (by rfl) (pa_cons (pv 0) (pa_cons (pv 1) (pa_cons (pe_op op_sub (pv 2) pe_int) pa_nil)))) pa_nil)))))))))), ?_⟩
    refine ⟨_, rfl, d, c, 9, rfl, dr, by decide, by decide, fun H1 r f1 _ dr1 r0 r1 => ?_⟩
    have en1 := en.fd f1
    by_cases hd : m = 0 ∨ r < 2
    · refine ⟨_, rfl, rfl, _, rfl, ?_⟩
      refine ite2 (fun e => iteT ?_) (fun e => ⟨_, rfl, _, _, rfl, rfl, _, rfl, ?x⟩)
      case' x =>
        rw [decide_eq_true (show r < 2 by
          rcases hd with rfl | h
          · exact absurd (decide_eq_true rfl) e
          · exact h)]
        refine iteT ?_
      all_goals
        refine ⟨_, rfl, d, c, 12, rfl, dr1, by decide, by decide, fun H2 r2 f2 _ dr2 r20 r21 => ?_⟩
        have en2 := en1.fd f2
        refine ⟨rfl, _, rfl, ite2 (fun e => ?_) (fun e => ?_)⟩
        · refine ⟨_, rfl, d, c, 2, rfl, dr2, by decide, by decide, fun H3 r3 f3 _ dr3 r30 r31 => ?_⟩
          refine ⟨by show 2 ≤ sizeLine; decide, fun p np => ?_⟩
          obtain ⟨b, rfl⟩ : ∃ b : Bool, r3 = if b = true then 1 else 0 := by
            by_cases h : r3 = 1
            · exact ⟨true, h⟩
            · exact ⟨false, by show r3 = 0; omega⟩
          exact q _ _ (.con b) (((f1.trans f2).trans f3).trans (Fd.new np)) (dr3.ext (same_upd np)) trivial (Nat.zero_le _) (.tup (.inl (.inl upd_same)) (.cons (.str _) (.cons (.int _) .nil)))
        · refine ⟨_, rfl, _, rfl, _, rfl, a, _, rfl, .inl (.of en2.2.2.1), ?_⟩
          rw [List.length_map]
          have l1 := en2.2.2.2.2.1
          have l2 := en2.2.2.2.2.2.1
          refine ⟨d, c, _, rfl, dr2, by omega, by omega, fun H3 r3 f3 _ dr3 r30 r31 => ?_⟩
          obtain ⟨k3, rfl⟩ := Int.eq_ofNat_of_zero_le r30
          have hk3 : k3 < es.length := by omega
          have en3 := en2.fd f3
          refine ⟨a, _, _, .int es[k3], rfl, rfl, .of en3.2.2.1, atI_nat (by rw [List.getElem?_map, List.getElem?_eq_getElem hk3]; rfl), ?_⟩
          refine ⟨by show 2 ≤ sizeLine; decide, fun p np => ?_⟩
          exact q _ _ (.ther es[k3]) (((f1.trans f2).trans f3).trans (Fd.new np)) (dr3.ext (same_upd np)) (List.getElem_mem hk3) (Nat.zero_le _) (.tup (.inl (.inl upd_same)) (.cons (.str _) (.cons (.int _) .nil)))
    · obtain ⟨k, rfl⟩ : ∃ k, m = k + 1 := ⟨m - 1, by omega⟩
      have dec : [V.ref d, V.ref a, V.int (((k + 1 : Nat) : Int) - 1)] = [V.ref d, V.ref a, V.int (k : Nat)] := by rw [show (((k + 1 : Nat) : Int) - 1) = (k : Nat) by omega]
      refine ⟨_, rfl, rfl, _, rfl, ?_⟩
      rw [show decide (V.int ((k + 1 : Nat) : Int) = V.int 0) = false from decide_eq_false fun z => by have := V.int.inj z; omega]
      refine iteF ⟨_, rfl, _, _, rfl, rfl, _, rfl, ?_⟩
      rw [decide_eq_false (show ¬ r < 2 by omega)]
      refine iteF ?_
      refine ⟨_, rfl, rfl, _, rfl, ite2 (fun e => ?_) (fun e => ?_)⟩
      · refine ⟨_, rfl, _, rfl, _, rfl, _, _, rfl, rfl, d, c, a, es, most, k, dec, by omega, dr1, en1, hmo, fun H2 p1 t1 f2 dr2 ok1 ht1 dp1 => ?_⟩
        refine ⟨by show 2 ≤ sizeLine; decide, fun p np => ?_⟩
        exact q _ _ (.nt t1) ((f1.trans f2).trans (Fd.new np)) (dr2.ext (same_upd np)) ok1 (by show t1.ht + 1 ≤ k + 1; omega) (.tup (.inl (.inl upd_same)) (.cons (.str _) (.cons (Dp.ext (same_upd np) _ _ dp1) .nil)))
      · refine ⟨_, rfl, _, rfl, _, rfl, _, _, rfl, rfl, d, c, a, es, most, k, dec, by omega, dr1, en1, hmo, fun H2 p1 t1 f2 dr2 ok1 ht1 dp1 => ?_⟩
        refine ⟨by show 3 ≤ sizeLine; decide, fun wp nwp => ?_⟩
        have sw := same_upd nwp (o := .lst [.str "and", .str "or", .str "differ"])
        have ew : (upd H2 wp (.lst [.str "and", .str "or", .str "differ"])) wp = some (.lst [.str "and", .str "or", .str "differ"]) := upd_same
        generalize upd H2 wp (.lst [.str "and", .str "or", .str "differ"]) = H3 at sw ew
        have dr3 := dr2.ext sw
        have en3 := (en1.fd f2).fd (Fd.of sw)
        have dp3 := Dp.ext sw _ _ dp1
        have fin : ∀ (o : Bo), r % 3 = (match o with | .and => 0 | .or => 1 | .df => 2) → atI [V.str "and", V.str "or", V.str "differ"] (r % 3) = some (.str (Str.ofString o.s)) := fun o h => by
          rw [h]
          cases o with
          | and => exact atI_nat (j := 0) rfl
          | or => exact atI_nat (j := 1) rfl
          | df => exact atI_nat (j := 2) rfl
        obtain ⟨o, ho⟩ : ∃ o : Bo, r % 3 = (match o with | .and => 0 | .or => 1 | .df => 2) := by
          have : r % 3 = 0 ∨ r % 3 = 1 ∨ r % 3 = 2 := by omega
          rcases this with h | h | h
          · exact ⟨.and, h⟩
          · exact ⟨.or, h⟩
          · exact ⟨.df, h⟩
        refine ⟨_, rfl, _, _, rfl, rfl, by show (0 : Int) < 3; decide, wp, _, _, _, rfl, rfl, .of ew, fin o ho, ?_⟩
        refine ⟨_, rfl, ?_⟩
        refine ⟨_, rfl, _, rfl, _, rfl, _, _, rfl, rfl, d, c, a, es, most, k, dec, by omega, dr3, en3, hmo, fun H4 p2 t2 f4 dr4 ok2 ht2 dp2 => ?_⟩
        have dp4 := Dp.fd dr3.lst f4 _ _ (tr_only t1) dp3
        refine ⟨by show 3 ≤ sizeLine; decide, fun p np => ?_⟩
        exact q _ _ (.bin o t1 t2) ((((f1.trans f2).trans (Fd.of sw)).trans f4).trans (Fd.new np)) (dr4.ext (same_upd np)) ⟨ok1, ok2⟩ (by show max t1.ht t2.ht + 1 ≤ k + 1; omega) (.tup (.inl (.inl upd_same)) (.cons (.str _) (.cons (Dp.ext (same_upd np) _ _ dp4) (.cons (Dp.ext (same_upd np) _ _ dp2) .nil))))
theorem cl_ltr {f : Addr} {fd : FuncData} (F : Fun K "_law_tree" "_law_tree" s__law_tree f fd) (M : Mg mg) (g : mg "_law_tree" = some (.ref f)) (b : Binds K fd ["draw", "entries", "depth"] []) (c__law_next : Cl P w K mg base 1 "_law_next" sp_next) : ∀ n, Cl P w K mg base (n + 1) "_law_tree" (sp_ltr K n)
  | 0 => FnOk.cl (P := P) (w := w) (base := base) (F.ok sc__law_tree (fun vs H Q E h => by obtain ⟨d, c, a, es, most, m, rfl, _⟩ := h; rfl) (fun cdv A outer s H vs Q E hr h => by obtain ⟨d, c, a, es, most, m, rfl, hm, _⟩ := h; omega)) F g b
  | n + 1 => FnOk.cl (ok_ltr n F M c__law_next (cl_ltr F M g b c__law_next n)) F g b
end

/-! ### the laws' building of conditions, their truth, the sets -/
def sp_build (C : Addr) (K : PySem.W.Frag) (m n : Nat) : Sp := fun vs H Q _ => ∃ s N es L v t, vs = [.ref s.p, v] ∧ Sto C K H s N es L ∧ es.length < m ∧ Tr.ok es t ∧ Tr.ht t < n ∧ Dp K H v t.d ∧ N.length + t.sz * opB es < sizeLine ∧ L + t.sz * opB es < sizeLine ∧
  ∀ H' M r T, FdS s H H' → M.length ≤ t.sz * opB es → Sto C K H' s (N ++ M) es (L + t.sz * opB es) → At (N ++ M) r T → Wf es T → (∀ ρ, T.ev ρ = t.ev ρ) → Q (.int ((r : Nat) : Int)) H'
def sp_true (K : PySem.W.Frag) (n : Nat) : Sp := fun vs H Q _ => ∃ v a t, ∃ ps : List Int, vs = [v, .ref a] ∧ Dp K H v (Tr.d t) ∧ SqL K H a (ps.map V.int) ∧ t.ht < n ∧ Q (.bl (t.ev fun e => decide (e ∈ ps))) H
/-- all sets of input rows, in the law's order -/
def subs (es : List Int) : List (List Int) := es.foldl (fun f e => f ++ f.map (· ++ [e])) [[]]
theorem subs_snoc (es : List Int) (e : Int) : subs (es ++ [e]) = subs es ++ (subs es).map (· ++ [e]) := by
  unfold subs
  rw [List.foldl_append]
  rfl
theorem subs_len (es : List Int) : (subs es).length = 2 ^ es.length := by
  have h : ∀ (es : List Int) (f : List (List Int)), (es.foldl (fun f e => f ++ f.map (· ++ [e])) f).length = f.length * 2 ^ es.length := by
    intro es
    induction es with
    | nil => intro f; simp
    | cons e es ih =>
      intro f
      rw [List.foldl_cons, ih, List.length_append, List.length_map, List.length_cons, Nat.pow_succ, ← Nat.two_mul, Nat.mul_comm 2 f.length, Nat.mul_assoc, Nat.mul_comm 2]
  rw [subs, h]
  simp
theorem subs_le (es : List Int) : ∀ p ∈ subs es, p.length ≤ es.length ∧ ∀ e ∈ p, e ∈ es := by
  have h : ∀ (es all : List Int) (f : List (List Int)) (k : Nat), (∀ e ∈ es, e ∈ all) → (∀ p ∈ f, p.length ≤ k ∧ ∀ e ∈ p, e ∈ all) → ∀ p ∈ es.foldl (fun f e => f ++ f.map (· ++ [e])) f, p.length ≤ k + es.length ∧ ∀ e ∈ p, e ∈ all := by
    intro es all
    induction es with
    | nil => intro f k _ h; exact h
    | cons e es ih =>
      intro f k ha h p hp
      rw [List.foldl_cons] at hp
      have := ih _ (k + 1) (fun x hx => ha x (List.mem_cons_of_mem _ hx)) (fun q hq => by
        rcases List.mem_append.mp hq with hq | hq
        · have := h q hq
          exact ⟨by omega, this.2⟩
        · obtain ⟨q', hq', rfl⟩ := List.mem_map.mp hq
          have := h q' hq'
          refine ⟨by rw [List.length_append]; exact Nat.add_le_add_right this.1 1, fun x hx => ?_⟩
          rcases List.mem_append.mp hx with hx | hx
          · exact this.2 x hx
          · rw [List.mem_singleton.mp hx]
            exact ha e List.mem_cons_self) p hp
      rw [List.length_cons]
      exact ⟨by omega, this.2⟩
  intro p hp
  have := h es es [[]] 0 (fun _ h => h) (fun p hp => by rw [List.mem_singleton.mp hp]; exact ⟨Nat.le_refl _, fun _ h => by cases h⟩) p hp
  rw [Nat.zero_add] at this
  exact this
/-- a list of lists of numbers -/
def LL (H : Hp) (p : Addr) (ls : List (List Int)) : Prop := ∃ as : List Addr, H p = some (.lst (as.map V.ref)) ∧ as.length = ls.length ∧ ∀ (i : Nat) b l, as[i]? = some b → ls[i]? = some l → H b = some (.lst (l.map V.int))
theorem LL.ext {H H' : Hp} {p : Addr} {ls : List (List Int)} (e : Same H H') (h : LL H p ls) : LL H' p ls := by
  obtain ⟨as, h1, h2, h3⟩ := h
  exact ⟨as, e _ _ h1, h2, fun i b l g1 g2 => e _ _ (h3 i b l g1 g2)⟩
theorem LL.get {H : Hp} {p : Addr} {ls : List (List Int)} (h : LL H p ls) : ∃ as : List Addr, H p = some (.lst (as.map V.ref)) ∧ as.length = ls.length ∧ ∀ (i : Nat) v, (as.map V.ref)[i]? = some v → ∃ b l, v = .ref b ∧ ls[i]? = some l ∧ H b = some (.lst (l.map V.int)) := by
  obtain ⟨as, h1, h2, h3⟩ := h
  refine ⟨as, h1, h2, fun i v hv => ?_⟩
  rw [List.getElem?_map] at hv
  obtain ⟨b, hb, rfl⟩ := Option.map_eq_some_iff.mp hv
  have hi : i < ls.length := by rw [← h2]; exact (List.getElem?_eq_some_iff.mp hb).1
  exact ⟨b, ls[i], rfl, List.getElem?_eq_getElem hi, h3 i b _ hb (List.getElem?_eq_getElem hi)⟩
def sp_subs : Sp := fun vs H Q _ => ∃ a, ∃ es : List Int, vs = [.ref a] ∧ H a = some (.lst (es.map V.int)) ∧ es.length ≤ 10 ∧ ∀ H' p, Same H H' → H p = none → LL H' p (subs es) → Q (.ref p) H'
theorem LL.app {H : Hp} {p q a b : Addr} {ls ms : List (List Int)} {xs ys : List V} (np : H p = none) (h1 : LL H a ls) (h2 : LL H b ms) (e1 : H a = some (.lst xs)) (e2 : H b = some (.lst ys)) : LL (upd H p (.lst (xs ++ ys))) p (ls ++ ms) := by
  obtain ⟨as, g1, g2, g3⟩ := h1
  obtain ⟨bs, k1, k2, k3⟩ := h2
  have ex : xs = as.map V.ref := by rw [g1] at e1; exact (HO.lst.inj (Option.some.inj e1)).symm
  have ey : ys = bs.map V.ref := by rw [k1] at e2; exact (HO.lst.inj (Option.some.inj e2)).symm
  refine ⟨as ++ bs, by rw [upd_same, ex, ey, List.map_append], by rw [List.length_append, List.length_append, g2, k2], fun i c l hc hl => ?_⟩
  refine same_upd np _ _ ?_
  by_cases hi : i < as.length
  · rw [List.getElem?_append_left hi] at hc
    rw [List.getElem?_append_left (by omega)] at hl
    exact g3 i c l hc hl
  · rw [List.getElem?_append_right (by omega)] at hc
    rw [List.getElem?_append_right (by omega), ← g2] at hl
    exact k3 _ c l hc hl
theorem Wf.one {es : List Int} {x : Int} (h : x ∈ es) : Wf es (.nd x (.lf false) (.lf true)) := by
  obtain ⟨pre, post, rfl⟩ := List.append_of_mem h
  exact (Wf.here .lf .lf (fun z => by cases z)).skips pre
section
variable {P : Program} {w : World} {K : PySem.W.Frag} {mg : Str → Option Value} {base : Heap}
theorem ok_true (n : Nat) {f : Addr} {fd : FuncData} (F : Fun K "_law_true" "_law_true" s__law_true f fd) (M : Mg mg) (c__law_true : Cl P w K mg base (n + 1) "_law_true" (sp_true K n)) : FnOk P w K mg base CX0 (n + 2) f fd ["tree", "present"] (sp_true K (n + 1)) := by
  refine F.ok sc__law_true (fun vs H Q E h => ?_) (fun cdv A outer s H vs Q E hr h => ?_)
  · obtain ⟨v, a, t, ps, rfl, _⟩ := h
    rfl
  · obtain ⟨v, a, t, ps, rfl, dp, ha, hn, q⟩ := h
    refine ⟨_, (pss_cons (ps_if (pt_cmpR op_eq (pe_ix (ix_tupK K) (pv 0) pe_int (fun _ _ => rfl)) pe_str (nomark _)) (pss_one (ps_ret (pe_cmpR op_eq (pe_ix (ix_tupK K) (pv 0) pe_int (fun _ _ => rfl)) pe_int (nomark _)))) pss_nil)
      (pss_cons (ps_if (pt_cmpR op_eq (pe_ix (ix_tupK K) (pv 0) pe_int (fun _ _ => rfl)) pe_str (nomark _)) (pss_one (ps_ret (pe_cmpR (inK K) (pe_ix (ix_tupK K) (pv 0) pe_int (fun _ _ => rfl)) (pv 1) (by rfl)))) pss_nil)
      (pss_cons (ps_set (i := 2) sc__law_true.nd rfl (.inl rfl) (pe_u c__law_true hr (by first | decide | omega) (by rfl) (pa_cons (pe_ix (ix_tupK K) (pv 0) pe_int (fun _ _ => rfl)) (pa_cons (pv 1) pa_nil))))
      (pss_cons (ps_if (pt_cmpR op_eq (pe_ix (ix_tupK K) (pv 0) pe_int (fun _ _ => rfl)) pe_str (nomark _)) (pss_one (ps_ret (pe_not (pv 2)))) pss_nil)
      (pss_cons (ps_set (i := 3) sc__law_true.nd rfl (.inl rfl) (pe_u c__law_true hr (by first | decide | omega) (by rfl) (pa_cons (pe_ix (ix_tupK K) (pv 0) pe_int (fun _ _ => rfl)) (pa_cons (pv 1) pa_nil))))
      (pss_cons (ps_if (pt_cmpR op_eq (pe_ix (ix_tupK K) (pv 0) pe_int (fun _ _ => rfl)) pe_str (nomark _)) (pss_one (ps_ret (pe_and (pv 2) (pe_one (pv 3))))) pss_nil)
      (pss_one (ps_ret (pe_ifExp (pt_cmpR op_eq (pe_ix (ix_tupK K) (pv 0) pe_int (fun _ _ => rfl)) pe_str (nomark _)) (pe_or (pv 2) (pe_one (pv 3))) (pe_cmpR op_ne (pv 2) (pv 3) (nomark _))))))))))), ?_⟩
    cases t with
    | con b =>
      obtain ⟨p, xs, rfl, hs, hx⟩ := dp_tup dp
      obtain ⟨u, rfl, hu⟩ := dp_two hx
      cases hu
      refine ⟨_, rfl, p, _, _, _, rfl, rfl, hs, atI_nat (j := 0) rfl, rfl, _, rfl, ?_⟩
      rw [weq]
      refine iteT ⟨_, rfl, p, _, _, _, rfl, rfl, hs, atI_nat (j := 1) rfl, rfl, ?_⟩
      cases b with
      | true => exact q
      | false => exact q
    | ther e =>
      obtain ⟨p, xs, rfl, hs, hx⟩ := dp_tup dp
      obtain ⟨u, rfl, hu⟩ := dp_two hx
      cases hu
      refine ⟨_, rfl, p, _, _, _, rfl, rfl, hs, atI_nat (j := 0) rfl, rfl, _, rfl, ?_⟩
      rw [wne "there" "constant" (by decide +kernel)]
      refine iteF ⟨_, rfl, p, _, _, _, rfl, rfl, hs, atI_nat (j := 0) rfl, rfl, _, rfl, ?_⟩
      rw [weq]
      refine iteT ⟨_, rfl, p, _, _, _, rfl, rfl, hs, atI_nat (j := 1) rfl, _, rfl, a, _, rfl, .inl ha, rfl, ints_flat ps, ?_⟩
      rw [if_neg Bool.false_ne_true, inV_int]
      exact q
    | nt t1 =>
      obtain ⟨p, xs, rfl, hs, hx⟩ := dp_tup dp
      obtain ⟨u, rfl, hu⟩ := dp_two hx
      have hn : t1.ht + 1 < n + 1 := hn
      refine ⟨_, rfl, p, _, _, _, rfl, rfl, hs, atI_nat (j := 0) rfl, rfl, _, rfl, ?_⟩
      rw [wne "not" "constant" (by decide +kernel)]
      refine iteF ⟨_, rfl, p, _, _, _, rfl, rfl, hs, atI_nat (j := 0) rfl, rfl, _, rfl, ?_⟩
      rw [wne "not" "there" (by decide +kernel)]
      refine iteF ⟨_, rfl, p, _, _, _, rfl, rfl, hs, atI_nat (j := 1) rfl, _, rfl, u, a, t1, ps, rfl, hu, ha, by omega, ?_⟩
      refine ⟨_, rfl, p, _, _, _, rfl, rfl, hs, atI_nat (j := 0) rfl, rfl, _, rfl, ?_⟩
      rw [weq]
      exact iteT ⟨_, rfl, _, rfl, q⟩
    | bin o t1 t2 =>
      obtain ⟨p, xs, rfl, hs, hx⟩ := dp_tup dp
      obtain ⟨u, u2, rfl, hu, hu2⟩ := dp_three hx
      have hn : max t1.ht t2.ht + 1 < n + 1 := hn
      refine ⟨_, rfl, p, _, _, _, rfl, rfl, hs, atI_nat (j := 0) rfl, rfl, _, rfl, ?_⟩
      rw [wne o.s "constant" (by cases o <;> decide +kernel)]
      refine iteF ⟨_, rfl, p, _, _, _, rfl, rfl, hs, atI_nat (j := 0) rfl, rfl, _, rfl, ?_⟩
      rw [wne o.s "there" (by cases o <;> decide +kernel)]
      refine iteF ⟨_, rfl, p, _, _, _, rfl, rfl, hs, atI_nat (j := 1) rfl, _, rfl, u, a, t1, ps, rfl, hu, ha, by omega, ?_⟩
      refine ⟨_, rfl, p, _, _, _, rfl, rfl, hs, atI_nat (j := 0) rfl, rfl, _, rfl, ?_⟩
      rw [wne o.s "not" (by cases o <;> decide +kernel)]
      refine iteF ⟨_, rfl, p, _, _, _, rfl, rfl, hs, atI_nat (j := 2) rfl, _, rfl, u2, a, t2, ps, rfl, hu2, ha, by omega, ?_⟩
      refine ⟨_, rfl, p, _, _, _, rfl, rfl, hs, atI_nat (j := 0) rfl, rfl, _, rfl, ?_⟩
      cases o with
      | and =>
        rw [show decide (V.str (Str.ofString Bo.and.s) = V.str "and") = true from weq "and"]
        refine iteT ⟨_, rfl, _, rfl, ?_⟩
        have q : Q (.bl ((t1.ev fun e => decide (e ∈ ps)) && (t2.ev fun e => decide (e ∈ ps)))) H := q
        cases e : t1.ev fun e => decide (e ∈ ps) with
        | true =>
          rw [e] at q
          exact iteT ⟨_, rfl, q⟩
        | false =>
          rw [e] at q
          exact iteF q
      | or =>
        rw [show decide (V.str (Str.ofString Bo.or.s) = V.str "and") = false from wne "or" "and" (by decide +kernel)]
        refine iteF ⟨_, rfl, p, _, _, _, rfl, rfl, hs, atI_nat (j := 0) rfl, rfl, _, rfl, ?_⟩
        rw [show decide (V.str (Str.ofString Bo.or.s) = V.str "or") = true from weq "or"]
        refine iteT ⟨_, rfl, _, rfl, ?_⟩
        have q : Q (.bl ((t1.ev fun e => decide (e ∈ ps)) || (t2.ev fun e => decide (e ∈ ps)))) H := q
        cases e : t1.ev fun e => decide (e ∈ ps) with
        | true =>
          rw [e] at q
          exact iteT q
        | false =>
          rw [e] at q
          exact iteF ⟨_, rfl, q⟩
      | df =>
        rw [show decide (V.str (Str.ofString Bo.df.s) = V.str "and") = false from wne "differ" "and" (by decide +kernel)]
        refine iteF ⟨_, rfl, p, _, _, _, rfl, rfl, hs, atI_nat (j := 0) rfl, rfl, _, rfl, ?_⟩
        rw [show decide (V.str (Str.ofString Bo.df.s) = V.str "or") = false from wne "differ" "or" (by decide +kernel)]
        refine iteF ⟨_, rfl, _, rfl, rfl, ?_⟩
        have q : Q (.bl (bne (t1.ev fun e => decide (e ∈ ps)) (t2.ev fun e => decide (e ∈ ps)))) H := q
        cases e : t1.ev fun e => decide (e ∈ ps) <;> cases e2 : t2.ev fun e => decide (e ∈ ps) <;> rw [e, e2] at q <;> exact q
theorem cl_true {f : Addr} {fd : FuncData} (F : Fun K "_law_true" "_law_true" s__law_true f fd) (M : Mg mg) (g : mg "_law_true" = some (.ref f)) (b : Binds K fd ["tree", "present"] []) : ∀ n, Cl P w K mg base (n + 1) "_law_true" (sp_true K n)
  | 0 => FnOk.cl (P := P) (w := w) (base := base) (F.ok sc__law_true (fun vs H Q E h => by obtain ⟨v, a, t, ps, rfl, _⟩ := h; rfl) (fun cdv A outer s H vs Q E hr h => by obtain ⟨v, a, t, ps, rfl, _, _, hm, _⟩ := h; omega)) F g b
  | n + 1 => FnOk.cl (ok_true n F M (cl_true F M g b n)) F g b
set_option maxHeartbeats 4000000 in
theorem ok_build (m n : Nat) {f C : Addr} {fd : FuncData} (F : Fun K "_law_build" "_law_build" s__law_build f fd) (M : Mg mg) (c_Diagrams_there : ClM P w K mg base 2 C "there" (sp_there C K)) (c_Diagrams_conjunction : ClM P w K mg base (m + 3) C "conjunction" (sp_op2 C K m and)) (c_Diagrams_disjunction : ClM P w K mg base (m + 3) C "disjunction" (sp_op2 C K m or)) (c_Diagrams_negation : ClM P w K mg base (m + 3) C "negation" (sp_neg C K m)) (c_Diagrams_differs : ClM P w K mg base (m + 4) C "differs" (sp_op2 C K m bne))
    (c__law_build : Cl P w K mg base (m + 4 + n) "_law_build" (sp_build C K m n)) : FnOk P w K mg base CX0 (m + 4 + n + 1) f fd ["store", "tree"] (sp_build C K m (n + 1)) := by
  refine F.ok sc__law_build (fun vs H Q E h => ?_) (fun cdv A outer s H vs Q E hr h => ?_)
  · obtain ⟨s, N, es, L, v, t, rfl, _⟩ := h
    rfl
  · obtain ⟨s, N, es, L, v, t, rfl, st, hm, ok, hn, dp, z1, z2, q⟩ := h
    have o1 := opB_ge es
    have o2 : 1 ≤ 2 ^ es.length := Nat.one_le_two_pow
    refine ⟨_, (pss_cons (ps_if (pt_cmpR op_eq (pe_ix (ix_tupK K) (pv 1) pe_int (fun _ _ => rfl)) pe_str (nomark _)) (pss_one (ps_ret (pe_ix (ix_tupK K) (pv 1) pe_int (fun _ _ => rfl)))) pss_nil)
      (pss_cons (ps_if (pt_cmpR op_eq (pe_ix (ix_tupK K) (pv 1) pe_int (fun _ _ => rfl)) pe_str (nomark _)) (pss_one (ps_ret (pe_mt c_Diagrams_there hr (by first | decide | omega) (pv 0) (pa_cons (pe_ix (ix_tupK K) (pv 1) pe_int (fun _ _ => rfl)) pa_nil)))) pss_nil)
      (pss_cons (ps_set (i := 2) sc__law_build.nd rfl (.inl rfl) (pe_u c__law_build hr (by first | decide | omega) (by rfl) (pa_cons (pv 0) (pa_cons (pe_ix (ix_tupK K) (pv 1) pe_int (fun _ _ => rfl)) pa_nil))))
      (pss_cons (ps_if (pt_cmpR op_eq (pe_ix (ix_tupK K) (pv 1) pe_int (fun _ _ => rfl)) pe_str (nomark _)) (pss_one (ps_ret (pe_mt c_Diagrams_negation hr (by first | decide | omega) (pv 0) (pa_cons (pv 2) pa_nil)))) pss_nil)
      (pss_cons (ps_set (i := 3) sc__law_build.nd rfl (.inl rfl) (pe_u c__law_build hr (by first | decide | omega) (by rfl) (pa_cons (pv 0) (pa_cons (pe_ix (ix_tupK K) (pv 1) pe_int (fun _ _ => rfl)) pa_nil))))
      (pss_cons (ps_if (pt_cmpR op_eq (pe_ix (ix_tupK K) (pv 1) pe_int (fun _ _ => rfl)) pe_str (nomark _)) (pss_one (ps_ret (pe_mt c_Diagrams_conjunction hr (by first | decide | omega) (pv 0) (pa_cons (pv 2) (pa_cons (pv 3) pa_nil))))) pss_nil)
      (pss_one (ps_ret (pe_ifExp (pt_cmpR op_eq (pe_ix (ix_tupK K) (pv 1) pe_int (fun _ _ => rfl)) pe_str (nomark _)) (pe_mt c_Diagrams_disjunction hr (by first | decide | omega) (pv 0) (pa_cons (pv 2) (pa_cons (pv 3) pa_nil))) (pe_mt c_Diagrams_differs hr (by first | decide | omega) (pv 0) (pa_cons (pv 2) (pa_cons (pv 3) pa_nil)))))))))))), ?_⟩
    cases t with
    | con b =>
      obtain ⟨p, xs, rfl, hs, hx⟩ := dp_tup dp
      obtain ⟨u, rfl, hu⟩ := dp_two hx
      cases hu
      refine ⟨_, rfl, p, _, _, _, rfl, rfl, hs, atI_nat (j := 0) rfl, rfl, _, rfl, ?_⟩
      rw [weq]
      refine iteT ⟨_, rfl, p, _, _, _, rfl, rfl, hs, atI_nat (j := 1) rfl, ?_⟩
      have q := fun r T => q H [] r T (FdS.refl s H) (Nat.zero_le _) (by rw [List.append_nil]; exact st.more (Nat.le_add_right _ _))
      cases b with
      | true => exact q 1 _ .t .lf (fun _ => rfl)
      | false => exact q 0 _ .f .lf (fun _ => rfl)
    | ther e =>
      obtain ⟨p, xs, rfl, hs, hx⟩ := dp_tup dp
      obtain ⟨u, rfl, hu⟩ := dp_two hx
      cases hu
      have e1 : Tr.sz (.ther e) * opB es = opB es := Nat.one_mul _
      rw [e1] at z1 z2 q
      refine ⟨_, rfl, p, _, _, _, rfl, rfl, hs, atI_nat (j := 0) rfl, rfl, _, rfl, ?_⟩
      rw [wne "there" "constant" (by decide +kernel)]
      refine iteF ⟨_, rfl, p, _, _, _, rfl, rfl, hs, atI_nat (j := 0) rfl, rfl, _, rfl, ?_⟩
      rw [weq]
      refine iteT ⟨_, rfl, st.go (by decide +kernel) (by decide +kernel) (by decide +kernel) ⟨_, rfl, p, _, _, _, rfl, rfl, hs, atI_nat (j := 1) rfl, ?_⟩⟩
      refine ⟨s, N, es, L, e, rfl, st, by omega, fun H' M r f l st' a => q H' M r _ f (by omega) (st'.more (by omega)) a (Wf.one ok) fun ρ => ?_⟩
      show (if ρ e = true then true else false) = ρ e
      cases ρ e <;> rfl
    | nt t1 =>
      obtain ⟨p, xs, rfl, hs, hx⟩ := dp_tup dp
      obtain ⟨u, rfl, hu⟩ := dp_two hx
      have hn : t1.ht + 1 < n + 1 := hn
      have e1 : Tr.sz (.nt t1) * opB es = t1.sz * opB es + opB es := Nat.succ_mul _ _
      rw [e1] at z1 z2 q
      refine ⟨_, rfl, p, _, _, _, rfl, rfl, hs, atI_nat (j := 0) rfl, rfl, _, rfl, ?_⟩
      rw [wne "not" "constant" (by decide +kernel)]
      refine iteF ⟨_, rfl, p, _, _, _, rfl, rfl, hs, atI_nat (j := 0) rfl, rfl, _, rfl, ?_⟩
      rw [wne "not" "there" (by decide +kernel)]
      refine iteF ⟨_, rfl, _, rfl, p, _, _, _, rfl, rfl, hs, atI_nat (j := 1) rfl, ?_⟩
      refine ⟨s, N, es, L, u, t1, rfl, st, hm, ok, by omega, hu, by omega, by omega, fun H1 M1 r1 T1 f1 l1 st1 a1 w1 v1 => ?_⟩
      have hs1 := SqT.tsn (st.tup f1) hs
      refine ⟨_, rfl, p, _, _, _, rfl, rfl, hs1, atI_nat (j := 0) rfl, rfl, _, rfl, ?_⟩
      rw [weq]
      refine iteT ⟨_, rfl, st1.go (by decide +kernel) (by decide +kernel) (by decide +kernel) ⟨_, rfl, ?_⟩⟩
      refine ⟨s, N ++ M1, es, _, r1, T1, rfl, st1, hm, a1, w1, by rw [List.length_append]; omega, by omega, fun H2 M2 r2 T2 f2 l2 st2 a2 w2 v2 => ?_⟩
      rw [List.append_assoc] at st2 a2
      refine q H2 (M1 ++ M2) r2 T2 (f1.trans f2) (by rw [List.length_append]; omega) (st2.more (by omega)) a2 w2 fun ρ => ?_
      rw [v2, v1]
      rfl
    | bin o t1 t2 =>
      obtain ⟨p, xs, rfl, hs, hx⟩ := dp_tup dp
      obtain ⟨u, u2, rfl, hu, hu2⟩ := dp_three hx
      have hn : max t1.ht t2.ht + 1 < n + 1 := hn
      have e1 : Tr.sz (.bin o t1 t2) * opB es = t1.sz * opB es + t2.sz * opB es + opB es := by
        show (t1.sz + t2.sz + 1) * opB es = _
        rw [Nat.succ_mul, Nat.add_mul]
      rw [e1] at z1 z2 q
      refine ⟨_, rfl, p, _, _, _, rfl, rfl, hs, atI_nat (j := 0) rfl, rfl, _, rfl, ?_⟩
      rw [wne o.s "constant" (by cases o <;> decide +kernel)]
      refine iteF ⟨_, rfl, p, _, _, _, rfl, rfl, hs, atI_nat (j := 0) rfl, rfl, _, rfl, ?_⟩
      rw [wne o.s "there" (by cases o <;> decide +kernel)]
      refine iteF ⟨_, rfl, _, rfl, p, _, _, _, rfl, rfl, hs, atI_nat (j := 1) rfl, ?_⟩
      refine ⟨s, N, es, L, u, t1, rfl, st, hm, ok.1, by omega, hu, by omega, by omega, fun H1 M1 r1 T1 f1 l1 st1 a1 w1 v1 => ?_⟩
      have hs1 := SqT.tsn (st.tup f1) hs
      have hu21 := st.dp f1 (tr_only t2) hu2
      refine ⟨_, rfl, p, _, _, _, rfl, rfl, hs1, atI_nat (j := 0) rfl, rfl, _, rfl, ?_⟩
      rw [wne o.s "not" (by cases o <;> decide +kernel)]
      refine iteF ⟨_, rfl, _, rfl, p, _, _, _, rfl, rfl, hs1, atI_nat (j := 2) rfl, ?_⟩
      refine ⟨s, N ++ M1, es, _, u2, t2, rfl, st1, hm, ok.2, by omega, hu21, by rw [List.length_append]; omega, by omega, fun H2 M2 r2 T2 f2 l2 st2 a2 w2 v2 => ?_⟩
      have hs2 := SqT.tsn (st1.tup f2) hs1
      have fin : ∀ (g : Bool → Bool → Bool), g = o.f → sp_op2 C K m g [.ref s.p, .int ((r1 : Nat) : Int), .int ((r2 : Nat) : Int)] H2 Q E0 := fun g hg => by
        refine ⟨s, (N ++ M1) ++ M2, es, _, r1, r2, T1, T2, rfl, st2, hm, a1.mono, a2, w1, w2, by rw [List.length_append, List.length_append]; omega, by omega, fun H3 M3 r3 T3 f3 l3 st3 a3 w3 v3 => ?_⟩
        have eN : N ++ M1 ++ M2 ++ M3 = N ++ (M1 ++ M2 ++ M3) := by simp only [List.append_assoc]
        rw [eN] at st3 a3
        refine q H3 (M1 ++ M2 ++ M3) r3 T3 ((f1.trans f2).trans f3) (by rw [List.length_append, List.length_append]; omega) (st3.more (by omega)) a3 w3 fun ρ => ?_
        rw [v3, v1, v2, hg]
        rfl
      refine ⟨_, rfl, p, _, _, _, rfl, rfl, hs2, atI_nat (j := 0) rfl, rfl, _, rfl, ?_⟩
      cases o with
      | and =>
        rw [show decide (V.str (Str.ofString Bo.and.s) = V.str "and") = true from weq "and"]
        exact iteT ⟨_, rfl, st2.go (by decide +kernel) (by decide +kernel) (by decide +kernel) ⟨_, rfl, _, rfl, fin and rfl⟩⟩
      | or =>
        rw [show decide (V.str (Str.ofString Bo.or.s) = V.str "and") = false from wne "or" "and" (by decide +kernel)]
        refine iteF ⟨_, rfl, p, _, _, _, rfl, rfl, hs2, atI_nat (j := 0) rfl, rfl, _, rfl, ?_⟩
        rw [show decide (V.str (Str.ofString Bo.or.s) = V.str "or") = true from weq "or"]
        exact iteT ⟨_, rfl, st2.go (by decide +kernel) (by decide +kernel) (by decide +kernel) ⟨_, rfl, _, rfl, fin or rfl⟩⟩
      | df =>
        rw [show decide (V.str (Str.ofString Bo.df.s) = V.str "and") = false from wne "differ" "and" (by decide +kernel)]
        refine iteF ⟨_, rfl, p, _, _, _, rfl, rfl, hs2, atI_nat (j := 0) rfl, rfl, _, rfl, ?_⟩
        rw [show decide (V.str (Str.ofString Bo.df.s) = V.str "or") = false from wne "differ" "or" (by decide +kernel)]
        exact iteF ⟨_, rfl, st2.go (by decide +kernel) (by decide +kernel) (by decide +kernel) ⟨_, rfl, _, rfl, fin bne rfl⟩⟩
theorem cl_build (m : Nat) {f C : Addr} {fd : FuncData} (F : Fun K "_law_build" "_law_build" s__law_build f fd) (M : Mg mg) (g : mg "_law_build" = some (.ref f)) (b : Binds K fd ["store", "tree"] []) (c_Diagrams_there : ClM P w K mg base 2 C "there" (sp_there C K)) (c_Diagrams_conjunction : ClM P w K mg base (m + 3) C "conjunction" (sp_op2 C K m and)) (c_Diagrams_disjunction : ClM P w K mg base (m + 3) C "disjunction" (sp_op2 C K m or)) (c_Diagrams_negation : ClM P w K mg base (m + 3) C "negation" (sp_neg C K m)) (c_Diagrams_differs : ClM P w K mg base (m + 4) C "differs" (sp_op2 C K m bne)) :
    ∀ n, Cl P w K mg base (m + 4 + n) "_law_build" (sp_build C K m n)
  | 0 => FnOk.cl (P := P) (w := w) (base := base) (F.ok sc__law_build (fun vs H Q E h => by obtain ⟨s, N, es, L, v, t, rfl, _⟩ := h; rfl) (fun cdv A outer s H vs Q E hr h => by obtain ⟨s, N, es, L, v, t, rfl, st, hm, ok, hn, _⟩ := h; omega)) F g b
  | n + 1 => FnOk.cl (ok_build m n F M c_Diagrams_there c_Diagrams_conjunction c_Diagrams_disjunction c_Diagrams_negation c_Diagrams_differs (cl_build m F M g b c_Diagrams_there c_Diagrams_conjunction c_Diagrams_disjunction c_Diagrams_negation c_Diagrams_differs n)) F g b
end

section
variable {P : Program} {w : World} {K : PySem.W.Frag} {mg : Str → Option Value} {base : Heap}
theorem ok_subs {f : Addr} {fd : FuncData} (F : Fun K "_law_subsets" "_law_subsets" s__law_subsets f fd) (M : Mg mg) : FnOk P w K mg base CX0 1 f fd ["entries"] sp_subs := by
  refine F.ok sc__law_subsets (fun vs H Q E h => ?_) (fun cdv A outer s H vs Q E hr h => ?_)
  · obtain ⟨a, es, rfl, _⟩ := h
    rfl
  · obtain ⟨a, es, rfl, ha, hl, q⟩ := h
    refine ⟨_, (pss_cons (ps_set (i := 1) sc__law_subsets.nd rfl (.inl rfl) (pe_lst (pa_cons (pe_lst pa_nil) pa_nil)))
      (pss_cons (ps_for PassesOwn.never rfl (pi_list (pv 0)) (pg_name (i := 2) sc__law_subsets.nd rfl (.inr rfl)) (pss_one (ps_set (i := 1) sc__law_subsets.nd rfl (.inl rfl) (pe_op op_cat (pv 1) (pe_lc (own := [("part", 3)]) (g := gName 3) (tt := tYes) rfl sc__law_subsets.nd (pi_list (pv 1)) (blkOk_by (N := N__law_subsets) (sc := defScope s__law_subsets) (by decide +kernel)) (fun _ _ _ _ _ => (pg_name (i := 3) sc__law_subsets.nd rfl (.inl rfl))) (fun _ _ _ _ _ => pts_nil) (fun _ _ _ _ _ => (pe_op op_cat (pv 3) (pe_lst (pa_cons (pv 2) pa_nil)))))))))
      (pss_one (ps_ret (pv 1))))), ?_⟩
    refine ⟨by show 0 ≤ sizeLine; decide, fun p1 n1 => ?_⟩
    have s1 := same_upd n1 (o := .lst [])
    have e1 : (upd H p1 (.lst [])) p1 = some (.lst (([] : List Int).map V.int)) := upd_same
    generalize upd H p1 (.lst []) = H1 at s1 e1
    refine ⟨by show 1 ≤ sizeLine; decide, fun p2 n2 => ?_⟩
    have s2 := same_upd n2 (o := .lst [.ref p1])
    have e2 : (upd H1 p2 (.lst [.ref p1])) p2 = some (.lst ([p1].map V.ref)) := upd_same
    generalize upd H1 p2 (.lst [.ref p1]) = H2 at s2 e2
    refine ⟨_, rfl, a, rfl, ⟨_, .of ((s1.trans s2) _ _ ha)⟩, ?_⟩
    refine for_list (K := K) (a := a) (xs := es.map V.int) (fun i σ Hi => ∃ (p : Addr) (z y : Option V), σ = [some (.ref a), some (.ref p), z, y] ∧ Same H Hi ∧ H p = none ∧ LL Hi p (subs (es.take i))) ⟨p2, none, none, rfl, s1.trans s2, s1.free n2, [p1], e2, rfl, fun i b l hb hl => ?_⟩ (fun i σ Hi _ hp => by obtain ⟨p, z, y, rfl, si, _⟩ := hp; exact .of (si _ _ ha)) (fun i x σ Hi hx hp => ?_) (fun σ Hn hp => ?_)
    · match i, hb, hl with
      | 0, hb, hl =>
        cases hb
        cases hl
        exact s2 _ _ e1
      | i + 1, hb, _ => simp at hb
    · obtain ⟨p, z, y, rfl, si, np, ll⟩ := hp
      rw [List.getElem?_map] at hx
      obtain ⟨e, he, rfl⟩ := Option.map_eq_some_iff.mp hx
      have hi : i < es.length := (List.getElem?_eq_some_iff.mp he).1
      have et : es.take (i + 1) = es.take i ++ [e] := by rw [List.take_add_one, he]; rfl
      have lsub : (subs (es.take i)).length ≤ 1024 := by
        rw [subs_len, List.length_take]
        exact Nat.le_trans (Nat.pow_le_pow_right (by decide) (show min i es.length ≤ 10 by omega)) (by decide)
      obtain ⟨as, g1, g2, g3⟩ := id ll
      obtain ⟨as', k1, k2, k3⟩ := ll.get
      refine ⟨_, rfl, _, rfl, p, rfl, ⟨_, .of k1⟩, fun D nD => ?_⟩
      refine lc_list (K := K) (a := p) (xs := as'.map V.ref) (fun j Hj => Same Hi Hj ∧ LL Hj D ((subs (es.take i)).take j |>.map (· ++ [e]))) ⟨same_upd nD, [], upd_same, rfl, fun i b l hb _ => by simp at hb⟩ (fun j Hj _ hp => .of (hp.1 _ _ k1)) (fun j x Hj hx hp => ?_) (fun Hn hp => ?_)
      · obtain ⟨sj, cs, c1, c2, c3⟩ := hp
        obtain ⟨b, l, rfl, hl, hb⟩ := k3 j x hx
        have hj : j < (subs (es.take i)).length := (List.getElem?_eq_some_iff.mp hl).1
        refine ⟨rfl, ?_⟩
        refine ⟨_, rfl, _, rfl, by show 1 ≤ sizeLine; decide, fun q1 nq1 => ?_⟩
        have t1 := same_upd nq1 (o := .lst [.int e])
        have eq1 : (upd Hj q1 (.lst [.int e])) q1 = some (.lst [.int e]) := upd_same
        generalize upd Hj q1 (.lst [.int e]) = Hj1 at t1 eq1
        have ll1 : l.length ≤ 10 := by
          have := subs_le _ l (List.mem_of_getElem? hl)
          have h2 := this.1
          rw [List.length_take] at h2
          omega
        refine ⟨b, q1, _, _, rfl, rfl, (sj.trans t1) _ _ hb, eq1, by rw [List.length_map]; exact Nat.le_trans (m := 100) (by show _ + 1 ≤ 100; omega) (by decide), fun q2 nq2 => ?_⟩
        have t2 := same_upd nq2 (o := .lst (l.map V.int ++ [.int e]))
        have eq2 : (upd Hj1 q2 (.lst (l.map V.int ++ [.int e]))) q2 = some (.lst ((l ++ [e]).map V.int)) := by rw [upd_same, List.map_append]; rfl
        generalize upd Hj1 q2 (.lst (l.map V.int ++ [.int e])) = Hj2 at t2 eq2
        have sj2 := (sj.trans t1).trans t2
        have cD := (t1.trans t2) _ _ c1
        refine ⟨_, cD, ?_, ?_, ?_⟩
        · rw [List.length_map, c2, List.length_map, List.length_take]
          exact Nat.lt_of_le_of_lt (m := 1024) (by omega) (by decide)
        · intro x o hx'
          rw [upd_ne (ne_of_none hx' nD)]
          exact sj2 _ _ hx'
        · refine ⟨cs ++ [q2], by rw [upd_same, List.map_append]; rfl, ?_, fun i' b' l' hb' hl' => ?_⟩
          · rw [List.length_append, c2, List.take_add_one, hl, List.map_append, List.length_append]
            rfl
          · have lc : cs.length = j := by rw [c2, List.length_map, List.length_take]; omega
            have nbD : b' ≠ D := by
              by_cases hi' : i' < cs.length
              · rw [List.getElem?_append_left hi'] at hb'
                intro z
                subst z
                -- the new list's own address is not one of its items
                have := c3 i' b' _ hb' (List.getElem?_eq_getElem (by rw [← c2]; exact hi'))
                rw [c1] at this
                have e := HO.lst.inj (Option.some.inj this)
                cases cs with
                | nil => simp at hi'
                | cons c cs =>
                  rw [List.map_cons] at e
                  generalize (List.map (fun x => x ++ [_]) _)[i'] = w at e
                  cases w with
                  | nil => cases e
                  | cons w1 w2 => rw [List.map_cons] at e; exact nomatch (List.cons.inj e).1
              · rw [List.getElem?_append_right (by omega)] at hb'
                have : b' = q2 := by
                  cases h : i' - cs.length with
                  | zero => rw [h] at hb'; exact (Option.some.inj hb').symm
                  | succ k => rw [h] at hb'; simp at hb'
                subst this
                exact (ne_of_none (t1 _ _ c1) nq2).symm
            rw [upd_ne nbD]
            rw [List.take_add_one, hl, List.map_append] at hl'
            by_cases hi' : i' < cs.length
            · rw [List.getElem?_append_left hi'] at hb'
              rw [List.getElem?_append_left (by rw [← c2]; exact hi')] at hl'
              exact (t1.trans t2) _ _ (c3 i' b' l' hb' hl')
            · rw [List.getElem?_append_right (by omega)] at hb'
              rw [List.getElem?_append_right (by rw [← c2]; omega), ← c2] at hl'
              cases h : i' - cs.length with
              | zero =>
                rw [h] at hb' hl'
                have e1 : q2 = b' := Option.some.inj hb'
                have e2 : l ++ [e] = l' := Option.some.inj hl'
                subst e1 e2
                exact eq2
              | succ k => rw [h] at hb'; simp at hb'
      · obtain ⟨sn, ll2⟩ := hp
        have el : (as'.map V.ref).length = (subs (es.take i)).length := by rw [List.length_map, k2]
        rw [el, List.take_of_length_le (Nat.le_refl _)] at ll2
        obtain ⟨bs, b1, b2, b3⟩ := id ll2
        refine ⟨p, D, _, _, rfl, rfl, sn _ _ k1, b1, ?_, fun q' nq' => ?_⟩
        · rw [List.length_map, List.length_map, k2, b2, List.length_map]
          exact Nat.le_trans (m := 2048) (by omega) (by decide)
        · refine ⟨q', _, _, rfl, (si.trans sn).trans (same_upd nq'), (si.trans sn).free nq', ?_⟩
          rw [et, subs_snoc]
          exact LL.app (q := q') nq' (ll.ext sn) ll2 (sn _ _ k1) b1
    · obtain ⟨p, z, y, rfl, si, np, ll⟩ := hp
      rw [List.length_map, List.take_of_length_le (Nat.le_refl _)] at ll
      exact ⟨_, rfl, q Hn p si np ll⟩
end

/-! ### lists of numbers and of truth values as data -/
theorem dpa_map {K : PySem.W.Frag} {H : Hp} {α : Type} (f : α → V) (g : α → PyData) (h : ∀ a, Dp K H (f a) (g a)) : ∀ l : List α, DpAll K H (l.map f) (l.map g)
  | [] => .nil
  | a :: l => .cons (h a) (dpa_map f g h l)
theorem dp_ints {K : PySem.W.Frag} {H : Hp} {a : Addr} {ps : List Int} (h : SqL K H a (ps.map V.int)) : Dp K H (.ref a) (.list (ps.map PyData.int)) := .lst h (dpa_map _ _ (fun i => .int i) ps)
theorem dp_bls {K : PySem.W.Frag} {H : Hp} {a : Addr} {ps : List Bool} (h : SqL K H a (ps.map V.bl)) : Dp K H (.ref a) (.list (ps.map PyData.bool)) := .lst h (dpa_map _ _ (fun i => .bl i) ps)
theorem flat_shaped {α : Type} (g : α → PyData) (h1 : ∀ a, PyData.canLay0 (g a) = true) (h2 : ∀ a, PyData.depth (g a) = 0) (l : List α) : SeqAt.shaped (.list (l.map g)) = true := by
  have e1 : PyData.canLayAll0 (l.map g) = true := by
    induction l with
    | nil => rfl
    | cons x xs ih =>
      rw [List.map_cons]
      unfold PyData.canLayAll0
      rw [ih, h1]
      rfl
  have e2 : PyData.depthAll (l.map g) = 0 := by
    clear e1
    induction l with
    | nil => rfl
    | cons x xs ih =>
      rw [List.map_cons]
      unfold PyData.depthAll
      rw [ih, h2]
      rfl
  unfold SeqAt.shaped
  rw [Bool.and_eq_true]
  refine ⟨by unfold PyData.canLay0; exact e1, decide_eq_true ?_⟩
  unfold PyData.depth
  omega
theorem ints_shaped (l : List Int) : SeqAt.shaped (.list (l.map PyData.int)) = true := flat_shaped _ (fun _ => rfl) (fun _ => rfl) l
theorem bls_shaped (l : List Bool) : SeqAt.shaped (.list (l.map PyData.bool)) = true := flat_shaped _ (fun _ => rfl) (fun _ => rfl) l
theorem ints_eqv (l : List Int) : PyData.eqv (.list (l.map PyData.int)) (.list (l.map PyData.int)) = true := SeqAt.eqv_refl _ (SeqAt.canLay_of_shaped (ints_shaped l))
theorem Sto.fd {C : Addr} {K : PySem.W.Frag} {H H' : Hp} {s : SA} {N : Nds} {es : List Int} {L : Nat} {d : Addr} (st : Sto C K H s N es L) (hd : ∃ zs, H d = some (.lst zs)) (n : d ≠ s.k) (f : Fd d H H') : Sto C K H' s N es L := by
  obtain ⟨⟨dx, h1⟩, ⟨xs, h2, h3⟩, ⟨kvs, h4, h5⟩, ⟨cvs, h6, h7⟩, h8⟩ := st
  obtain ⟨zs, hz⟩ := hd
  exact ⟨⟨dx, f _ _ (ne_of h1 hz (fun z => nomatch z)) h1⟩, ⟨xs, f _ _ n.symm h2, DpAll.fd ⟨zs, hz⟩ f _ _ (nD_only _) h3⟩, ⟨kvs, f _ _ (ne_of h4 hz (fun z => nomatch z)) h4, h5⟩, ⟨cvs, f _ _ (ne_of h6 hz (fun z => nomatch z)) h6, h7⟩, h8⟩
theorem andV {c b : Bool} {i : Nat} {σ : L2.St} {H : Hp} {Q : VK} (hs : σ[i]? = some (some (.bl b))) (h : Q (.bl (c && b)) H) : if c = true then tVar i σ H Q else Q (.bl false) H := by
  cases c with
  | true => exact iteT ⟨_, hs, h⟩
  | false => exact iteF h
theorem orV {c b : Bool} {i : Nat} {σ : L2.St} {H : Hp} {Q : VK} (hs : σ[i]? = some (some (.bl b))) (h : Q (.bl (c || b)) H) : if c = true then Q (.bl true) H else tVar i σ H Q := by
  cases c with
  | true => exact iteT h
  | false => exact iteF ⟨_, hs, h⟩
theorem bne_dec (a b : Bool) : (!decide (V.bl a = V.bl b)) = bne a b := by cases a <;> cases b <;> rfl
/-- the store made, beside what was there -/
theorem made_same {p dx C : Addr} {H H' : Hp} (np : H p = none) (nd : H dx = none) (f : Fd p (upd (upd H dx (.own p)) p (.ins C dx [])) H') : Same H H' := fun b o e => by
  have h1 : b ≠ p := ne_of_none e np
  have h2 : b ≠ dx := ne_of_none e nd
  refine f b o h1 ?_
  rw [upd_ne h1, upd_ne h2]
  exact e
theorem made_free {p dx C k : Addr} {H : Hp} (h : (upd (upd H dx (.own p)) p (.ins C dx [])) k = none) : H k = none := by
  by_cases h1 : k = p
  · subst h1
    rw [upd_same] at h
    cases h
  by_cases h2 : k = dx
  · subst h2
    rw [upd_ne h1, upd_same] at h
    cases h
  rw [upd_ne h1, upd_ne h2] at h
  exact h
/-- what stood before the store was made stands behind all its operations -/
theorem FdS.same {s : SA} {H0 H H' : Hp} (h : Same H0 H) (nk : H0 s.k = none) (nu : H0 s.u = none) (nm : H0 s.m = none) (f : FdS s H H') : Same H0 H' := fun b o e => f b o (ne_of_none e nk) (ne_of_none e nu) (ne_of_none e nm) (h b o e)

/-! ### two data that are the same -/
/-- data of some depth, their lists not too long -/
inductive Sh : Nat → PyData → Prop
  | non {n : Nat} : Sh n .none
  | bl {n : Nat} (b : Bool) : Sh n (.bool b)
  | int {n : Nat} (i : Int) : Sh n (.int i)
  | str {n : Nat} (x : Str) : Sh n (.str x)
  | lst {n : Nat} {ds : List PyData} (l : ds.length ≤ 100000) (h : ∀ d ∈ ds, Sh n d) : Sh (n + 1) (.list ds)
  | tup {n : Nat} {ds : List PyData} (l : ds.length ≤ 100000) (h : ∀ d ∈ ds, Sh n d) : Sh (n + 1) (.tuple ds)
def tnm : PyData → String
  | .none => "NoneType"
  | .bool _ => "bool"
  | .int _ => "int"
  | .str _ => "str"
  | .list _ => "list"
  | .tuple _ => "tuple"
  | .dict _ => "dict"
theorem tyD {K : PySem.W.Frag} {H : Hp} {v : V} {d : PyData} (h : Dp K H v d) : TyX K H v (.type (tnm d)) := by
  cases h with
  | non => exact .base .non
  | bl b => exact .base (.bl b)
  | int i => exact .base (.int i)
  | str x => exact .base (.str x)
  | lst hs _ => exact tyL hs
  | tup hs _ => exact tyT hs
theorem k_any2 {K : PySem.W.Frag} {tn c1 c2 : String} {r1 r2 : Bool} (h1 : kitB tn c1 = some r1) (h2 : kitB tn c2 = some r2) : PySem.W.kitAny K (.type tn) [.type c1, .type c2] = some (r1 || r2) :=
  kitAny_cons (kit_ty h1) (fun e => by
    rw [e, Bool.false_or]
    exact kitAny_cons (b := r2) (kit_ty h2) (fun e2 => by rw [e2]; exact kitAny_nil) (fun e2 => e2)) (fun e => by rw [e, Bool.true_or])
theorem rep_bl (n : Nat) : (List.replicate n true).all id = true := by
  rw [List.all_replicate]
  simp
def sp_same (K : PySem.W.Frag) (n : Nat) : Sp := fun vs H Q _ => ∃ (x y : V) (D : PyData) (m : Nat), n = m + 1 ∧ vs = [x, y] ∧ Sh m D ∧ Dp K H x D ∧ Dp K H y D ∧ ∀ H', Same H H' → Q (.bl true) H'
section
variable {P : Program} {w : World} {K : PySem.W.Frag} {mg : Str → Option Value} {base : Heap}
theorem ok_same {f : Addr} {fd : FuncData} {n l : Nat} (F : Fun K "_law_same" "_law_same" s__law_same f fd) (M : Mg mg) (c__law_same : Cl P w K mg base l "_law_same" (sp_same K n)) : FnOk P w K mg base CX0 (l + 1) f fd ["actual", "due"] (sp_same K (n + 1)) := by
  refine F.ok sc__law_same (fun vs H Q E h => ?_) (fun cdv A outer s H vs Q E hr h => ?_)
  · obtain ⟨x, y, D, m, _, rfl, _⟩ := h
    rfl
  · obtain ⟨x, y, D, m, em, rfl, sh, hx, hy, q⟩ := h
    refine ⟨_, (pss_cons (ps_if (pt_val (pe_callB (isiTK K) (by rfl) M.isinstance (by decide +kernel) (pa_cons (pv 1) (pa_cons (pe_tup (pa_cons (pe_bltn (v := .ty "list") (by rfl) M.list (by decide +kernel) rfl) (pa_cons (pe_bltn (v := .ty "tuple") (by rfl) M.tuple (by decide +kernel) rfl) pa_nil))) pa_nil)))) (pss_cons (ps_if (PW.pt (pw_or (pt_cmpR op_ne (pe_callB (isiK K) (by rfl) M.isinstance (by decide +kernel) (pa_cons (pv 1) (pa_cons (pe_bltn (v := .ty "list") (by rfl) M.list (by decide +kernel) rfl) pa_nil))) (pe_callB (isiK K) (by rfl) M.isinstance (by decide +kernel) (pa_cons (pv 0) (pa_cons (pe_bltn (v := .ty "list") (by rfl) M.list (by decide +kernel) rfl) pa_nil))) (nomark _)) (pw_or1 (pt_cmpR op_ne (pe_callB (isiK K) (by rfl) M.isinstance (by decide +kernel) (pa_cons (pv 1) (pa_cons (pe_bltn (v := .ty "tuple") (by rfl) M.tuple (by decide +kernel) rfl) pa_nil))) (pe_callB (isiK K) (by rfl) M.isinstance (by decide +kernel) (pa_cons (pv 0) (pa_cons (pe_bltn (v := .ty "tuple") (by rfl) M.tuple (by decide +kernel) rfl) pa_nil))) (nomark _))))) (pss_one (ps_ret pe_bl)) pss_nil)
      (pss_cons (ps_if (pt_cmpR op_ne (pe_callB (len_seqK K) (by rfl) M.len PySem.boot_len (pa_cons (pv 0) pa_nil)) (pe_callB (len_seqK K) (by rfl) M.len PySem.boot_len (pa_cons (pv 1) pa_nil)) (nomark _)) (pss_one (ps_ret pe_bl)) pss_nil)
      (pss_one (ps_ret (pe_callB (allK K rfl) (by rfl) M.all (by decide +kernel) (pa_cons (pe_lc (own := [("k", 2)]) (g := gName 2) (tt := tYes) rfl sc__law_same.nd (pi_range1 (by rfl) M.range (pa_cons (pe_callB (len_seqK K) (by rfl) M.len PySem.boot_len (pa_cons (pv 1) pa_nil)) pa_nil)) (blkOk_by (N := N__law_same) (sc := defScope s__law_same) (by decide +kernel)) (fun _ _ _ _ _ => (pg_name (i := 2) sc__law_same.nd rfl (.inl rfl))) (fun _ _ _ _ _ => pts_nil) (fun _ _ _ _ _ => (pe_u c__law_same hr (by first | decide | omega) (by rfl) (pa_cons (pe_ix (ix_seqK K) (pv 0) (pv 2) (fun _ _ => rfl)) (pa_cons (pe_ix (ix_seqK K) (pv 1) (pv 2) (fun _ _ => rfl)) pa_nil))))) pa_nil)))))) pss_nil)
      (pss_cons (ps_if (pt_cmpR op_isN (pv 1) pe_non (nomark _)) (pss_one (ps_ret (pe_cmpR op_isN (pv 0) pe_non (nomark _)))) pss_nil)
      (pss_cons (ps_if (pt_cmpR op_ne (pe_callB (isiK K) (by rfl) M.isinstance (by decide +kernel) (pa_cons (pv 1) (pa_cons (pe_bltn (v := .ty "bool") (by rfl) M.bool (by decide +kernel) rfl) pa_nil))) (pe_callB (isiK K) (by rfl) M.isinstance (by decide +kernel) (pa_cons (pv 0) (pa_cons (pe_bltn (v := .ty "bool") (by rfl) M.bool (by decide +kernel) rfl) pa_nil))) (nomark _)) (pss_one (ps_ret pe_bl)) pss_nil)
      (pss_cons (ps_if (pt_val (pe_callB (isiK K) (by rfl) M.isinstance (by decide +kernel) (pa_cons (pv 1) (pa_cons (pe_bltn (v := .ty "str") (by rfl) M.str (by decide +kernel) rfl) pa_nil)))) (pss_one (ps_ret (pe_and (pe_callB (isiK K) (by rfl) M.isinstance (by decide +kernel) (pa_cons (pv 0) (pa_cons (pe_bltn (v := .ty "str") (by rfl) M.str (by decide +kernel) rfl) pa_nil))) (pe_one (pe_cmpR op_eq (pv 0) (pv 1) (nomark _)))))) pss_nil)
      (pss_one (ps_ret (pe_and (pe_callB (isiK K) (by rfl) M.isinstance (by decide +kernel) (pa_cons (pv 0) (pa_cons (pe_bltn (v := .ty "int") (by rfl) M.int (by decide +kernel) rfl) pa_nil))) (pe_one (pe_cmpR op_eq (pv 0) (pv 1) (nomark _)))))))))), ?_⟩
    refine ⟨_, rfl, by show 2 ≤ sizeLine; decide, fun p np => ?_⟩
    have s1 : Same H (upd H p (.tup [.ty "list", .ty "tuple"])) := same_upd np
    have h1 : (upd H p (.tup [.ty "list", .ty "tuple"])) p = some (.tup [.ty "list", .ty "tuple"]) := upd_same
    generalize upd H p (.tup [.ty "list", .ty "tuple"]) = H1 at s1 h1
    have hx1 := Dp.ext s1 D x hx
    have hy1 := Dp.ext s1 D y hy
    have key : (∃ (a b : Addr) (xs ys : List V) (ds : List PyData) (k : Nat) (tn : String) (r1 r2 : Bool), x = .ref a ∧ y = .ref b ∧ (SqL K H1 a xs ∧ SqL K H1 b ys ∨ SqT K H1 a xs ∧ SqT K H1 b ys) ∧ DpAll K H1 xs ds ∧ DpAll K H1 ys ds ∧ ds.length ≤ 100000 ∧ m = k + 1 ∧ (∀ d ∈ ds, Sh k d) ∧
        TyX K H1 x (.type tn) ∧ TyX K H1 y (.type tn) ∧ kitB tn "list" = some r1 ∧ kitB tn "tuple" = some r2 ∧ (r1 || r2) = true) ∨
        (∃ (tn : String), TyX K H1 x (.type tn) ∧ TyX K H1 y (.type tn) ∧ kitB tn "list" = some false ∧ kitB tn "tuple" = some false ∧ (x = .non ∧ y = .non ∨ (∃ b, x = .bl b ∧ y = .bl b ∧ tn = "bool") ∨ (∃ i, x = .int i ∧ y = .int i ∧ tn = "int") ∨ (∃ z, x = .str z ∧ y = .str z ∧ tn = "str"))) := by
      cases sh with
      | non => cases hx1; cases hy1; exact .inr ⟨"NoneType", .base .non, .base .non, by decide +kernel, by decide +kernel, .inl ⟨rfl, rfl⟩⟩
      | bl b => cases hx1; cases hy1; exact .inr ⟨"bool", .base (.bl b), .base (.bl b), by decide +kernel, by decide +kernel, .inr (.inl ⟨b, rfl, rfl, rfl⟩)⟩
      | int i => cases hx1; cases hy1; exact .inr ⟨"int", .base (.int i), .base (.int i), by decide +kernel, by decide +kernel, .inr (.inr (.inl ⟨i, rfl, rfl, rfl⟩))⟩
      | str z => cases hx1; cases hy1; exact .inr ⟨"str", .base (.str z), .base (.str z), by decide +kernel, by decide +kernel, .inr (.inr (.inr ⟨z, rfl, rfl, rfl⟩))⟩
      | lst l h =>
        cases hx1 with
        | lst hs ha =>
          cases hy1 with
          | lst hs' ha' => exact .inl ⟨_, _, _, _, _, _, "list", true, false, rfl, rfl, .inl ⟨hs, hs'⟩, ha, ha', l, rfl, h, tyL hs, tyL hs', by decide +kernel, by decide +kernel, rfl⟩
      | tup l h =>
        cases hx1 with
        | tup hs ha =>
          cases hy1 with
          | tup hs' ha' => exact .inl ⟨_, _, _, _, _, _, "tuple", false, true, rfl, rfl, .inr ⟨hs, hs'⟩, ha, ha', l, rfl, h, tyT hs, tyT hs', by decide +kernel, by decide +kernel, rfl⟩
    rcases key with ⟨a, b, xs, ys, ds, k, tn, r1, r2, rfl, rfl, hq, ha, hb, hl, ek, hk, tx, ty, k1, k2, kr⟩ | ⟨tn, tx, ty, k1, k2, hs⟩
    · -- a list or a tuple
      have ex := DpAll.len ha
      have ey := DpAll.len hb
      have hqa : SqL K H1 a xs ∨ SqT K H1 a xs := hq.elim (fun z => .inl z.1) (fun z => .inr z.1)
      have hqb : SqL K H1 b ys ∨ SqT K H1 b ys := hq.elim (fun z => .inl z.2) (fun z => .inr z.2)
      refine ⟨_, _, _, _, _, _, rfl, h1, .cons (.ty _) (.cons (.ty _) .nil), ty, k_any2 k1 k2, ?_⟩
      refine ⟨_, rfl, ?_⟩
      rw [kr]
      refine iteT ?_
      -- the kinds
      refine ⟨_, rfl, ⟨_, _, _, _, _, rfl, .ty _, ty, kit_ty k1, _, rfl, ⟨_, _, _, _, _, rfl, .ty _, tx, kit_ty k1, rfl, _, rfl, ?_⟩⟩⟩
      rw [decide_eq_true (rfl : V.bl r1 = V.bl r1)]
      refine iteF ?_
      refine ⟨_, rfl, ⟨_, _, _, _, _, rfl, .ty _, ty, kit_ty k2, _, rfl, ⟨_, _, _, _, _, rfl, .ty _, tx, kit_ty k2, rfl, _, rfl, ?_⟩⟩⟩
      rw [decide_eq_true (rfl : V.bl r2 = V.bl r2)]
      refine iteF ?_
      -- the lengths
      refine ⟨_, rfl, a, xs, rfl, hqa, ⟨_, rfl, b, ys, rfl, hqb, rfl, _, rfl, ?_⟩⟩
      rw [ex, ey, decide_eq_true (rfl : V.int (ds.length : Int) = V.int (ds.length : Int))]
      refine iteF ?_
      -- by places
      refine ⟨_, rfl, b, ys, rfl, hqb, _, rfl, by omega, by omega, fun D nD => ?_⟩
      rw [ey]
      refine lc_range (lo := 0) (n := ((ds.length : Nat) : Int).toNat) (fun i Hi => Same H1 Hi ∧ Hi D = some (.lst ((List.replicate i true).map V.bl))) ⟨same_upd nD, upd_same⟩ (fun i Hi hi hp => ?_) (fun Hn hp => ?_)
      · obtain ⟨si, eD⟩ := hp
        have hi2 : i < ds.length := by omega
        obtain ⟨va, hva, da⟩ := DpAll.get (DpAll.ext si ds xs ha) (List.getElem?_eq_getElem hi2)
        obtain ⟨vb, hvb, db⟩ := DpAll.get (DpAll.ext si ds ys hb) (List.getElem?_eq_getElem hi2)
        have ia : rIx K (.ref a) (.int (0 + (i : Int))) Hi = rIx K (.ref a) (.int (0 + (i : Int))) Hi := rfl
        refine ⟨rfl, ?_⟩
        have go : ∀ (c : Addr) (zs : List V) (v : V) (Q : VK), (SqL K H1 c zs ∨ SqT K H1 c zs) → zs[i]? = some v → Q v Hi → rIx K (.ref c) (.int (0 + (i : Int))) Hi Q := fun c zs v Q hz hv hQ => by
          rcases hz with hz | hz
          · exact .inl ⟨c, zs, _, v, rfl, rfl, si.seq hz, at_0 hv, hQ⟩
          · exact .inr (.inl ⟨c, zs, _, v, rfl, rfl, SqT.ext si hz, at_0 hv, hQ⟩)
        refine ⟨_, rfl, _, rfl, go a xs va _ hqa hva ⟨_, rfl, _, rfl, go b ys vb _ hqb hvb ?_⟩⟩
        refine ⟨va, vb, ds[i], k, by omega, rfl, hk _ (List.getElem_mem hi2), da, db, fun H' s' => ?_⟩
        refine ⟨_, s' _ _ eD, ?_, fun b o e => ?_, ?_⟩
        · rw [List.length_map, List.length_replicate]
          exact Nat.lt_of_lt_of_le (m := 100000) (by omega) (by decide)
        · have nb : b ≠ D := ne_of_none e nD
          rw [upd_ne nb]
          exact s' _ _ (si _ _ e)
        · rw [upd_same, List.replicate_succ', List.map_append]
          rfl
      · obtain ⟨si, eD⟩ := hp
        refine ⟨D, _, rfl, .of eD, ?_⟩
        rw [rep_bl]
        exact q _ (s1.trans si)
    · -- neither
      refine ⟨_, _, _, _, _, _, rfl, h1, .cons (.ty _) (.cons (.ty _) .nil), ty, k_any2 k1 k2, ?_⟩
      refine ⟨_, rfl, iteF ?_⟩
      rcases hs with ⟨rfl, rfl⟩ | ⟨b, rfl, rfl, rfl⟩ | ⟨i, rfl, rfl, rfl⟩ | ⟨z, rfl, rfl, rfl⟩
      · -- None
        refine ⟨_, rfl, rfl, _, rfl, iteT ?_⟩
        refine ⟨_, rfl, rfl, ?_⟩
        exact q _ s1
      · refine ⟨_, rfl, rfl, _, rfl, iteF ?_⟩
        refine ⟨_, rfl, ⟨_, _, _, _, _, rfl, .ty _, ty, kit_ty (show kitB _ _ = some true by decide +kernel), _, rfl, ⟨_, _, _, _, _, rfl, .ty _, tx, kit_ty (show kitB _ _ = some true by decide +kernel), rfl, _, rfl, iteF ?_⟩⟩⟩
        refine ⟨_, rfl, ⟨_, _, _, _, _, rfl, .ty _, ty, kit_ty (show kitB _ _ = some false by decide +kernel), _, rfl, iteF ?_⟩⟩
        refine ⟨_, rfl, ⟨_, _, _, _, _, rfl, .ty _, tx, kit_ty (show kitB _ _ = some true by decide +kernel), _, rfl, iteT ?_⟩⟩
        refine ⟨_, rfl, _, rfl, by cases b <;> rfl, ?_⟩
        rw [decide_eq_true (rfl : V.bl b = V.bl b)]
        exact q _ s1
      · refine ⟨_, rfl, rfl, _, rfl, iteF ?_⟩
        refine ⟨_, rfl, ⟨_, _, _, _, _, rfl, .ty _, ty, kit_ty (show kitB _ _ = some false by decide +kernel), _, rfl, ⟨_, _, _, _, _, rfl, .ty _, tx, kit_ty (show kitB _ _ = some false by decide +kernel), rfl, _, rfl, iteF ?_⟩⟩⟩
        refine ⟨_, rfl, ⟨_, _, _, _, _, rfl, .ty _, ty, kit_ty (show kitB _ _ = some false by decide +kernel), _, rfl, iteF ?_⟩⟩
        refine ⟨_, rfl, ⟨_, _, _, _, _, rfl, .ty _, tx, kit_ty (show kitB _ _ = some true by decide +kernel), _, rfl, iteT ?_⟩⟩
        refine ⟨_, rfl, _, rfl, rfl, ?_⟩
        rw [decide_eq_true (rfl : V.int i = V.int i)]
        exact q _ s1
      · refine ⟨_, rfl, rfl, _, rfl, iteF ?_⟩
        refine ⟨_, rfl, ⟨_, _, _, _, _, rfl, .ty _, ty, kit_ty (show kitB _ _ = some false by decide +kernel), _, rfl, ⟨_, _, _, _, _, rfl, .ty _, tx, kit_ty (show kitB _ _ = some false by decide +kernel), rfl, _, rfl, iteF ?_⟩⟩⟩
        refine ⟨_, rfl, ⟨_, _, _, _, _, rfl, .ty _, ty, kit_ty (show kitB _ _ = some true by decide +kernel), _, rfl, iteT ?_⟩⟩
        refine ⟨_, rfl, ⟨_, _, _, _, _, rfl, .ty _, tx, kit_ty (show kitB _ _ = some true by decide +kernel), _, rfl, iteT ?_⟩⟩
        refine ⟨_, rfl, _, rfl, rfl, ?_⟩
        rw [decide_eq_true (rfl : V.str z = V.str z)]
        exact q _ s1
/-- no data at all: where the recursion ends -/
theorem ok_same0 {f : Addr} {fd : FuncData} (F : Fun K "_law_same" "_law_same" s__law_same f fd) : FnOk P w K mg base CX0 1 f fd ["actual", "due"] (sp_same K 0) := by
  refine F.ok sc__law_same (fun vs H Q E h => ?_) (fun cdv A outer s H vs Q E hr h => ?_)
  · obtain ⟨x, y, D, m, e, _⟩ := h
    exact absurd e (by omega)
  · obtain ⟨x, y, D, m, e, _⟩ := h
    exact absurd e (by omega)
/-- of any depth -/
theorem cl_same {f : Addr} {fd : FuncData} (F : Fun K "_law_same" "_law_same" s__law_same f fd) (M : Mg mg) (g : mg "_law_same" = some (.ref f)) (b : Binds K fd ["actual", "due"] []) : ∀ n : Nat, Cl P w K mg base (n + 1) "_law_same" (sp_same K n)
  | 0 => FnOk.cl (ok_same0 F) F g b
  | n + 1 => FnOk.cl (ok_same F M (cl_same F M g b n)) F g b
end

/-! ### the nodes of diagrams in their order -/
def Bd.sz : Bd → Nat
  | .lf _ => 0
  | .nd _ w t => w.sz + t.sz + 1
def knw (acc : List Bd) : Bd → Bool
  | .lf _ => true
  | a => decide (a ∈ acc)
/-- all of one side, all of the other, then the node: what is known already is passed over -/
def post : List Bd → Bd → List Bd
  | acc, .lf _ => acc
  | acc, .nd e w t => if Bd.nd e w t ∈ acc then acc else post (post acc w) t ++ [.nd e w t]
def Clo (acc : List Bd) : Prop := ∀ e w t, Bd.nd e w t ∈ acc → knw acc w = true ∧ knw acc t = true
theorem knw_nd {acc : List Bd} {e : Int} {w t : Bd} : knw acc (.nd e w t) = true ↔ Bd.nd e w t ∈ acc := by
  unfold knw
  exact decide_eq_true_iff
theorem post_knw {acc : List Bd} {a : Bd} (h : knw acc a = true) : post acc a = acc := by
  cases a with
  | lf b => rfl
  | nd e w t => unfold post; exact if_pos (knw_nd.mp h)
theorem post_pre : ∀ (a : Bd) (acc : List Bd), acc <+: post acc a
  | .lf _, acc => List.prefix_refl acc
  | .nd e w t, acc => by
    unfold post
    split
    · exact List.prefix_refl acc
    · exact ((post_pre w acc).trans (post_pre t _)).trans (List.prefix_append _ _)
theorem knw_pre {acc bcc : List Bd} (h : acc <+: bcc) {a : Bd} (k : knw acc a = true) : knw bcc a = true := by
  cases a with
  | lf b => rfl
  | nd e w t => exact knw_nd.mpr (h.subset (knw_nd.mp k))
theorem post_self : ∀ (a : Bd) (acc : List Bd), knw (post acc a) a = true
  | .lf _, _ => rfl
  | .nd e w t, acc => by
    rw [knw_nd]
    unfold post
    split
    · assumption
    · exact List.mem_append_right _ (List.mem_singleton.mpr rfl)
theorem post_mem : ∀ (a : Bd) (acc : List Bd) (b : Bd), b ∈ post acc a → b ∈ acc ∨ b.sz ≤ a.sz
  | .lf _, acc, b, h => .inl h
  | .nd e w t, acc, b, h => by
    unfold post at h
    split at h
    · exact .inl h
    · rcases List.mem_append.mp h with h | h
      · rcases post_mem t _ b h with h | h
        · rcases post_mem w acc b h with h | h
          · exact .inl h
          · right; show _ ≤ w.sz + t.sz + 1; omega
        · right; show _ ≤ w.sz + t.sz + 1; omega
      · rw [List.mem_singleton.mp h]
        exact .inr (Nat.le_refl _)
theorem post_new {e : Int} {w t : Bd} {acc : List Bd} (h : Bd.nd e w t ∉ acc) : Bd.nd e w t ∉ post (post acc w) t := by
  intro z
  rcases post_mem t _ _ z with z | z
  · rcases post_mem w _ _ z with z | z
    · exact h z
    · have : w.sz + t.sz + 1 ≤ w.sz := z
      omega
  · have : w.sz + t.sz + 1 ≤ t.sz := z
    omega
theorem post_nd {e : Int} {w t : Bd} {acc : List Bd} (h : Bd.nd e w t ∉ acc) : post acc (.nd e w t) = post (post acc w) t ++ [.nd e w t] := by
  rw [post]
  exact if_neg h
/-- once more behind its sides -/
theorem post_again {e : Int} {w t : Bd} {acc : List Bd} (h : Bd.nd e w t ∉ acc) : post (post (post acc w) t) (.nd e w t) = post acc (.nd e w t) := by
  have k1 : knw (post (post acc w) t) w = true := knw_pre (post_pre t _) (post_self w acc)
  have k2 : knw (post (post acc w) t) t = true := post_self t _
  rw [post_nd (post_new h), post_nd h, post_knw k1, post_knw k2]
theorem post_clo : ∀ (a : Bd) (acc : List Bd), Clo acc → Clo (post acc a)
  | .lf _, _, h => h
  | .nd e w t, acc, h => by
    unfold post
    split
    · exact h
    · have h2 := post_clo t _ (post_clo w acc h)
      have k1 : knw (post (post acc w) t) w = true := knw_pre (post_pre t _) (post_self w acc)
      have k2 : knw (post (post acc w) t) t = true := post_self t _
      intro e' w' t' hm
      rcases List.mem_append.mp hm with hm | hm
      · obtain ⟨g1, g2⟩ := h2 _ _ _ hm
        exact ⟨knw_pre (List.prefix_append _ _) g1, knw_pre (List.prefix_append _ _) g2⟩
      · rw [List.mem_singleton] at hm
        cases hm
        exact ⟨knw_pre (List.prefix_append _ _) k1, knw_pre (List.prefix_append _ _) k2⟩
theorem post_nodup : ∀ (a : Bd) (acc : List Bd), acc.Nodup → (post acc a).Nodup
  | .lf _, _, h => h
  | .nd e w t, acc, h => by
    unfold post
    split
    · exact h
    · rename_i hn
      rw [List.nodup_append]
      refine ⟨post_nodup t _ (post_nodup w acc h), List.nodup_cons.mpr ⟨List.not_mem_nil, List.nodup_nil⟩, fun x hx y hy z => ?_⟩
      rw [List.mem_singleton] at hy
      subst z hy
      exact post_new hn hx
/-- how many turns of the loop -/
def itn : List Bd → Bd → Nat
  | _, .lf _ => 1
  | acc, .nd e w t => if Bd.nd e w t ∈ acc then 1 else if (knw acc w && knw acc t) = true then 2 else 3 + (if knw acc w = true then 0 else itn acc w) + (if knw acc t = true then 0 else itn (post acc w) t)
def itns : List Bd → List Bd → Nat
  | _, [] => 0
  | acc, a :: as => itn acc a + itns (post acc a) as
theorem itn_knw {acc : List Bd} {a : Bd} (h : knw acc a = true) : itn acc a = 1 := by
  cases a with
  | lf b => rfl
  | nd e w t => unfold itn; exact if_pos (knw_nd.mp h)
/-- what is put on the pile -/
def wts (acc : List Bd) (w t : Bd) : List Bd := (if knw acc w = true then [] else [w]) ++ (if knw acc t = true then [] else [t])
theorem wts_nil {acc : List Bd} {w t : Bd} : wts acc w t = [] ↔ knw acc w = true ∧ knw acc t = true := by
  unfold wts
  cases knw acc w <;> cases knw acc t <;> simp
theorem foldl_wts {acc : List Bd} {w t : Bd} : (wts acc w t).foldl post acc = post (post acc w) t := by
  unfold wts
  by_cases h1 : knw acc w = true
  · rw [if_pos h1, post_knw h1]
    by_cases h2 : knw acc t = true
    · rw [if_pos h2, post_knw h2]
      rfl
    · rw [if_neg h2]
      rfl
  · rw [if_neg h1]
    by_cases h2 : knw acc t = true
    · rw [if_pos h2, post_knw (knw_pre (post_pre w acc) h2)]
      rfl
    · rw [if_neg h2]
      rfl
theorem itns_app : ∀ (as bs : List Bd) (acc : List Bd), itns acc (as ++ bs) = itns acc as + itns (as.foldl post acc) bs
  | [], bs, acc => by rw [List.nil_append]; show _ = 0 + _; rw [Nat.zero_add]; rfl
  | a :: as, bs, acc => by
    rw [List.cons_append]
    show itn acc a + itns (post acc a) (as ++ bs) = itn acc a + itns (post acc a) as + _
    rw [itns_app as bs, List.foldl_cons, Nat.add_assoc]
theorem itns_push {acc : List Bd} {e : Int} {w t : Bd} {as : List Bd} (h : Bd.nd e w t ∉ acc) (hw : wts acc w t ≠ []) : itns acc (wts acc w t ++ .nd e w t :: as) + 1 = itns acc (.nd e w t :: as) ∧ (wts acc w t ++ .nd e w t :: as).foldl post acc = (Bd.nd e w t :: as).foldl post acc := by
  have hk : ¬ (knw acc w && knw acc t) = true := fun z => hw (wts_nil.mpr (by rw [Bool.and_eq_true] at z; exact z))
  constructor
  · rw [itns_app, foldl_wts]
    have k1 : knw (post (post acc w) t) w = true := knw_pre (post_pre t _) (post_self w acc)
    have k2 : knw (post (post acc w) t) t = true := post_self t _
    have e1 : itn (post (post acc w) t) (.nd e w t) = 2 := by
      unfold itn
      rw [if_neg (post_new h), k1, k2]
      rfl
    have e2 : itn acc (.nd e w t) = 3 + (if knw acc w = true then 0 else itn acc w) + (if knw acc t = true then 0 else itn (post acc w) t) := by
      rw [itn]
      rw [if_neg h, if_neg hk]
    show itns acc (wts acc w t) + (itn _ _ + itns _ as) + 1 = itn acc _ + itns _ as
    rw [e1, e2, post_again h]
    have e3 : itns acc (wts acc w t) = (if knw acc w = true then 0 else itn acc w) + (if knw acc t = true then 0 else itn (post acc w) t) := by
      unfold wts
      by_cases h1 : knw acc w = true
      · rw [if_pos h1, if_pos h1]
        by_cases h2 : knw acc t = true
        · rw [if_pos h2, if_pos h2]; rfl
        · rw [if_neg h2, if_neg h2, List.nil_append, post_knw h1]
          show itn acc t + 0 = 0 + itn acc t
          omega
      · rw [if_neg h1, if_neg h1]
        by_cases h2 : knw acc t = true
        · rw [if_pos h2, if_pos h2, List.append_nil]
          rfl
        · rw [if_neg h2, if_neg h2]
          show itn acc w + (itn (post acc w) t + 0) = _
          omega
    omega
  · rw [List.foldl_append, foldl_wts, List.foldl_cons, List.foldl_cons, post_again h]
/-- both sides known: it gets its number -/
theorem itns_num {acc : List Bd} {e : Int} {w t : Bd} {as : List Bd} (h : Bd.nd e w t ∉ acc) (k1 : knw acc w = true) (k2 : knw acc t = true) : itns (acc ++ [.nd e w t]) (.nd e w t :: as) + 1 = itns acc (.nd e w t :: as) ∧ (Bd.nd e w t :: as).foldl post (acc ++ [.nd e w t]) = (Bd.nd e w t :: as).foldl post acc := by
  have e0 : post acc (.nd e w t) = acc ++ [.nd e w t] := by rw [post_nd h, post_knw k1, post_knw k2]
  have hm : Bd.nd e w t ∈ acc ++ [.nd e w t] := List.mem_append_right _ (List.mem_singleton.mpr rfl)
  have e1 : post (acc ++ [.nd e w t]) (.nd e w t) = acc ++ [.nd e w t] := post_knw (knw_nd.mpr hm)
  constructor
  · show itn _ _ + itns _ as + 1 = itn _ _ + itns _ as
    rw [e0, e1, itn_knw (knw_nd.mpr hm)]
    have : itn acc (.nd e w t) = 2 := by
      unfold itn
      rw [if_neg h, k1, k2]
      rfl
    omega
  · rw [List.foldl_cons, List.foldl_cons, e0, e1]
/-- the numbers by which nodes tell conditions -/
def nmb (acc : List Bd) : Bd → Nat
  | .lf b => if b = true then 1 else 0
  | a => acc.idxOf a + 2
theorem nmb_pre {acc bcc : List Bd} (h : acc <+: bcc) {a : Bd} (k : knw acc a = true) : nmb bcc a = nmb acc a := by
  cases a with
  | lf b => rfl
  | nd e w t =>
    obtain ⟨r, rfl⟩ := h
    show (acc ++ r).idxOf _ + 2 = acc.idxOf _ + 2
    rw [List.idxOf_append, if_pos (knw_nd.mp k)]

/-! ### the table of a condition -/
def Rel2 (N : Nds) : List Nat → List Bd → Prop
  | [], [] => True
  | c :: cs, a :: as => At N c a ∧ Rel2 N cs as
  | _, _ => False
theorem Rel2.len {N : Nds} : ∀ {cs : List Nat} {as : List Bd}, Rel2 N cs as → cs.length = as.length
  | [], [], _ => rfl
  | [], _ :: _, h => h.elim
  | _ :: _, [], h => h.elim
  | _ :: cs, _ :: as, h => congrArg (· + 1) (Rel2.len h.2)
theorem Rel2.app {N : Nds} : ∀ {cs : List Nat} {as : List Bd} {ds : List Nat} {bs : List Bd}, Rel2 N cs as → Rel2 N ds bs → Rel2 N (cs ++ ds) (as ++ bs)
  | [], [], _, _, _, h => h
  | [], _ :: _, _, _, h, _ => h.elim
  | _ :: _, [], _, _, h, _ => h.elim
  | _ :: cs, _ :: as, _, _, h, g => ⟨h.1, Rel2.app h.2 g⟩
def nbl : Nat → List Nat → List (Key × V)
  | _, [] => []
  | n, c :: cs => (.inl (c : Int), .int (n : Int)) :: nbl (n + 1) cs
/-- the numbers that are told so far -/
def nbs (cs : List Nat) : List (Key × V) := (.inl 0, .int 0) :: (.inl 1, .int 1) :: nbl 2 cs
theorem nbl_len : ∀ (cs : List Nat) (n : Nat), (nbl n cs).length = cs.length
  | [], _ => rfl
  | _ :: cs, n => congrArg (· + 1) (nbl_len cs (n + 1))
theorem nbs_len (cs : List Nat) : (nbs cs).length = cs.length + 2 := by
  unfold nbs
  rw [List.length_cons, List.length_cons, nbl_len]
theorem nbl_snoc : ∀ (cs : List Nat) (n c : Nat), nbl n (cs ++ [c]) = nbl n cs ++ [(.inl (c : Int), .int ((n + cs.length : Nat) : Int))]
  | [], n, c => rfl
  | d :: cs, n, c => by
    show _ :: nbl (n + 1) (cs ++ [c]) = _ :: (nbl (n + 1) cs ++ _)
    rw [nbl_snoc cs (n + 1) c, List.length_cons, show n + 1 + cs.length = n + (cs.length + 1) by omega]
theorem nbs_snoc (cs : List Nat) (c : Nat) : nbs (cs ++ [c]) = nbs cs ++ [(.inl (c : Int), .int ((cs.length + 2 : Nat) : Int))] := by
  unfold nbs
  rw [nbl_snoc, Nat.add_comm 2]
  rfl
theorem key_ne {c d : Nat} (h : c ≠ d) : ¬ (Sum.inl (c : Int) : Key) = Sum.inl (d : Int) := fun z => h (by
  injection z with z
  omega)
theorem nbl_val {N : Nds} (hN : N.Nodup) {c : Nat} {a : Bd} (hA : At N c a) : ∀ {cs : List Nat} {as : List Bd} {n : Nat}, Rel2 N cs as → valV (nbl n cs) (.inl (c : Int)) = if a ∈ as then some (.int ((as.idxOf a + n : Nat) : Int)) else none
  | [], [], n, _ => by
    rw [if_neg List.not_mem_nil]
    rfl
  | [], _ :: _, _, h => h.elim
  | _ :: _, [], _, h => h.elim
  | d :: cs, b :: as, n, h => by
    by_cases e : d = c
    · subst e
      have eb := h.1.fn hA
      subst eb
      rw [if_pos List.mem_cons_self, List.idxOf_cons_self, Nat.zero_add]
      exact valV_pos rfl
    · have eb : b ≠ a := fun z => e (by subst z; exact h.1.inj hN hA)
      show valV ((.inl (d : Int), .int (n : Int)) :: nbl (n + 1) cs) _ = _
      rw [valV_neg (key_ne e), nbl_val hN hA h.2]
      by_cases ha : a ∈ as
      · rw [if_pos ha, if_pos (List.mem_cons_of_mem _ ha), show (b :: as).idxOf a = as.idxOf a + 1 by rw [List.idxOf_cons, beq_false_of_ne eb]; rfl]
        exact congrArg (fun z => some (V.int z)) (by omega)
      · rw [if_neg ha, if_neg (fun z => by
          rcases List.mem_cons.mp z with z | z
          · exact eb z.symm
          · exact ha z)]
theorem nbs_val {N : Nds} (hN : N.Nodup) {c : Nat} {a : Bd} (hA : At N c a) {cs : List Nat} {as : List Bd} (h : Rel2 N cs as) : valV (nbs cs) (.inl (c : Int)) = if knw as a = true then some (.int ((nmb as a : Nat) : Int)) else none := by
  unfold nbs
  cases hA with
  | f => exact valV_pos (p := ((.inl 0 : Key), V.int 0)) rfl
  | t => exact (valV_neg (p := ((.inl 0 : Key), V.int 0)) (by intro z; cases z)).trans (valV_pos (p := ((.inl 1 : Key), V.int 1)) rfl)
  | @nd k e w t A B hk ha hb =>
    have e1 : ¬ (Sum.inl 0 : Key) = Sum.inl ((k + 2 : Nat) : Int) := fun z => by
      injection z with z
      omega
    have e2 : ¬ (Sum.inl 1 : Key) = Sum.inl ((k + 2 : Nat) : Int) := fun z => by
      injection z with z
      omega
    rw [valV_neg (p := ((.inl 0 : Key), V.int 0)) e1, valV_neg (p := ((.inl 1 : Key), V.int 1)) e2, nbl_val hN (.nd hk ha hb) h]
    by_cases hm : Bd.nd e A B ∈ as
    · rw [if_pos hm, if_pos (knw_nd.mpr hm)]
      rfl
    · rw [if_neg hm, if_neg (fun z => hm (knw_nd.mp z))]
def rowD (acc : List Bd) : Bd → PyData
  | .nd e w t => .tuple [.int e, .int ((nmb acc w : Nat) : Int), .int ((nmb acc t : Nat) : Int)]
  | .lf _ => .none
theorem row_pre {acc bcc : List Bd} (hc : Clo acc) (h : acc <+: bcc) {a : Bd} (ha : a ∈ acc) : rowD bcc a = rowD acc a := by
  cases a with
  | lf b => rfl
  | nd e w t =>
    obtain ⟨k1, k2⟩ := hc _ _ _ ha
    show PyData.tuple _ = PyData.tuple _
    rw [nmb_pre h k1, nmb_pre h k2]
theorem rows_snoc {acc : List Bd} (hc : Clo acc) (a : Bd) : (acc ++ [a]).map (rowD (acc ++ [a])) = acc.map (rowD acc) ++ [rowD (acc ++ [a]) a] := by
  rw [List.map_append]
  refine congrArg (· ++ _) ?_
  exact List.map_congr_left fun b hb => row_pre hc (List.prefix_append _ _) hb
theorem rows_only (acc bcc : List Bd) : tupOnlys (bcc.map (rowD acc)) = true := by
  induction bcc with
  | nil => rfl
  | cons a bcc ih =>
    rw [List.map_cons]
    unfold tupOnlys
    rw [ih]
    cases a <;> rfl
theorem foldl_pre : ∀ (as acc : List Bd), acc <+: as.foldl post acc
  | [], acc => List.prefix_refl acc
  | a :: as, acc => (post_pre a acc).trans (foldl_pre as _)
theorem itns_len : ∀ (as acc : List Bd), as.length ≤ itns acc as
  | [], _ => Nat.le_refl _
  | a :: as, acc => by
    have h1 := itns_len as (post acc a)
    have h2 : 1 ≤ itn acc a := by
      cases a with
      | lf b => exact Nat.le_refl _
      | nd e w t =>
        unfold itn
        split
        · exact Nat.le_refl _
        · split <;> omega
    show as.length + 1 ≤ itn acc a + itns _ as
    omega
theorem itn_le : ∀ (a : Bd) (acc : List Bd), itn acc a ≤ 4 * a.sz + 1
  | .lf _, _ => Nat.le_refl _
  | .nd e w t, acc => by
    have h1 := itn_le w acc
    have h2 := itn_le t (post acc w)
    unfold itn
    show _ ≤ 4 * (w.sz + t.sz + 1) + 1
    split
    · omega
    · split
      · omega
      · split <;> split <;> omega
theorem itns_le : ∀ (as acc : List Bd) (b : Nat), (∀ a ∈ as, a.sz ≤ b) → itns acc as ≤ as.length * (4 * b + 1)
  | [], _, _, _ => Nat.zero_le _
  | a :: as, acc, b, h => by
    have h1 := itn_le a acc
    have h2 := itns_le as (post acc a) b fun x hx => h x (List.mem_cons_of_mem _ hx)
    have h3 := h a List.mem_cons_self
    show itn acc a + itns _ as ≤ (as.length + 1) * _
    rw [Nat.succ_mul]
    omega
theorem post_len : ∀ (a : Bd) (acc : List Bd), (post acc a).length ≤ acc.length + a.sz
  | .lf _, _ => Nat.le_refl _
  | .nd e w t, acc => by
    have h1 := post_len w acc
    have h2 := post_len t (post acc w)
    unfold post
    show _ ≤ acc.length + (w.sz + t.sz + 1)
    split
    · omega
    · rw [List.length_append]
      show _ + 1 ≤ _
      omega
theorem posts_len : ∀ (as acc : List Bd) (b : Nat), (∀ a ∈ as, a.sz ≤ b) → (as.foldl post acc).length ≤ acc.length + as.length * b
  | [], acc, _, _ => by simp
  | a :: as, acc, b, h => by
    have h1 := post_len a acc
    have h2 := posts_len as (post acc a) b fun x hx => h x (List.mem_cons_of_mem _ hx)
    have h3 := h a List.mem_cons_self
    rw [List.foldl_cons, List.length_cons, Nat.succ_mul]
    omega
theorem wf_sz {es : List Int} {a : Bd} (h : Wf es a) : a.sz + 1 ≤ 2 ^ es.length := by
  induction h with
  | lf => exact Nat.one_le_two_pow
  | @here x es w t _ _ _ iw it =>
    show w.sz + t.sz + 1 + 1 ≤ 2 ^ (es.length + 1)
    rw [Nat.pow_succ]
    omega
  | @skip x es a _ ih =>
    show _ ≤ 2 ^ (es.length + 1)
    rw [Nat.pow_succ]
    omega
def natsV (cs : List Nat) : List V := cs.map fun c => .int ((c : Nat) : Int)
theorem post_nds : ∀ (a : Bd) (acc : List Bd), (∀ b ∈ acc, ∃ e w t, b = Bd.nd e w t) → ∀ b ∈ post acc a, ∃ e w t, b = Bd.nd e w t
  | .lf _, _, h => h
  | .nd e w t, acc, h => by
    unfold post
    split
    · exact h
    · intro b hb
      rcases List.mem_append.mp hb with hb | hb
      · exact post_nds t _ (post_nds w acc h) b hb
      · rw [List.mem_singleton.mp hb]
        exact ⟨_, _, _, rfl⟩
theorem Rel2.get {N : Nds} : ∀ {cs : List Nat} {as : List Bd} {i : Nat} {c : Nat} {a : Bd}, Rel2 N cs as → cs[i]? = some c → as[i]? = some a → At N c a
  | [], _, _, _, _, _, h, _ => by simp at h
  | _ :: _, [], _, _, _, h, _, _ => h.elim
  | c :: cs, a :: as, 0, c', a', h, h1, h2 => by
    have e1 : c = c' := Option.some.inj h1
    have e2 : a = a' := Option.some.inj h2
    subst e1 e2
    exact h.1
  | c :: cs, a :: as, i + 1, c', a', h, h1, h2 => Rel2.get h.2 (by simpa using h1) (by simpa using h2)
/-- what listed leaves: the nodes and the numbers -/
def sp_listed (C : Addr) (K : PySem.W.Frag) : Sp := fun vs H Q _ => ∃ s N es L a cs as, vs = [.ref s.p, .ref a] ∧ Sto C K H s N es L ∧ SqL K H a (natsV cs) ∧ Rel2 N cs as ∧ cs.length ≤ 100 ∧ (∀ b ∈ as, b.sz ≤ 1000) ∧
  ∀ H' q nl nu xs ks, Same H H' → H' q = some (.tup [.ref nl, .ref nu]) → H nl = none → H' nl = some (.lst xs) → H' nu = some (.dK (nbs ks)) → Rel2 N ks (as.reverse.foldl post []) → DpAll K H' xs ((as.reverse.foldl post []).map (rowD (as.reverse.foldl post []))) → Q (.ref q) H'
def sp_table (C : Addr) (K : PySem.W.Frag) : Sp := fun vs H Q _ => ∃ s N es L c a, vs = [.ref s.p, .int ((c : Nat) : Int)] ∧ Sto C K H s N es L ∧ At N c a ∧ a.sz ≤ 1000 ∧
  ∀ H' q nl xs, Same H H' → H' q = some (.tup [.ref nl, .int ((nmb (post [] a) a : Nat) : Int)]) → H nl = none → H' nl = some (.lst xs) → DpAll K H' xs ((post [] a).map (rowD (post [] a))) → Q (.ref q) H'
section
variable {P : Program} {w : World} {K : PySem.W.Frag} {mg : Str → Option Value} {base : Heap}
theorem Rel2.rev {N : Nds} : ∀ {cs : List Nat} {as : List Bd}, Rel2 N cs as → Rel2 N cs.reverse as.reverse
  | [], [], h => h
  | [], _ :: _, h => h.elim
  | _ :: _, [], h => h.elim
  | c :: cs, a :: as, h => by
    rw [List.reverse_cons, List.reverse_cons]
    exact Rel2.app (Rel2.rev h.2) ⟨h.1, trivial⟩
/-- the state of listed's loop: a pile, top first; the numbers and nodes so far -/
def LiW (K : PySem.W.Frag) (H : Hp) (N : Nds) (s : SA) (a nl nu lf : Addr) (fin : List Bd) (m : Nat) (σ : L2.St) (Hi : Hp) : Prop :=
  ∃ ks acc sc sT xs z5 z6 z7 z8 z9 z10, m = itns acc sT ∧ itns acc sT ≤ 500000 ∧ σ = [some (.ref s.p), some (.ref a), some (.ref nl), some (.ref nu), some (.ref lf), z5, z6, z7, z8, z9, z10] ∧ Same H Hi ∧ Hi nl = some (.lst xs) ∧ DpAll K Hi xs (acc.map (rowD acc)) ∧ Hi nu = some (.dK (nbs ks)) ∧
    Hi lf = some (.lst (natsV sc.reverse)) ∧ Rel2 N ks acc ∧ Rel2 N sc sT ∧ Clo acc ∧ sT.foldl post acc = fin
theorem natsV_app (as bs : List Nat) : natsV (as ++ bs) = natsV as ++ natsV bs := by unfold natsV; rw [List.map_append]
theorem mk_nbs : mergeK ([] : List (Key × V)) [(.inl 0, .int 0), (.inl 1, .int 1)] = nbs [] := by rfl
set_option maxHeartbeats 4000000 in
theorem ok_listed {f C : Addr} {fd : FuncData} (F : Fun K "listed" "Diagrams.listed" s_Diagrams_listed f fd) (M : Mg mg) (G : DgC K C mg) (c_Diagrams_node_of : ClM P w K mg base 1 C "node_of" (sp_nof C K)) : FnOk P w K mg base CX0 2 f fd ["self", "conditions"] (sp_listed C K) := by
  refine F.ok sc_Diagrams_listed (fun vs H Q E h => ?_) (fun cdv A outer s H vs Q E hr h => ?_)
  · obtain ⟨s, N, es, L, a, cs, as, rfl, _⟩ := h
    rfl
  · obtain ⟨s, N, es, L, a, cs, as, rfl, st, ha, rel, hl, hsz, q⟩ := h
    have hnd := st.nd
    generalize hfin : as.reverse.foldl post [] = fin at q
    have lfin : fin.length ≤ 100000 := by
      have h1 := posts_len as.reverse [] 1000 fun b hb => hsz b (List.mem_reverse.mp hb)
      rw [hfin, List.length_reverse, ← rel.len] at h1
      have h2 : ([] : List Bd).length = 0 := rfl
      have h3 := Nat.mul_le_mul_right 1000 hl
      omega
    have sl : (1000000 : Nat) < sizeLine := by decide
    refine ⟨_, (pss_cons (ps_set (i := 2) sc_Diagrams_listed.nd rfl (.inl rfl) (pe_lst pa_nil))
      (pss_cons (ps_set (i := 3) sc_Diagrams_listed.nd rfl (.inr rfl) (pe_disp (pps_cons (C8.pe_gc (by rfl) G.NEVER) pe_int (pps_cons (C8.pe_gc (by rfl) G.ALWAYS) pe_int pps_nil)) (by rfl) (by rfl) (fun z => by cases z) (by decide)))
      (pss_cons (ps_set (i := 4) sc_Diagrams_listed.nd rfl (.inl rfl) (pe_callTy (listK K) (by rfl) M.list (by decide +kernel) (pa_cons (pv 1) pa_nil)))
      (pss_cons (ps_while PassesOwn.never (pt_truthK K (pv 4) (by intro _; rfl)) (pss_cons (ps_set (i := 5) sc_Diagrams_listed.nd rfl (.inl rfl) (pe_ix (ix_listK K) (pv 4) (pe_un un_neg pe_int) (fun _ _ => rfl)))
      (pss_cons (ps_if (pt_cmp (pc_din (hu_of hr) (pv 5) (pv 3))) (pss_cons (ps_expr (pe_bm0 PySem.F.plainAttrs_list PySem.F.slot_list_pop PySem.F.type_list_pop mt_pop (pv 4)))
      (pss_one ps_continue)) pss_nil)
      (pss_cons (ps_asg (pe_mt c_Diagrams_node_of hr (by first | decide | omega) (pv 0) (pa_cons (pv 5) pa_nil)) (pg_tup (by rfl) (pgs_cons (pg_name (i := 6) sc_Diagrams_listed.nd rfl (.inl rfl)) (pgs_cons (pg_name (i := 7) sc_Diagrams_listed.nd rfl (.inl rfl)) (pgs_cons (pg_name (i := 8) sc_Diagrams_listed.nd rfl (.inl rfl)) pgs_nil)))))
      (pss_cons (ps_setLc (i := 9) (own := [("part", 10)]) (g := gName 10) rfl sc_Diagrams_listed.nd rfl rfl (sw_true rfl rfl rfl (by decide +kernel)) (pi_tup (pe_tup (pa_cons (pv 8) (pa_cons (pv 7) pa_nil)))) (blkOk_by (N := N_Diagrams_listed) (sc := defScope s_Diagrams_listed) (by decide +kernel)) (fun _ _ _ _ _ => (pg_name (i := 10) sc_Diagrams_listed.nd rfl (.inl rfl))) (fun _ _ _ _ _ => (pts_one (pt_cmp (pc_dnotin (hu_of hr) (pv 10) (pv 3))))) (fun _ _ _ _ _ => (pv 10)))
      (pss_cons (ps_expr (pe_bmK K PySem.F.plainAttrs_list PySem.F.slot_list_extend PySem.F.type_list_extend mt_extend (pv 4) (pa_cons (pv 9) pa_nil)))
      (pss_one (ps_if (pt_not (pt_truthK K (pv 9) (by intro _; rfl))) (pss_cons (ps_dput (hu_of hr) (pv 3) (pv 5) (pe_callB call_lenD (by rfl) M.len PySem.boot_len (pa_cons (pv 3) pa_nil)) rfl)
      (pss_one (ps_expr (pe_bmK K PySem.F.plainAttrs_list PySem.F.slot_list_append PySem.F.type_list_append mt_append (pv 2) (pa_cons (pe_tup (pa_cons (pv 6) (pa_cons (pe_dget (hu_of hr) (pv 3) (pv 7) (fun _ _ => rfl)) (pa_cons (pe_dget (hu_of hr) (pv 3) (pv 8) (fun _ _ => rfl)) pa_nil)))) pa_nil))))) pss_nil))))))))
      (pss_one (ps_ret (pe_tup (pa_cons (pv 2) (pa_cons (pv 3) pa_nil))))))))), ?_⟩
    refine ⟨by show 0 ≤ sizeLine; decide, fun nl nnl => ?_⟩
    have s1 := same_upd nnl (o := .lst [])
    have e1 : (upd H nl (.lst [])) nl = some (.lst []) := upd_same
    generalize upd H nl (.lst []) = H1 at s1 e1
    intro nu nnu
    refine ⟨upd_same, [(.inl 0, .int 0), (.inl 1, .int 1)], rfl, by decide, ?_⟩
    rw [mk_nbs, upd_upd]
    have s2 := same_upd nnu (o := .dK (nbs []))
    have e2 : (upd H1 nu (.dK (nbs []))) nu = some (.dK (nbs [])) := upd_same
    generalize upd H1 nu (.dK (nbs [])) = H2 at s2 e2
    refine ⟨_, rfl, a, _, rfl, .inl ((s1.trans s2).seq ha), fun lf nlf => ?_⟩
    have s3 := same_upd nlf (o := .lst (natsV cs))
    have e3 : (upd H2 lf (.lst (natsV cs))) lf = some (.lst (natsV cs)) := upd_same
    have nlfl : lf ≠ nl := (ne_of_none (s2 _ _ e1) nlf).symm
    generalize upd H2 lf (.lst (natsV cs)) = H3 at s3 e3
    have nnu0 := s1.free nnu
    have nlf0 := (s1.trans s2).free nlf
    have fresh : ∀ {Hi : Hp} {p : Addr} {o : HO}, Same H Hi → H p = none → Same H (upd Hi p o) := fun sm np b o e => by
      rw [upd_ne (ne_of_none e np)]
      exact sm b o e
    refine ⟨LiW K H N s a nl nu lf fin, ⟨_, [], [], cs.reverse, as.reverse, [], none, none, none, none, none, none, rfl, ?_, rfl, (s1.trans s2).trans s3, (s2.trans s3) _ _ e1, .nil, s3 _ _ e2, by rw [List.reverse_reverse]; exact e3, trivial, rel.rev, (by intro _ _ _ h; cases h), hfin⟩, ?_⟩
    · have h1 := itns_le as.reverse [] 1000 fun b hb => hsz b (List.mem_reverse.mp hb)
      rw [List.length_reverse, ← rel.len] at h1
      have h3 := Nat.mul_le_mul_right (4 * 1000 + 1) hl
      omega
    rintro m σ Hi ⟨ks, acc, sc, sT, xs, z5, z6, z7, z8, z9, z10, rfl, hm, rfl, si, enl, dxs, enu, elf, rk, rs, hclo, hf⟩
    have nnlu : nl ≠ nu := ne_of enl enu (fun z => nomatch z)
    have nlfu : lf ≠ nu := ne_of elf enu (fun z => nomatch z)
    have lacc : acc.length ≤ 100000 := by
      have := (foldl_pre sT acc).length_le
      rw [hf] at this
      omega
    have lks : ks.length ≤ 100000 := by rw [rk.len]; exact lacc
    have lxs : xs.length = acc.length := by rw [DpAll.len dxs, List.length_map]
    refine ⟨_, rfl, _, .inl ⟨_, .of elf, rfl⟩, ?_⟩
    cases sc with
    | nil =>
      cases sT with
      | cons b sT => exact rs.elim
      | nil =>
        refine iteF ?_
        have hf : acc = fin := hf
        refine ⟨_, rfl, _, rfl, by show 2 ≤ sizeLine; decide, fun q' nq' => ?_⟩
        subst hf
        exact q _ q' nl nu xs ks (si.trans (same_upd nq')) upd_same nnl (same_upd nq' _ _ enl) (same_upd nq' _ _ enu) rk (DpAll.ext (same_upd nq') _ _ dxs)
    | cons c sc =>
      cases sT with
      | nil => exact rs.elim
      | cons b sT =>
        rw [List.reverse_cons, natsV_app] at elf ⊢
        have hne : (natsV sc.reverse ++ natsV [c]).isEmpty = false := by
          cases natsV sc.reverse <;> rfl
        rw [hne]
        refine iteT ⟨fun σ' H' => ∃ m', m' < itns acc (b :: sT) ∧ LiW K H N s a nl nu lf fin m' σ' H', fun _ _ h => h, ?_⟩
        have hb := rs.1
        have sti := st.ext si
        refine ⟨_, rfl, _, rfl, lf, _, _, .int ((c : Nat) : Int), rfl, rfl, .of elf, atI_last _ _, ?_⟩
        refine ⟨_, rfl, _, rfl, nu, _, rfl, DGet.k (k := .inl (c : Int)) enu, _, rfl, ?_⟩
        rw [nbs_val hnd hb rk]
        by_cases hk : knw acc b = true
        · -- known: it goes off the pile
          rw [if_pos hk]
          refine iteT ⟨_, rfl, .inl ⟨rfl, _, .inl (.inl elf)⟩, lf, _, .int ((c : Nat) : Int), rfl, rfl, elf, ?_, ?_⟩
          · rw [List.length_append]
            show (natsV sc.reverse ++ [V.int ((c : Nat) : Int)])[(natsV sc.reverse).length + 1 - 1]? = _
            rw [Nat.add_sub_cancel, List.getElem?_append_right (Nat.le_refl _), Nat.sub_self]
            rfl
          · have ed : (natsV sc.reverse ++ natsV [c]).dropLast = natsV sc.reverse := by
              show (natsV sc.reverse ++ [V.int ((c : Nat) : Int)]).dropLast = _
              rw [List.dropLast_concat]
            rw [ed]
            have ei := itn_knw hk
            have ep := post_knw hk
            refine ⟨itns acc sT, ?_, ks, acc, sc, sT, xs, _, _, _, _, _, _, rfl, ?_, rfl, fresh si nlf0, by rw [upd_ne nlfl.symm]; exact enl, DpAll.away elf _ _ (rows_only acc acc) dxs, by rw [upd_ne nlfu.symm]; exact enu, upd_same, rk, rs.2, hclo, ?_⟩
            · show _ < itn acc b + itns (post acc b) sT
              rw [ei, ep]
              omega
            · have : itns acc (b :: sT) = itn acc b + itns (post acc b) sT := rfl
              rw [this, ep] at hm
              omega
            · rw [List.foldl_cons, ep] at hf
              exact hf
        · rw [if_neg hk]
          refine iteF ?_
          have h2 : 2 ≤ c := by
            cases hb with
            | f => exact absurd rfl hk
            | t => exact absurd rfl hk
            | nd _ _ _ => omega
          obtain ⟨e1, w1, t1, A1, B1, hn, hw1, ht1, rfl⟩ := hb.ge h2
          have hnm : Bd.nd e1 A1 B1 ∉ acc := fun z => hk (knw_nd.mpr z)
          refine ⟨_, rfl, sti.go (by decide +kernel) (by decide +kernel) (by decide +kernel) ⟨_, rfl, ?_⟩⟩
          refine ⟨s, N, es, L, c, _, rfl, sti, h2, hn, fun qa hq => ?_⟩
          refine ⟨qa, _, rfl, hq, rfl, _, _, rfl, _, _, rfl, _, _, rfl, rfl, ?_⟩
          -- those that wait
          refine ⟨_, rfl, _, rfl, by show 2 ≤ sizeLine; decide, fun tp ntp => ?_⟩
          have s4 := same_upd ntp (o := .tup [.int ((t1 : Nat) : Int), .int ((w1 : Nat) : Int)])
          have e4 : (upd Hi tp (.tup [.int ((t1 : Nat) : Int), .int ((w1 : Nat) : Int)])) tp = some (.tup (([(t1, B1), (w1, A1)] : List (Nat × Bd)).map fun p => .int ((p.1 : Nat) : Int))) := upd_same
          generalize upd Hi tp (.tup [.int ((t1 : Nat) : Int), .int ((w1 : Nat) : Int)]) = H4 at s4 e4
          refine ⟨tp, rfl, ⟨_, .of e4⟩, fun D nD => ?_⟩
          refine lc_tup (K := K) (a := tp) (xs := ([(t1, B1), (w1, A1)] : List (Nat × Bd)).map fun p => .int ((p.1 : Nat) : Int)) (fun i Hj => Same H4 Hj ∧ Hj D = some (.lst (natsV (((([(t1, B1), (w1, A1)] : List (Nat × Bd)).take i).filter fun p => !knw acc p.2).map (·.1))))) ⟨same_upd nD, upd_same⟩ (fun i Hj _ hp => .of (hp.1 _ _ e4)) (fun i x Hj hx hp => ?_) (fun Hm hp => ?_)
          · obtain ⟨sj, eD⟩ := hp
            rw [List.getElem?_map] at hx
            obtain ⟨p, hpv, rfl⟩ := Option.map_eq_some_iff.mp hx
            have hp2 : At N p.1 p.2 := by
              have := List.mem_of_getElem? hpv
              simp only [List.mem_cons, List.not_mem_nil, or_false] at this
              rcases this with rfl | rfl
              · exact ht1
              · exact hw1
            refine ⟨rfl, ?_⟩
            refine ⟨_, rfl, _, rfl, nu, _, rfl, DGet.k (k := .inl (p.1 : Int)) ((s4.trans sj) _ _ enu), _, rfl, ?_⟩
            rw [nbs_val hnd hp2 rk]
            have etk : (([(t1, B1), (w1, A1)] : List (Nat × Bd)).take (i + 1)).filter (fun p => !knw acc p.2) = (([(t1, B1), (w1, A1)] : List (Nat × Bd)).take i).filter (fun p => !knw acc p.2) ++ (if knw acc p.2 = true then [] else [p]) := by
              rw [List.take_add_one, hpv, List.filter_append]
              congr 1
              show List.filter _ [p] = _
              rw [List.filter_cons]
              cases knw acc p.2 <;> rfl
            by_cases hkp : knw acc p.2 = true
            · rw [if_pos hkp] at etk ⊢
              rw [List.append_nil] at etk
              refine iteF ⟨sj, ?_⟩
              rw [etk]
              exact eD
            · rw [if_neg hkp] at etk ⊢
              refine iteT ⟨_, rfl, _, eD, ?_, fun z o hz => ?_, ?_⟩
              · unfold natsV
                rw [List.length_map, List.length_map]
                have h1 := List.length_filter_le (fun p : Nat × Bd => !knw acc p.2) (([(t1, B1), (w1, A1)] : List (Nat × Bd)).take i)
                have h2 : (([(t1, B1), (w1, A1)] : List (Nat × Bd)).take i).length ≤ 2 := by
                  rw [List.length_take]
                  exact Nat.min_le_right _ _
                omega
              · rw [upd_ne (ne_of_none hz nD)]
                exact sj _ _ hz
              · rw [upd_same, etk, List.map_append, natsV_app]
                rfl
          · obtain ⟨sm, eD⟩ := hp
            have s4m := s4.trans sm
            have efl : (((([(t1, B1), (w1, A1)] : List (Nat × Bd)).take ((([(t1, B1), (w1, A1)] : List (Nat × Bd)).map fun p => (V.int ((p.1 : Nat) : Int))).length)).filter fun p => !knw acc p.2).map (·.1)) = ((if knw acc A1 = true then [] else [w1]) ++ (if knw acc B1 = true then [] else [t1])).reverse := by
              show (List.filter (fun p : Nat × Bd => !knw acc p.2) [(t1, B1), (w1, A1)]).map (·.1) = _
              rw [List.filter_cons, List.filter_cons]
              cases knw acc A1 <;> cases knw acc B1 <;> rfl
            rw [efl] at eD
            have rw2 : Rel2 N ((if knw acc A1 = true then [] else [w1]) ++ (if knw acc B1 = true then [] else [t1])) (wts acc A1 B1) := by
              unfold wts
              refine Rel2.app ?_ ?_
              · cases knw acc A1
                · exact ⟨hw1, trivial⟩
                · exact trivial
              · cases knw acc B1
                · exact ⟨ht1, trivial⟩
                · exact trivial
            have lwt : ((if knw acc A1 = true then [] else [w1]) ++ (if knw acc B1 = true then [] else [t1])).length ≤ 2 := by
              cases knw acc A1 <;> cases knw acc B1 <;> simp
            generalize ((if knw acc A1 = true then [] else [w1]) ++ (if knw acc B1 = true then [] else [t1])) = wt at eD rw2 lwt
            have elf4 := s4m _ _ elf
            have enl4 := s4m _ _ enl
            have enu4 := s4m _ _ enu
            have dx4 := DpAll.ext s4m _ _ dxs
            have nDlf : D ≠ lf := (ne_of_none (s4 _ _ elf) nD).symm
            have nDnl : D ≠ nl := (ne_of_none (s4 _ _ enl) nD).symm
            have lsc := itns_len (Bd.nd e1 A1 B1 :: sT) acc
            have lsc2 : sc.length = sT.length := rs.2.len
            refine ⟨_, rfl, .inl ⟨rfl, _, .inl (.inl elf4)⟩, _, rfl, lf, D, _, _, rfl, rfl, elf4, eD, ?_, ?_⟩
            · unfold natsV
              rw [List.length_append, List.length_map, List.length_map, List.length_map, List.length_reverse, List.length_reverse]
              rw [List.length_cons] at lsc
              show sc.length + 1 + wt.length ≤ _
              omega
            have elf5 : (upd Hm lf (.lst (natsV sc.reverse ++ natsV [c] ++ natsV wt.reverse))) lf = some (.lst (natsV (wt ++ c :: sc).reverse)) := by
              rw [upd_same, List.reverse_append, List.reverse_cons, natsV_app, natsV_app]
            have enl5 : (upd Hm lf (.lst (natsV sc.reverse ++ natsV [c] ++ natsV wt.reverse))) nl = some (.lst xs) := by rw [upd_ne nlfl.symm]; exact enl4
            have enu5 : (upd Hm lf (.lst (natsV sc.reverse ++ natsV [c] ++ natsV wt.reverse))) nu = some (.dK (nbs ks)) := by rw [upd_ne nlfu.symm]; exact enu4
            have eD5 : (upd Hm lf (.lst (natsV sc.reverse ++ natsV [c] ++ natsV wt.reverse))) D = some (.lst (natsV wt.reverse)) := by rw [upd_ne nDlf]; exact eD
            have dx5 : DpAll K (upd Hm lf (.lst (natsV sc.reverse ++ natsV [c] ++ natsV wt.reverse))) xs (acc.map (rowD acc)) := DpAll.away elf4 _ _ (rows_only acc acc) dx4
            have s5 : Same H (upd Hm lf (.lst (natsV sc.reverse ++ natsV [c] ++ natsV wt.reverse))) := fresh (si.trans s4m) nlf0
            generalize upd Hm lf (.lst (natsV sc.reverse ++ natsV [c] ++ natsV wt.reverse)) = H5 at elf5 enl5 enu5 eD5 dx5 s5
            refine ⟨_, rfl, _, .inl ⟨_, .of eD5, rfl⟩, ?_⟩
            by_cases hwn : wts acc A1 B1 = []
            · -- both sides known
              have hwt : wt = [] := by
                rw [hwn] at rw2
                cases wt with
                | nil => rfl
                | cons _ _ => exact rw2.elim
              subst hwt
              obtain ⟨k1, k2⟩ := wts_nil.mp hwn
              show if (!!true) = true then _ else _
              refine iteT ?_
              refine ⟨_, rfl, nu, _, rfl, enu5, _, rfl, _, rfl, nu, _, rfl, DPut.k (k := .inl (c : Int)) enu5 (by rw [nbs_len]; omega), ?_⟩
              have hnone : valV (nbs ks) (.inl (c : Int)) = none := by
                rw [nbs_val hnd hb rk, if_neg hk]
              rw [putK_new _ hnone, nbs_len, ← nbs_snoc]
              have enl6 : (upd H5 nu (.dK (nbs (ks ++ [c])))) nl = some (.lst xs) := by rw [upd_ne nnlu]; exact enl5
              have elf6 : (upd H5 nu (.dK (nbs (ks ++ [c])))) lf = some (.lst (natsV (c :: sc).reverse)) := by rw [upd_ne nlfu]; exact elf5
              have enu6 : (upd H5 nu (.dK (nbs (ks ++ [c])))) nu = some (.dK (nbs (ks ++ [c]))) := upd_same
              have dx6 : DpAll K (upd H5 nu (.dK (nbs (ks ++ [c])))) xs (acc.map (rowD acc)) := DpAll.tsn (fun b o ho hb => by
                rw [upd_ne]
                · exact hb
                · rintro rfl
                  rw [enu5] at hb
                  rcases ho with ⟨ys, rfl⟩ | ⟨q, u, rfl⟩ <;> cases hb) _ _ (rows_only acc acc) dx5
              have s6 : Same H (upd H5 nu (.dK (nbs (ks ++ [c])))) := fresh s5 nnu0
              generalize upd H5 nu (.dK (nbs (ks ++ [c]))) = H6 at enl6 elf6 enu6 dx6 s6
              have rk6 : Rel2 N (ks ++ [c]) (acc ++ [Bd.nd e1 A1 B1]) := rk.app ⟨hb, trivial⟩
              have pre := List.prefix_append acc [Bd.nd e1 A1 B1]
              have getv : ∀ (x : Nat) (X : Bd), At N x X → knw acc X = true → DGet H6 nu (.int ((x : Nat) : Int)) (some (.int ((nmb (acc ++ [Bd.nd e1 A1 B1]) X : Nat) : Int))) := fun x X hX kX => by
                have := DGet.k (k := .inl (x : Int)) enu6
                rw [nbs_val hnd hX rk6, if_pos (knw_pre pre kX)] at this
                exact this
              refine ⟨_, rfl, .inl ⟨rfl, _, .inl (.inl enl6)⟩, ?_⟩
              refine ⟨_, rfl, _, rfl, _, rfl, nu, _, rfl, getv w1 A1 hw1 k1, _, rfl, _, rfl, nu, _, rfl, getv t1 B1 ht1 k2, by show 3 ≤ sizeLine; decide, fun tq ntq => ?_⟩
              have s7 := same_upd ntq (o := .tup [.int e1, .int ((nmb (acc ++ [Bd.nd e1 A1 B1]) A1 : Nat) : Int), .int ((nmb (acc ++ [Bd.nd e1 A1 B1]) B1 : Nat) : Int)])
              have d7 : Dp K (upd H6 tq (.tup [.int e1, .int ((nmb (acc ++ [Bd.nd e1 A1 B1]) A1 : Nat) : Int), .int ((nmb (acc ++ [Bd.nd e1 A1 B1]) B1 : Nat) : Int)])) (.ref tq) (rowD (acc ++ [Bd.nd e1 A1 B1]) (Bd.nd e1 A1 B1)) := .tup (.of upd_same) (.cons (.int _) (.cons (.int _) (.cons (.int _) .nil)))
              generalize upd H6 tq (.tup [.int e1, .int ((nmb (acc ++ [Bd.nd e1 A1 B1]) A1 : Nat) : Int), .int ((nmb (acc ++ [Bd.nd e1 A1 B1]) B1 : Nat) : Int)]) = H7 at s7 d7
              have enl7 := s7 _ _ enl6
              refine ⟨nl, _, _, rfl, rfl, enl7, by omega, ?_⟩
              obtain ⟨j1, j2⟩ := itns_num (as := sT) hnm k1 k2
              refine ⟨itns (acc ++ [Bd.nd e1 A1 B1]) (Bd.nd e1 A1 B1 :: sT), by omega, ks ++ [c], acc ++ [Bd.nd e1 A1 B1], c :: sc, Bd.nd e1 A1 B1 :: sT, xs ++ [.ref tq], _, _, _, _, _, _, rfl, by omega, rfl, fresh (s6.trans s7) nnl, upd_same, ?_, by rw [upd_ne nnlu.symm]; exact s7 _ _ enu6, by rw [upd_ne nlfl]; exact s7 _ _ elf6, rk6, rs, ?_, ?_⟩
              · rw [rows_snoc hclo]
                exact DpAll.snoc (DpAll.away enl7 _ _ (rows_only acc acc) (DpAll.ext s7 _ _ dx6)) (Dp.away enl7 _ _ rfl d7)
              · have := post_clo (Bd.nd e1 A1 B1) acc hclo
                rw [post_nd hnm, post_knw k1, post_knw k2] at this
                exact this
              · rw [j2]
                exact hf
            · -- some wait
              have hwt : wt.reverse ≠ [] := fun z => by
                rw [List.reverse_eq_nil_iff] at z
                subst z
                have := rw2.len
                exact hwn (List.eq_nil_of_length_eq_zero this.symm)
              have hne2 : (natsV wt.reverse).isEmpty = false := by
                cases h : wt.reverse with
                | nil => exact absurd h hwt
                | cons _ _ => rfl
              rw [hne2]
              show if (!!false) = true then _ else _
              refine iteF ?_
              obtain ⟨j1, j2⟩ := itns_push (as := sT) hnm hwn
              exact ⟨itns acc (wts acc A1 B1 ++ Bd.nd e1 A1 B1 :: sT), by omega, ks, acc, wt ++ c :: sc, wts acc A1 B1 ++ Bd.nd e1 A1 B1 :: sT, xs, _, _, _, _, _, _, rfl, by omega, rfl, s5, enl5, dx5, enu5, elf5, rk, rw2.app rs, hclo, by rw [j2]; exact hf⟩
end

def sp_size (C : Addr) (K : PySem.W.Frag) : Sp := fun vs H Q _ => ∃ s N es L a cs as, vs = [.ref s.p, .ref a] ∧ Sto C K H s N es L ∧ SqL K H a (natsV cs) ∧ Rel2 N cs as ∧ cs.length ≤ 100 ∧ (∀ b ∈ as, b.sz ≤ 1000) ∧ ∀ H', Same H H' → Q (.int (((as.reverse.foldl post []).length : Nat) : Int)) H'
section
variable {P : Program} {w : World} {K : PySem.W.Frag} {mg : Str → Option Value} {base : Heap}
theorem ok_size {f C : Addr} {fd : FuncData} (F : Fun K "size" "Diagrams.size" s_Diagrams_size f fd) (M : Mg mg) (G : DgC K C mg) (c_Diagrams_listed : ClM P w K mg base 2 C "listed" (sp_listed C K)) : FnOk P w K mg base CX0 3 f fd ["self", "conditions"] (sp_size C K) := by
  refine F.ok sc_Diagrams_size (fun vs H Q E h => ?_) (fun cdv A outer s H vs Q E hr h => ?_)
  · obtain ⟨s, N, es, L, a, cs, as, rfl, _⟩ := h
    rfl
  · obtain ⟨s, N, es, L, a, cs, as, rfl, st, ha, rel, hl, hsz, q⟩ := h
    refine ⟨_, (pss_cons (ps_asg (pe_mt c_Diagrams_listed hr (by first | decide | omega) (pv 0) (pa_cons (pv 1) pa_nil)) (pg_tup (by rfl) (pgs_cons (pg_name (i := 2) sc_Diagrams_size.nd rfl (.inl rfl)) (pgs_cons (pg_name (i := 3) sc_Diagrams_size.nd rfl (.inl rfl)) pgs_nil))))
      (pss_one (ps_ret (pe_callB (len_seqK K) (by rfl) M.len PySem.boot_len (pa_cons (pv 2) pa_nil))))), ?_⟩
    refine ⟨_, rfl, st.go (by decide +kernel) (by decide +kernel) (by decide +kernel) ⟨_, rfl, ?_⟩⟩
    refine ⟨s, N, es, L, a, cs, as, rfl, st, ha, rel, hl, hsz, fun H2 q2 nl nu xs ks s2 e2 nnl enl enu rk dx => ?_⟩
    refine ⟨q2, _, rfl, .of e2, rfl, _, _, rfl, _, _, rfl, rfl, ?_⟩
    refine ⟨_, rfl, nl, _, rfl, .inl (.of enl), ?_⟩
    rw [DpAll.len dx, List.length_map]
    exact q H2 s2
end

/-- where a node's question stands, and what comes ahead of it does not matter -/
theorem wf_nd {es : List Int} {x : Int} {w t : Bd} (h : Wf es (.nd x w t)) : ∃ pre post, es = pre ++ x :: post ∧ Wf post w ∧ Wf post t ∧ w ≠ t := by
  generalize e : Bd.nd x w t = a at h
  induction h with
  | lf => cases e
  | @here y es w' t' hw ht hn _ _ =>
    cases e
    exact ⟨[], _, rfl, hw, ht, hn⟩
  | @skip y es a _ ih =>
    obtain ⟨pre, po, rfl, h1, h2, h3⟩ := ih e
    exact ⟨y :: pre, po, rfl, h1, h2, h3⟩
theorem wf_kids {es : List Int} {x : Int} {w t : Bd} (h : Wf es (.nd x w t)) : Wf es w ∧ Wf es t := by
  obtain ⟨pre, po, rfl, h1, h2, _⟩ := wf_nd h
  exact ⟨(Wf.skip h1).skips pre, (Wf.skip h2).skips pre⟩
/-- all nodes of a diagram -/
def subN : Bd → List Bd
  | .lf _ => []
  | .nd e w t => .nd e w t :: (subN w ++ subN t)
theorem clo_sub {acc : List Bd} (h : Clo acc) : ∀ {a : Bd}, knw acc a = true → ∀ x ∈ subN a, x ∈ acc
  | .lf _, _, x, hx => by cases hx
  | .nd e w t, hk, x, hx => by
    have hm := knw_nd.mp hk
    obtain ⟨k1, k2⟩ := h e w t hm
    rcases List.mem_cons.mp hx with rfl | hx
    · exact hm
    · rcases List.mem_append.mp hx with hx | hx
      · exact clo_sub h k1 x hx
      · exact clo_sub h k2 x hx
theorem post_iff : ∀ {a : Bd} {acc : List Bd}, Clo acc → ∀ x, x ∈ post acc a ↔ x ∈ acc ∨ x ∈ subN a
  | .lf _, acc, _, x => by
    show x ∈ acc ↔ _
    exact ⟨.inl, fun h => h.elim id (fun z => by cases z)⟩
  | .nd e w t, acc, hc, x => by
    by_cases hm : Bd.nd e w t ∈ acc
    · rw [post_knw (knw_nd.mpr hm)]
      exact ⟨.inl, fun h => h.elim id (clo_sub hc (knw_nd.mpr hm) x)⟩
    · rw [post_nd hm, List.mem_append, List.mem_singleton, post_iff (post_clo w acc hc), post_iff hc]
      constructor
      · rintro (((h | h) | h) | h)
        · exact .inl h
        · exact .inr (List.mem_cons_of_mem _ (List.mem_append_left _ h))
        · exact .inr (List.mem_cons_of_mem _ (List.mem_append_right _ h))
        · subst h; exact .inr List.mem_cons_self
      · rintro (h | h)
        · exact .inl (.inl (.inl h))
        · rcases List.mem_cons.mp h with h | h
          · exact .inr h
          · rcases List.mem_append.mp h with h | h
            · exact .inl (.inl (.inr h))
            · exact .inl (.inr h)
theorem posts_iff : ∀ {as acc : List Bd}, Clo acc → ∀ x, x ∈ as.foldl post acc ↔ x ∈ acc ∨ ∃ a ∈ as, x ∈ subN a
  | [], acc, _, x => ⟨.inl, fun h => h.elim id (fun ⟨a, h, _⟩ => by cases h)⟩
  | a :: as, acc, hc, x => by
    rw [List.foldl_cons, posts_iff (post_clo a acc hc), post_iff hc]
    constructor
    · rintro ((h | h) | ⟨b, hb, h⟩)
      · exact .inl h
      · exact .inr ⟨a, List.mem_cons_self, h⟩
      · exact .inr ⟨b, List.mem_cons_of_mem _ hb, h⟩
    · rintro (h | ⟨b, hb, h⟩)
      · exact .inl (.inl h)
      · rcases List.mem_cons.mp hb with rfl | hb
        · exact .inl (.inr h)
        · exact .inr ⟨b, hb, h⟩
theorem posts_nodup : ∀ (as acc : List Bd), acc.Nodup → (as.foldl post acc).Nodup
  | [], _, h => h
  | a :: as, acc, h => posts_nodup as _ (post_nodup a acc h)
theorem same_len {xs ys : List Bd} (h1 : xs.Nodup) (h2 : ys.Nodup) (h : ∀ x, x ∈ xs ↔ x ∈ ys) : xs.length = ys.length := ((List.perm_ext_iff_of_nodup h1 h2).mpr h).length_eq
theorem post_wf {es : List Int} : ∀ (a : Bd) (acc : List Bd), Wf es a → (∀ b ∈ acc, Wf es b) → ∀ b ∈ post acc a, Wf es b
  | .lf _, _, _, h => h
  | .nd e w t, acc, hw, h => by
    obtain ⟨w1, w2⟩ := wf_kids hw
    unfold post
    split
    · exact h
    · intro b hb
      rcases List.mem_append.mp hb with hb | hb
      · exact post_wf t _ w2 (post_wf w acc w1 h) b hb
      · rw [List.mem_singleton.mp hb]
        exact hw
def Ordd (acc : List Bd) : Prop := ∀ (i : Nat) e w t, acc[i]? = some (Bd.nd e w t) → knw (acc.take i) w = true ∧ knw (acc.take i) t = true
theorem post_ord : ∀ (a : Bd) (acc : List Bd), Ordd acc → Ordd (post acc a)
  | .lf _, _, h => h
  | .nd e w t, acc, h => by
    unfold post
    split
    · exact h
    · have h2 := post_ord t _ (post_ord w acc h)
      intro i e' w' t' hi
      by_cases hl : i < (post (post acc w) t).length
      · rw [List.getElem?_append_left hl] at hi
        rw [List.take_append_of_le_length (Nat.le_of_lt hl)]
        exact h2 i e' w' t' hi
      · rw [List.getElem?_append_right (by omega)] at hi
        have hk : i = (post (post acc w) t).length := by
          cases hh : i - (post (post acc w) t).length with
          | zero => omega
          | succ j => rw [hh] at hi; simp at hi
        subst hk
        rw [Nat.sub_self] at hi
        cases hi
        rw [List.take_append_of_le_length (Nat.le_refl _), List.take_of_length_le (Nat.le_refl _)]
        exact ⟨knw_pre (post_pre t _) (post_self w acc), post_self t _⟩

/-! ### covers of conditions by cases -/
abbrev Cse := List Int × List Int × Bd
def szN (a : Bd) : Nat := (post [] a).length
open Classical in
noncomputable def cn (es : List Int) (f : (Int → Bool) → Bool) : Bd := if h : ∃ T, Wf es T ∧ ∀ ρ, T.ev ρ = f ρ then Classical.choose h else .lf false
theorem cn_eq {es : List Int} (hn : es.Nodup) {f : (Int → Bool) → Bool} {T : Bd} (w : Wf es T) (e : ∀ ρ, T.ev ρ = f ρ) : cn es f = T := by
  have h : ∃ T, Wf es T ∧ ∀ ρ, T.ev ρ = f ρ := ⟨T, w, e⟩
  unfold cn
  rw [dif_pos h]
  have h2 := Classical.choose_spec h
  exact canon hn h2.1 w fun ρ => by rw [h2.2, e]
noncomputable def bnB (es : List Int) (A B : Bd) : Bd := cn es fun ρ => A.ev ρ && !B.ev ρ
noncomputable def orB (es : List Int) (A B : Bd) : Bd := cn es fun ρ => A.ev ρ || B.ev ρ
noncomputable def anB (es : List Int) (A B : Bd) : Bd := cn es fun ρ => A.ev ρ && B.ev ρ
def thB (x : Int) : Bd := .nd x (.lf false) (.lf true)
theorem thB_ev (x : Int) (ρ : Int → Bool) : (thB x).ev ρ = ρ x := by
  show (if ρ x = true then true else false) = ρ x
  cases ρ x <;> rfl
noncomputable def apB (es : List Int) : List Bd → Bd
  | [] => .lf false
  | A :: r => orB es A (apB es r)
/-- the joined ones on the way -/
noncomputable def apM (es : List Int) : List Bd → List Bd
  | [] => []
  | A :: r => apB es (A :: r) :: apM es r
def topX : Bd → Bd → Int
  | .nd x _ _, .nd y _ _ => min x y
  | _, _ => 0
noncomputable def woC (es : List Int) (x : Int) (c : Cse) : Cse := (c.1, x :: c.2.1, bnB es c.2.2 (thB x))
noncomputable def wiC (es : List Int) (x : Int) (c : Cse) : Cse := (x :: c.1, c.2.1, anB es c.2.2 (thB x))
abbrev apl (cs : List Cse) : List Bd := cs.map (·.2.2)
noncomputable def covS (es : List Int) (f : Bd → Bd → List Cse × List Bd) (A B : Bd) (x : Int) : List Cse × List Bd :=
  (((f (bnB es (A.cw x) (B.ct x)) (B.cw x)).1.map (woC es x) ++ (f (bnB es (A.ct x) (B.cw x)) (B.ct x)).1.map (wiC es x)) ++
    (f (orB es (bnB es (A.cw x) (apB es (apl (f (bnB es (A.cw x) (B.ct x)) (B.cw x)).1))) (bnB es (A.ct x) (apB es (apl (f (bnB es (A.ct x) (B.cw x)) (B.ct x)).1)))) (anB es (B.cw x) (B.ct x))).1,
   ([A, B] ++ (f (bnB es (A.cw x) (B.ct x)) (B.cw x)).2 ++ (f (bnB es (A.ct x) (B.cw x)) (B.ct x)).2 ++
    (apM es (apl (f (bnB es (A.cw x) (B.ct x)) (B.cw x)).1) ++ [bnB es (A.cw x) (apB es (apl (f (bnB es (A.cw x) (B.ct x)) (B.cw x)).1))]) ++
    (apM es (apl (f (bnB es (A.ct x) (B.cw x)) (B.ct x)).1) ++ [bnB es (A.ct x) (apB es (apl (f (bnB es (A.ct x) (B.cw x)) (B.ct x)).1))])) ++
    (f (orB es (bnB es (A.cw x) (apB es (apl (f (bnB es (A.cw x) (B.ct x)) (B.cw x)).1))) (bnB es (A.ct x) (apB es (apl (f (bnB es (A.ct x) (B.cw x)) (B.ct x)).1)))) (anB es (B.cw x) (B.ct x))).2)
noncomputable def cov (es : List Int) : Nat → Bd → Bd → List Cse × List Bd
  | 0, A, B => ([], [A, B])
  | n + 1, A, B => if A = .lf false then ([], [A, B]) else if B = .lf true then ([([], [], .lf true)], [A, B]) else covS es (cov es n) A B (topX A B)
section
variable {pre es : List Int}
theorem low_bn (hn : (pre ++ es).Nodup) {A B : Bd} (wA : Wf es A) (wB : Wf es B) : Wf es (bnB (pre ++ es) A B) ∧ ∀ ρ, (bnB (pre ++ es) A B).ev ρ = (A.ev ρ && !B.ev ρ) := by
  have h2 := (List.nodup_append.mp hn).2.1
  obtain ⟨D, wD, eD⟩ := ite_ex h2 wB (.lf (b := false)) (.lf (b := true))
  obtain ⟨T, wT, eT⟩ := ite_ex h2 wA wD (.lf (b := false))
  have e : ∀ ρ, T.ev ρ = (A.ev ρ && !B.ev ρ) := fun ρ => by
    rw [eT, eD]
    show (if A.ev ρ = true then (if B.ev ρ = true then false else true) else false) = _
    cases A.ev ρ <;> cases B.ev ρ <;> rfl
  have h : bnB (pre ++ es) A B = T := cn_eq hn (wT.skips pre) e
  rw [h]
  exact ⟨wT, e⟩
theorem low_or (hn : (pre ++ es).Nodup) {A B : Bd} (wA : Wf es A) (wB : Wf es B) : Wf es (orB (pre ++ es) A B) ∧ ∀ ρ, (orB (pre ++ es) A B).ev ρ = (A.ev ρ || B.ev ρ) := by
  have h2 := (List.nodup_append.mp hn).2.1
  obtain ⟨T, wT, eT⟩ := ite_ex h2 wA (.lf (b := true)) wB
  have e : ∀ ρ, T.ev ρ = (A.ev ρ || B.ev ρ) := fun ρ => by
    rw [eT]
    show (if A.ev ρ = true then true else B.ev ρ) = _
    cases A.ev ρ <;> cases B.ev ρ <;> rfl
  have h : orB (pre ++ es) A B = T := cn_eq hn (wT.skips pre) e
  rw [h]
  exact ⟨wT, e⟩
theorem low_an (hn : (pre ++ es).Nodup) {A B : Bd} (wA : Wf es A) (wB : Wf es B) : Wf es (anB (pre ++ es) A B) ∧ ∀ ρ, (anB (pre ++ es) A B).ev ρ = (A.ev ρ && B.ev ρ) := by
  have h2 := (List.nodup_append.mp hn).2.1
  obtain ⟨T, wT, eT⟩ := ite_ex h2 wA wB (.lf (b := false))
  have e : ∀ ρ, T.ev ρ = (A.ev ρ && B.ev ρ) := fun ρ => by
    rw [eT]
    show (if A.ev ρ = true then B.ev ρ else false) = _
    cases A.ev ρ <;> cases B.ev ρ <;> rfl
  have h : anB (pre ++ es) A B = T := cn_eq hn (wT.skips pre) e
  rw [h]
  exact ⟨wT, e⟩
theorem low_ap (hn : (pre ++ es).Nodup) : ∀ {as : List Bd}, (∀ a ∈ as, Wf es a) → Wf es (apB (pre ++ es) as) ∧ ∀ ρ, (apB (pre ++ es) as).ev ρ = as.any fun a => a.ev ρ
  | [], _ => ⟨.lf, fun _ => rfl⟩
  | a :: as, h => by
    obtain ⟨w1, e1⟩ := low_ap hn (as := as) fun x hx => h x (List.mem_cons_of_mem _ hx)
    obtain ⟨w2, e2⟩ := low_or hn (h a List.mem_cons_self) w1
    exact ⟨w2, fun ρ => by
      show (orB _ _ _).ev ρ = _
      rw [e2, e1]
      rfl⟩
theorem low_th {x : Int} : Wf (x :: es) (thB x) := .here .lf .lf (fun z => by cases z)
end
theorem topX_eq {x : Int} {rest : List Int} {A B : Bd} (hs : (x :: rest).Pairwise (· < ·)) (wA : Wf (x :: rest) A) (wB : Wf (x :: rest) B) (nA : ∀ b, A ≠ .lf b) (nB : ∀ b, B ≠ .lf b) (h : ∃ w t, A = .nd x w t ∨ B = .nd x w t) : topX A B = x := by
  have ge : ∀ {y : Int} {w t : Bd}, Wf (x :: rest) (.nd y w t) → x ≤ y := fun hw => by
    rcases List.mem_cons.mp hw.none_of with e | hm
    · omega
    · have := (List.pairwise_cons.mp hs).1 _ hm
      omega
  cases A with
  | lf b => exact absurd rfl (nA b)
  | nd y1 w1 t1 =>
    cases B with
    | lf b => exact absurd rfl (nB b)
    | nd y2 w2 t2 =>
      have h1 := ge wA
      have h2 := ge wB
      show min y1 y2 = x
      obtain ⟨w, t, e | e⟩ := h
      · cases e
        omega
      · cases e
        omega
structure CovOk (es : List Int) (A B : Bd) (cs : List Cse) : Prop where
  up : ∀ ρ, A.ev ρ = true → ((apl cs).any fun a => a.ev ρ) = true
  dn : ∀ c ∈ cs, ∀ ρ, c.2.2.ev ρ = true → B.ev ρ = true
  wf : ∀ c ∈ cs, Wf es c.2.2
  lit : ∀ c ∈ cs, ∀ ρ, c.2.2.ev ρ = (c.1.all ρ && c.2.1.all fun e => !ρ e)
  sub : ∀ c ∈ cs, c.1.Sublist es ∧ c.2.1.Sublist es
  len : cs.length ≤ 3 ^ es.length
theorem leaf_of {es : List Int} (hn : es.Nodup) {A B : Bd} (wA : Wf es A) (wB : Wf es B) (hle : ∀ ρ, A.ev ρ = true → B.ev ρ = true) (h1 : A ≠ .lf false) (h2 : B ≠ .lf true) : (∀ b, A ≠ .lf b) ∧ ∀ b, B ≠ .lf b := by
  refine ⟨fun b z => ?_, fun b z => ?_⟩
  · cases b with
    | false => exact h1 z
    | true =>
      subst z
      exact h2 (canon hn wB .lf fun ρ => hle ρ rfl)
  · cases b with
    | true => exact h2 z
    | false =>
      subst z
      refine h1 (canon hn wA .lf fun ρ => ?_)
      cases e : A.ev ρ with
      | false => rfl
      | true =>
        have := hle ρ e
        cases this
theorem ev_split {x : Int} {rest : List Int} {A : Bd} (hx : x ∉ rest) (wA : Wf (x :: rest) A) (ρ : Int → Bool) : A.ev ρ = if ρ x = true then (A.ct x).ev ρ else (A.cw x).ev ρ := by
  obtain ⟨_, e1⟩ := wA.cw hx
  obtain ⟨_, e2⟩ := wA.ct hx
  have hsr : ∀ b, ρ x = b → setR ρ x b = ρ := fun b h => by
    funext y
    by_cases hy : y = x
    · subst hy
      rw [setR_same, h]
    · rw [setR_ne hy]
  cases h : ρ x with
  | true => rw [if_pos rfl, e2, hsr true h]
  | false => rw [if_neg Bool.false_ne_true, e1, hsr false h]
/-- the first question of two conditions, and what is left -/
theorem cov_split {pre es : List Int} {A B : Bd} (hs : (pre ++ es).Pairwise (· < ·)) (wA : Wf es A) (wB : Wf es B) (hle : ∀ ρ, A.ev ρ = true → B.ev ρ = true) (h1 : A ≠ .lf false) (h2 : B ≠ .lf true) : ∃ pre2 x rest, es = pre2 ++ x :: rest ∧ Wf (x :: rest) A ∧ Wf (x :: rest) B ∧ topX A B = x ∧ x ∉ rest := by
  have hse : es.Pairwise (· < ·) := (List.pairwise_append.mp hs).2.1
  have hn : es.Nodup := hse.imp fun h => by omega
  obtain ⟨nA, nB⟩ := leaf_of hn wA wB hle h1 h2
  obtain ⟨pre2, x, rest, e, hw, w, t, hm⟩ := top_ex (es := es) (cs := [A, B]) (fun a ha => by
    simp only [List.mem_cons, List.not_mem_nil, or_false] at ha
    rcases ha with rfl | rfl
    · exact wA
    · exact wB) ⟨A, List.mem_cons_self, nA⟩
  have w1 := hw A List.mem_cons_self
  have w2 := hw B (List.mem_cons_of_mem _ List.mem_cons_self)
  subst e
  have hsx := (List.pairwise_append.mp hse).2.1
  refine ⟨pre2, x, rest, rfl, w1, w2, topX_eq hsx w1 w2 nA nB ⟨w, t, ?_⟩, fun z => ?_⟩
  · simp only [List.mem_cons, List.not_mem_nil, or_false] at hm
    rcases hm with e | e
    · exact .inl e.symm
    · exact .inr e.symm
  · have := (List.pairwise_cons.mp hsx).1 x z
    omega
theorem cov_ok : ∀ (n : Nat) (pre es : List Int) (A B : Bd), (pre ++ es).Pairwise (· < ·) → Wf es A → Wf es B → (∀ ρ, A.ev ρ = true → B.ev ρ = true) → es.length < n → CovOk es A B (cov (pre ++ es) n A B).1
  | 0, _, _, _, _, _, _, _, _, h => absurd h (Nat.not_lt_zero _)
  | n + 1, pre, es, A, B, hs, wA, wB, hle, hl => by
    unfold cov
    by_cases h1 : A = .lf false
    · rw [if_pos h1]
      subst h1
      exact ⟨fun ρ h => (by cases h), fun c h => (by cases h), fun c h => (by cases h), fun c h => (by cases h), fun c h => (by cases h), Nat.zero_le _⟩
    rw [if_neg h1]
    by_cases h2 : B = .lf true
    · rw [if_pos h2]
      subst h2
      refine ⟨fun ρ _ => rfl, fun c _ ρ _ => rfl, fun c h => ?_, fun c h ρ => ?_, fun c h => ?_, Nat.one_le_pow _ _ (by decide)⟩
      all_goals
        rw [List.mem_singleton.mp h]
      · exact .lf
      · rfl
      · exact ⟨List.nil_sublist _, List.nil_sublist _⟩
    rw [if_neg h2]
    obtain ⟨pre2, x, rest, rfl, w1, w2, ht, hx⟩ := cov_split hs wA wB hle h1 h2
    rw [ht]
    obtain ⟨p3, hp3⟩ : ∃ p3, p3 = pre ++ pre2 ++ [x] := ⟨_, rfl⟩
    have ees : pre ++ (pre2 ++ x :: rest) = p3 ++ rest := by rw [hp3]; simp
    rw [ees] at hs ⊢
    have hn : (p3 ++ rest).Nodup := hs.imp fun h => by omega
    have hl' : rest.length < n := by
      rw [List.length_append, List.length_cons] at hl
      omega
    obtain ⟨aw, eaw⟩ := w1.cw hx
    obtain ⟨at', eat⟩ := w1.ct hx
    obtain ⟨bw, ebw⟩ := w2.cw hx
    obtain ⟨bt, ebt⟩ := w2.ct hx
    have lw : ∀ ρ, (A.cw x).ev ρ = true → (B.cw x).ev ρ = true := fun ρ h => by rw [eaw] at h; rw [ebw]; exact hle _ h
    have lt : ∀ ρ, (A.ct x).ev ρ = true → (B.ct x).ev ρ = true := fun ρ h => by rw [eat] at h; rw [ebt]; exact hle _ h
    obtain ⟨v1, u1⟩ := low_bn hn aw bt
    obtain ⟨v2, u2⟩ := low_bn hn at' bw
    have k1 := cov_ok n p3 rest (bnB (p3 ++ rest) (A.cw x) (B.ct x)) (B.cw x) hs v1 bw (fun ρ h => by rw [u1, Bool.and_eq_true] at h; exact lw ρ h.1) hl'
    have k2 := cov_ok n p3 rest (bnB (p3 ++ rest) (A.ct x) (B.cw x)) (B.ct x) hs v2 bt (fun ρ h => by rw [u2, Bool.and_eq_true] at h; exact lt ρ h.1) hl'
    unfold covS
    generalize (cov (p3 ++ rest) n (bnB (p3 ++ rest) (A.cw x) (B.ct x)) (B.cw x)) = c1 at k1 ⊢
    generalize (cov (p3 ++ rest) n (bnB (p3 ++ rest) (A.ct x) (B.cw x)) (B.ct x)) = c2 at k2 ⊢
    obtain ⟨wa1, ea1⟩ := low_ap hn (as := apl c1.1) (fun a ha => by obtain ⟨c, hc, rfl⟩ := List.mem_map.mp ha; exact k1.wf c hc)
    obtain ⟨wa2, ea2⟩ := low_ap hn (as := apl c2.1) (fun a ha => by obtain ⟨c, hc, rfl⟩ := List.mem_map.mp ha; exact k2.wf c hc)
    obtain ⟨wr1, er1⟩ := low_bn hn aw wa1
    obtain ⟨wr2, er2⟩ := low_bn hn at' wa2
    obtain ⟨wr, er⟩ := low_or hn wr1 wr2
    obtain ⟨wb, eb⟩ := low_an hn bw bt
    have k3 := cov_ok n p3 rest _ _ hs wr wb (fun ρ h => by
      rw [er, Bool.or_eq_true] at h
      rw [eb, Bool.and_eq_true]
      rcases h with h | h
      · rw [er1, Bool.and_eq_true] at h
        refine ⟨lw ρ h.1, ?_⟩
        cases e : (B.ct x).ev ρ with
        | true => rfl
        | false =>
          have := k1.up ρ (by rw [u1, h.1, e]; rfl)
          rw [ea1, this] at h
          cases h.2
      · rw [er2, Bool.and_eq_true] at h
        refine ⟨?_, lt ρ h.1⟩
        cases e : (B.cw x).ev ρ with
        | true => rfl
        | false =>
          have := k2.up ρ (by rw [u2, h.1, e]; rfl)
          rw [ea2, this] at h
          cases h.2) hl'
    generalize (cov (p3 ++ rest) n (orB (p3 ++ rest) (bnB (p3 ++ rest) (A.cw x) (apB (p3 ++ rest) (apl c1.1))) (bnB (p3 ++ rest) (A.ct x) (apB (p3 ++ rest) (apl c2.1)))) (anB (p3 ++ rest) (B.cw x) (B.ct x))) = c3 at k3 ⊢
    have hn' : ((pre ++ pre2) ++ x :: rest).Nodup := by
      have : (pre ++ pre2) ++ x :: rest = p3 ++ rest := by rw [hp3]; simp
      rw [this]
      exact hn
    have ees2 : p3 ++ rest = (pre ++ pre2) ++ x :: rest := by rw [hp3]; simp
    have wo : ∀ c ∈ c1.1, Wf (x :: rest) (woC (p3 ++ rest) x c).2.2 ∧ ∀ ρ, (woC (p3 ++ rest) x c).2.2.ev ρ = (c.2.2.ev ρ && !ρ x) := fun c hc => by
      have := low_bn hn' (Wf.skip (k1.wf c hc)) (low_th (x := x) (es := rest))
      rw [← ees2] at this
      exact ⟨this.1, fun ρ => by rw [← thB_ev x ρ]; exact this.2 ρ⟩
    have wi : ∀ c ∈ c2.1, Wf (x :: rest) (wiC (p3 ++ rest) x c).2.2 ∧ ∀ ρ, (wiC (p3 ++ rest) x c).2.2.ev ρ = (c.2.2.ev ρ && ρ x) := fun c hc => by
      have := low_an hn' (Wf.skip (k2.wf c hc)) (low_th (x := x) (es := rest))
      rw [← ees2] at this
      exact ⟨this.1, fun ρ => by rw [← thB_ev x ρ]; exact this.2 ρ⟩
    have mem : ∀ c ∈ (c1.1.map (woC (p3 ++ rest) x) ++ c2.1.map (wiC (p3 ++ rest) x)) ++ c3.1, (∃ b ∈ c1.1, c = woC (p3 ++ rest) x b) ∨ (∃ b ∈ c2.1, c = wiC (p3 ++ rest) x b) ∨ c ∈ c3.1 := fun c hc => by
      rcases List.mem_append.mp hc with hc | hc
      · rcases List.mem_append.mp hc with hc | hc
        · obtain ⟨b, hb, e⟩ := List.mem_map.mp hc
          exact .inl ⟨b, hb, e.symm⟩
        · obtain ⟨b, hb, e⟩ := List.mem_map.mp hc
          exact .inr (.inl ⟨b, hb, e.symm⟩)
      · exact .inr (.inr hc)
    have m1 : ∀ b ∈ c1.1, woC (p3 ++ rest) x b ∈ (c1.1.map (woC (p3 ++ rest) x) ++ c2.1.map (wiC (p3 ++ rest) x)) ++ c3.1 := fun b hb => List.mem_append_left _ (List.mem_append_left _ (List.mem_map.mpr ⟨b, hb, rfl⟩))
    have m2 : ∀ b ∈ c2.1, wiC (p3 ++ rest) x b ∈ (c1.1.map (woC (p3 ++ rest) x) ++ c2.1.map (wiC (p3 ++ rest) x)) ++ c3.1 := fun b hb => List.mem_append_left _ (List.mem_append_right _ (List.mem_map.mpr ⟨b, hb, rfl⟩))
    have m3 : ∀ b ∈ c3.1, b ∈ (c1.1.map (woC (p3 ++ rest) x) ++ c2.1.map (wiC (p3 ++ rest) x)) ++ c3.1 := fun b hb => List.mem_append_right _ hb
    have anyI : ∀ {cs : List Cse} {c : Cse} {ρ : Int → Bool}, c ∈ cs → c.2.2.ev ρ = true → ((apl cs).any fun a => a.ev ρ) = true := fun hc he => List.any_eq_true.mpr ⟨_, List.mem_map.mpr ⟨_, hc, rfl⟩, he⟩
    have anyE : ∀ {cs : List Cse} {ρ : Int → Bool}, ((apl cs).any fun a => a.ev ρ) = true → ∃ c ∈ cs, c.2.2.ev ρ = true := fun h => by
      obtain ⟨a, ha, he⟩ := List.any_eq_true.mp h
      obtain ⟨c, hc, rfl⟩ := List.mem_map.mp ha
      exact ⟨c, hc, he⟩
    have skp : ∀ {D : Bd}, Wf (x :: rest) D → Wf (pre2 ++ x :: rest) D := fun h => h.skips pre2
    refine ⟨fun ρ hA => ?_, fun c hc ρ he => ?_, fun c hc => ?_, fun c hc ρ => ?_, fun c hc => ?_, ?_⟩
    · rw [ev_split hx w1] at hA
      cases hr : ρ x with
      | true =>
        rw [hr, if_pos rfl] at hA
        by_cases hap : ((apl c2.1).any fun a => a.ev ρ) = true
        · obtain ⟨c, hc, he⟩ := anyE hap
          exact anyI (m2 c hc) (by rw [(wi c hc).2, he, hr]; rfl)
        · have := k3.up ρ (by rw [er, er2, ea2, hA, Bool.eq_false_iff.mpr hap]; simp)
          obtain ⟨c, hc, he⟩ := anyE this
          exact anyI (m3 c hc) he
      | false =>
        rw [hr, if_neg Bool.false_ne_true] at hA
        by_cases hap : ((apl c1.1).any fun a => a.ev ρ) = true
        · obtain ⟨c, hc, he⟩ := anyE hap
          exact anyI (m1 c hc) (by rw [(wo c hc).2, he, hr]; rfl)
        · have := k3.up ρ (by rw [er, er1, ea1, hA, Bool.eq_false_iff.mpr hap]; simp)
          obtain ⟨c, hc, he⟩ := anyE this
          exact anyI (m3 c hc) he
    · rw [ev_split hx w2]
      rcases mem c hc with ⟨b, hb, rfl⟩ | ⟨b, hb, rfl⟩ | hc
      · rw [(wo b hb).2, Bool.and_eq_true] at he
        have hr : ρ x = false := by simpa using he.2
        rw [hr, if_neg Bool.false_ne_true]
        exact k1.dn b hb ρ he.1
      · rw [(wi b hb).2, Bool.and_eq_true] at he
        rw [he.2, if_pos rfl]
        exact k2.dn b hb ρ he.1
      · have := k3.dn c hc ρ he
        rw [eb, Bool.and_eq_true] at this
        split
        · exact this.2
        · exact this.1
    · rcases mem c hc with ⟨b, hb, rfl⟩ | ⟨b, hb, rfl⟩ | hc
      · exact skp (wo b hb).1
      · exact skp (wi b hb).1
      · exact skp (.skip (k3.wf c hc))
    · rcases mem c hc with ⟨b, hb, rfl⟩ | ⟨b, hb, rfl⟩ | hc
      · rw [(wo b hb).2, k1.lit b hb]
        show _ = (b.1.all ρ && ((!ρ x) && b.2.1.all fun e => !ρ e))
        cases b.1.all ρ <;> cases (b.2.1.all fun e => !ρ e) <;> cases ρ x <;> rfl
      · rw [(wi b hb).2, k2.lit b hb]
        show _ = ((ρ x && b.1.all ρ) && b.2.1.all fun e => !ρ e)
        cases b.1.all ρ <;> cases (b.2.1.all fun e => !ρ e) <;> cases ρ x <;> rfl
      · exact k3.lit c hc ρ
    · have s2 : ∀ {l : List Int}, l.Sublist rest → l.Sublist (pre2 ++ x :: rest) := fun h => (h.trans (List.sublist_cons_self x rest)).trans (List.sublist_append_right _ _)
      have s3 : ∀ {l : List Int}, l.Sublist rest → (x :: l).Sublist (pre2 ++ x :: rest) := fun h => (h.cons₂ x).trans (List.sublist_append_right _ _)
      rcases mem c hc with ⟨b, hb, rfl⟩ | ⟨b, hb, rfl⟩ | hc
      · exact ⟨s2 (k1.sub b hb).1, s3 (k1.sub b hb).2⟩
      · exact ⟨s3 (k2.sub b hb).1, s2 (k2.sub b hb).2⟩
      · exact ⟨s2 (k3.sub c hc).1, s2 (k3.sub c hc).2⟩
    · have l1 := k1.len
      have l2 := k2.len
      have l3 := k3.len
      rw [List.length_append, List.length_append, List.length_map, List.length_map]
      refine Nat.le_trans (m := 3 ^ (rest.length + 1)) ?_ (Nat.pow_le_pow_right (by decide) (by rw [List.length_append, List.length_cons]; omega))
      rw [Nat.pow_succ]
      omega

/-! ### own errors without an __init__ of their own -/
structure PlE (K : PySem.W.Frag) (mg : Str → Option Value) (C : Addr) (x : Str) : Prop where
  q : PySem.W.excIn K C [.type "ValueError", .type "Exception", .type "BaseException", .type "object"] "ValueError.__new__" = true
  nm : mg x = some (.ref C)
  k : PySem.W.keepIn K (.ref C) = true
  s : PySem.W.subIn K (.ref C) (.type "BaseException") = some true
  t : PySem.W.typeIn K (.ref C) = some (.type "type")
theorem ps_raiseP {X : Cx} {C : Addr} {W : WX} {x m : Str} {j : Nat} {p p2 pos pos' : Pos} (S : PlE X.K X.mg C x) (hc : X.calm = true) (tk : Takes X W) (hg : L2.Gl X x) (hdb : (x == ("__debug__" : Str)) = false := by decide) :
    PS X (.Raise (some (.Call (.Name x p) [.Constant (.str m) j p2] [] pos)) none pos') (fun _ σ H => W (.ref C) none σ H) := ps_raise hc tk (pmk_own PySem.F.excBase_ValueError S.q S.nm S.k (raises_own S.s S.t) hg hdb)
/-- a def that may raise, called by its name -/
structure ClX (P : Program) (w : World) (K : PySem.W.Frag) (mg : Str → Option Value) (base : Heap) (k : Nat) (x : Str) (sp : Sp) : Prop where
  ex : ∃ (f : Addr) (fd : FuncData) (ps : List Str), FnOk P w K mg base (L2.CX P w) k f fd ps sp ∧ mg x = some (.ref f) ∧ PySem.W.keepIn K (.ref f) = true ∧ Binds K fd ps []
theorem FnOk.clx {P : Program} {w : World} {K : PySem.W.Frag} {mg : Str → Option Value} {base : Heap} {k : Nat} {x q : Str} {st : Stmt} {f : Addr} {fd : FuncData} {ps : List Str} {sp : Sp} (h : FnOk P w K mg base (L2.CX P w) k f fd ps sp) (F : Fun K x q st f fd) (g : mg x = some (.ref f)) (b : Binds K fd ps []) : ClX P w K mg base k x sp := ⟨f, fd, ps, h, g, F.kp, b⟩
theorem passX {X : Cx} {E : XK} (tk : Takes X (fun cls d _ H => E cls d H)) : Passes (L2.CX X.prog X.w) X E := fun pins σ H s e s' I c => passAt (W := fun cls d _ H => E cls d H) tk σ pins H s e s' I c
structure ClDX (P : Program) (w : World) (K : PySem.W.Frag) (mg : Str → Option Value) (base : Heap) (k : Nat) (x : Str) (dvs : List V) (sp : Sp) : Prop where
  ex : ∃ (f : Addr) (fd : FuncData) (ps : List Str) (ds : List Value), FnOk P w K mg base (L2.CX P w) k f fd ps sp ∧ mg x = some (.ref f) ∧ PySem.W.keepIn K (.ref f) = true ∧ Binds K fd ps ds ∧ Vals dvs ds
structure ClNX (P : Program) (w : World) (K : PySem.W.Frag) (mg : Str → Option Value) (base : Heap) (k : Nat) (x : Str) (n : Nat) (ks : List Str) (gV : List V → List V → List V) (sp : Sp) : Prop where
  ex : ∃ (f : Addr) (fd : FuncData) (ps : List Str) (g : List Value → List Value → List Value), FnOk P w K mg base (L2.CX P w) k f fd ps sp ∧ mg x = some (.ref f) ∧ PySem.W.keepIn K (.ref f) = true ∧ KBn K fd ps n ks g gV
section
variable {X : Cx} {k j n : Nat} {x : Str} {sp : Sp} {E : XK} {dvs : List V} {ks : List Str} {gV : List V → List V → List V} {p pos : Pos} {e : Expr} {es : List Expr} {kws : List Keyword} {t tk : TA}
theorem pe_ux (c : ClX X.prog X.w X.K X.mg X.base k x sp) (hr : Room j X.A) (hk : k ≤ j) (hp : Passes (L2.CX X.prog X.w) X E) (hg : L2.Gl X x) (ha : PA X (e :: es) t)
    (hdb : (x == ("__debug__" : Str)) = false := by decide) (he : starEach (e :: es) X.env = (false, eval e X.env) :: starEach es X.env := by rfl) (hpl : (backTo pos (starEach es X.env)).any (·.1) = false := by rfl) :
    PE X (.Call (.Name x p) (e :: es) [] pos) (tCall sp [] E t) := by
  obtain ⟨f, fd, ps, F, hm, kp, b⟩ := c.ex
  exact pe_call F (hr.mono hk) hg hm kp b .nil hp ha hdb he hpl
theorem pe_udx (c : ClDX X.prog X.w X.K X.mg X.base k x dvs sp) (hr : Room j X.A) (hk : k ≤ j) (hp : Passes (L2.CX X.prog X.w) X E) (hg : Gl X x) (ha : PA X (e :: es) t)
    (hdb : (x == ("__debug__" : Str)) = false := by decide) (he : starEach (e :: es) X.env = (false, eval e X.env) :: starEach es X.env := by rfl) (hpl : (backTo pos (starEach es X.env)).any (·.1) = false := by rfl) :
    PE X (.Call (.Name x p) (e :: es) [] pos) (tCall sp dvs E t) := by
  obtain ⟨f, fd, ps, ds, F, hm, kp, b, hd⟩ := c.ex
  exact pe_call F (hr.mono hk) hg hm kp b hd hp ha hdb he hpl
end

/-! ### defs with keyword-only parameters: called with the defaults, or with keywords -/
structure ClD (P : Program) (w : World) (K : PySem.W.Frag) (mg : Str → Option Value) (base : Heap) (k : Nat) (x : Str) (dvs : List V) (sp : Sp) : Prop where
  ex : ∃ (f : Addr) (fd : FuncData) (ps : List Str) (ds : List Value), FnOk P w K mg base CX0 k f fd ps sp ∧ mg x = some (.ref f) ∧ PySem.W.keepIn K (.ref f) = true ∧ Binds K fd ps ds ∧ Vals dvs ds
structure ClN (P : Program) (w : World) (K : PySem.W.Frag) (mg : Str → Option Value) (base : Heap) (k : Nat) (x : Str) (n : Nat) (ks : List Str) (gV : List V → List V → List V) (sp : Sp) : Prop where
  ex : ∃ (f : Addr) (fd : FuncData) (ps : List Str) (g : List Value → List Value → List Value), FnOk P w K mg base CX0 k f fd ps sp ∧ mg x = some (.ref f) ∧ PySem.W.keepIn K (.ref f) = true ∧ KBn K fd ps n ks g gV
section
variable {X : Cx} {k j n : Nat} {x : Str} {sp : Sp} {dvs : List V} {ks : List Str} {gV : List V → List V → List V} {p pos : Pos} {e : Expr} {es : List Expr} {kws : List Keyword} {t tk : TA}
theorem pe_ud (c : ClD X.prog X.w X.K X.mg X.base k x dvs sp) (hr : Room j X.A) (hk : k ≤ j) (hg : Gl X x) (ha : PA X (e :: es) t)
    (hdb : (x == ("__debug__" : Str)) = false := by decide) (he : starEach (e :: es) X.env = (false, eval e X.env) :: starEach es X.env := by rfl) (hpl : (backTo pos (starEach es X.env)).any (·.1) = false := by rfl) :
    PE X (.Call (.Name x p) (e :: es) [] pos) (tCall sp dvs E0 t) := by
  obtain ⟨f, fd, ps, ds, F, hm, kp, b, hd⟩ := c.ex
  exact pe_call F (hr.mono hk) hg hm kp b hd pass0 ha hdb he hpl
theorem pe_kn (c : ClN X.prog X.w X.K X.mg X.base k x n ks gV sp) (hr : Room j X.A) (hk : k ≤ j) (hg : Gl X x) (ha : PA X (e :: es) t) (hkw : PK X kws tk) (hall : (backToKw pos (keywordEach kws X.env)).all (·.1.isSome) = true := by rfl) (hks : (backToKw pos (keywordEach kws X.env)).filterMap (·.1) = ks := by rfl)
    (hdb : (x == ("__debug__" : Str)) = false := by decide) (he : starEach (e :: es) X.env = (false, eval e X.env) :: starEach es X.env := by rfl)
    (hpl : ((backTo pos (starEach (e :: es) X.env)).any (·.1) || (backToKw pos (keywordEach kws X.env)).any (·.1.isNone)) = false := by rfl) :
    PE X (.Call (.Name x p) (e :: es) kws pos) (tCallN n ks.length sp gV E0 t tk) := by
  obtain ⟨f, fd, ps, g, F, hm, kp, b⟩ := c.ex
  exact pe_callN F (hr.mono hk) hg hm kp b pass0 ha hkw hall hks hdb he hpl
end
theorem fund_mk {K : PySem.W.Frag} {x qual : Str} {st : Stmt} {f D : Addr} {oc : Value} {od an : Option Addr} {osl : Array (Option Value)} {doc pm cdv ct : Value} {kws : List (Str × V)} (l : K.lookup f = some ⟨oc, od, .func (PySem.W.fnOf x qual (defArgs st) (defBody st) (defScope st) .none (.ref D) doc pm an cdv ct), osl⟩)
    (c : PySem.W.codeIn K cdv qual = true) (k : PySem.W.keepIn K (.ref f) = true) (h : ∀ q ∈ kws, ∃ u, PySem.W.nsIn K D q.1 = some (some u) ∧ RelV q.2 u) : FunD K x qual (defArgs st) (defBody st) (defScope st) [] kws f (PySem.W.fnOf x qual (defArgs st) (defBody st) (defScope st) .none (.ref D) doc pm an cdv ct) :=
  ⟨⟨oc, od, .none, .ref D, doc, pm, an, cdv, ct, osl, rfl, l, c, .inl ⟨rfl, rfl⟩, .inr ⟨D, rfl, h⟩⟩, k⟩

section
variable {X : Cx} {k j n : Nat} {x : Str} {sp : Sp} {E : XK} {ks : List Str} {gV : List V → List V → List V} {p pos : Pos} {e : Expr} {es : List Expr} {kws : List Keyword} {t tk : TA}
/-- a def that may raise, called with keywords where nothing is caught -/
theorem pe_knx (c : ClNX X.prog X.w X.K X.mg X.base k x n ks gV sp) (hr : Room j X.A) (hk : k ≤ j) (hp : Passes (L2.CX X.prog X.w) X E) (hg : Gl X x) (ha : PA X (e :: es) t) (hkw : PK X kws tk) (hall : (backToKw pos (keywordEach kws X.env)).all (·.1.isSome) = true := by rfl) (hks : (backToKw pos (keywordEach kws X.env)).filterMap (·.1) = ks := by rfl)
    (hdb : (x == ("__debug__" : Str)) = false := by decide) (he : starEach (e :: es) X.env = (false, eval e X.env) :: starEach es X.env := by rfl)
    (hpl : ((backTo pos (starEach (e :: es) X.env)).any (·.1) || (backToKw pos (keywordEach kws X.env)).any (·.1.isNone)) = false := by rfl) :
    PE X (.Call (.Name x p) (e :: es) kws pos) (tCallN n ks.length sp gV E t tk) := by
  obtain ⟨f, fd, ps, g, F, hm, kp, b⟩ := c.ex
  exact pe_callN F (hr.mono hk) hg hm kp b hp ha hkw hall hks hdb he hpl
end

/-! ### methods that may raise -/
structure ClMX (P : Program) (w : World) (K : PySem.W.Frag) (mg : Str → Option Value) (base : Heap) (k : Nat) (C : Addr) (m : Str) (sp : Sp) : Prop where
  ex : ∃ (f : Addr) (fd : FuncData) (ps : List Str), FnOk P w K mg base (L2.CX P w) k f fd ps sp ∧ Meth K C m f ∧ Cls K C ∧ Binds K fd ps []
theorem FnOk.clmx {P : Program} {w : World} {K : PySem.W.Frag} {mg : Str → Option Value} {base : Heap} {k : Nat} {C : Addr} {m : Str} {f : Addr} {fd : FuncData} {ps : List Str} {sp : Sp} (h : FnOk P w K mg base (L2.CX P w) k f fd ps sp) (mt : Meth K C m f) (cl : Cls K C) (b : Binds K fd ps []) : ClMX P w K mg base k C m sp := ⟨f, fd, ps, h, mt, cl, b⟩
section
variable {X : Cx} {k j i : Nat} {m x : Str} {C : Addr} {sp : Sp} {E : XK} {p pos apos : Pos} {o e : Expr} {es : List Expr} {t : TA} {ta : TE}
theorem pe_mtx {pl : Sem Bool} (c : ClMX X.prog X.w X.K X.mg X.base k C m sp) (hr : Room j X.A) (hk : k ≤ j) (hp : Passes (L2.CX X.prog X.w) X E) (he : PE X o ta) (ha : PA X (e :: es) t) (hst : starEach (e :: es) X.env = (false, eval e X.env) :: starEach es X.env := by rfl) (hpl : (backTo pos (starEach es X.env)).any (·.1) = false := by rfl)
    (ht : eval (.Call (.Attribute o m apos) (e :: es) [] pos) X.env = (do let ov ← eval o X.env; standAt apos.atName; let (f, first) ← holding [ov] (getMethod ov m pl); callWith pos f first (backTo pos (starEach (e :: es) X.env)) (backToKw pos (keywordEach [] X.env))) := by rfl) : PE X (.Call (.Attribute o m apos) (e :: es) [] pos) (tMeth C m sp [] E ta t) := by
  obtain ⟨f, fd, ps, F, hm, cl, b⟩ := c.ex
  exact pe_meth he cl hm F (hr.mono hk) b .nil hp ha hst hpl ht
theorem pe_mtx0 {pl : Sem Bool} (c : ClMX X.prog X.w X.K X.mg X.base k C m sp) (hr : Room j X.A) (hk : k ≤ j) (hp : Passes (L2.CX X.prog X.w) X E) (he : PE X o ta)
    (ht : eval (.Call (.Attribute o m apos) [] [] pos) X.env = (do let ov ← eval o X.env; standAt apos.atName; let (f, first) ← holding [ov] (getMethod ov m pl); callWith pos f first (backTo pos (starEach [] X.env)) (backToKw pos (keywordEach [] X.env))) := by rfl) : PE X (.Call (.Attribute o m apos) [] [] pos) (tMeth C m sp [] E ta tNil) := by
  obtain ⟨f, fd, ps, F, hm, cl, b⟩ := c.ex
  exact pe_meth0 he cl hm F (hr.mono hk) b .nil hp ht
end

/-! ### covers: the program -/
def cfl (s : SA) (mc mn k : Nat) : List (Str × V) := [("store", .ref s.p), ("most_cases", .int ((mc : Nat) : Int)), ("most_nodes", .int ((mn : Nat) : Int)), ("number", .int ((k : Nat) : Int))]
theorem cf_store (s : SA) (mc mn k : Nat) : (cfl s mc mn k).lookup ("store" : Str) = some (.ref s.p) := rfl
theorem cf_mc (s : SA) (mc mn k : Nat) : (cfl s mc mn k).lookup ("most_cases" : Str) = some (.int ((mc : Nat) : Int)) := rfl
theorem cf_mn (s : SA) (mc mn k : Nat) : (cfl s mc mn k).lookup ("most_nodes" : Str) = some (.int ((mn : Nat) : Int)) := rfl
theorem cf_no' (s : SA) (mc mn k : Nat) : (cfl s mc mn k).lookup ("number" : Str) = some (.int ((k : Nat) : Int)) := rfl
theorem cd1 : ¬ (("store" : Str) = "most_cases") := by decide +kernel
theorem cd2 : ¬ (("store" : Str) = "most_nodes") := by decide +kernel
theorem cd3 : ¬ (("most_cases" : Str) = "most_nodes") := by decide +kernel
theorem cd4 : ¬ (("store" : Str) = "number") := by decide +kernel
theorem cd5 : ¬ (("most_cases" : Str) = "number") := by decide +kernel
theorem cd6 : ¬ (("most_nodes" : Str) = "number") := by decide +kernel
theorem cf_mk (sp : Addr) (a b : Int) : putF "number" (.int 0) (putF "most_nodes" (.int b) (putF "most_cases" (.int a) (putF "store" (.ref sp) []))) = ([("store", .ref sp), ("most_cases", .int a), ("most_nodes", .int b), ("number", .int 0)] : List (Str × V)) := by
  simp only [putF, if_neg cd1, if_neg cd2, if_neg cd3, if_neg cd4, if_neg cd5, if_neg cd6]
theorem cf_put (s : SA) (mc mn k j : Nat) : putF "number" (.int ((j : Nat) : Int)) (cfl s mc mn k) = cfl s mc mn j := by
  unfold cfl
  simp only [putF, if_neg cd4, if_neg cd5, if_neg cd6, if_true]
theorem cf_no (s : SA) (mc mn k : Nat) {m : Str} (h1 : (m == ("store" : Str)) = false) (h2 : (m == ("most_cases" : Str)) = false) (h3 : (m == ("most_nodes" : Str)) = false) (h4 : (m == ("number" : Str)) = false) : (cfl s mc mn k).lookup m = none := by
  unfold cfl
  simp only [List.lookup, h1, h2, h3, h4]
def Cv (CW : Addr) (H : Hp) (s : SA) (mc mn k : Nat) (cv : Addr) : Prop := cv ≠ s.p ∧ ∃ dx, H cv = some (.ins CW dx (cfl s mc mn k))
def FdV (cv : Addr) (s : SA) (H H' : Hp) : Prop := ∀ b o, b ≠ cv → b ≠ s.k → b ≠ s.u → b ≠ s.m → H b = some o → H' b = some o
theorem FdV.of {cv : Addr} {s : SA} {H H' : Hp} (e : Same H H') : FdV cv s H H' := fun b o _ _ _ _ h => e b o h
theorem FdV.fds {cv : Addr} {s : SA} {H H' : Hp} (e : FdS s H H') : FdV cv s H H' := fun b o _ n1 n2 n3 h => e b o n1 n2 n3 h
theorem FdV.fd {cv : Addr} {s : SA} {H H' : Hp} (e : Fd cv H H') : FdV cv s H H' := fun b o n _ _ _ h => e b o n h
theorem FdV.trans {cv : Addr} {s : SA} {H H1 H2 : Hp} (a : FdV cv s H H1) (b : FdV cv s H1 H2) : FdV cv s H H2 := fun x o n n1 n2 n3 h => b x o n n1 n2 n3 (a x o n n1 n2 n3 h)
structure CvG (K : PySem.W.Frag) (C : Addr) : Prop where
  cl : Cls K C
  nS : NoAttr K C "store"
  nC : NoAttr K C "most_cases"
  nN : NoAttr K C "most_nodes"
  nR : NoAttr K C "number"
/-- a case on the heap: its lists are new -/
def CsE (H0 H : Hp) (N : Nds) (z : V) (c : Cse) : Prop := ∃ t p q n, z = .ref t ∧ H t = some (.tup [.ref p, .ref q, .int ((n : Nat) : Int)]) ∧ H0 p = none ∧ H p = some (.lst (c.1.map V.int)) ∧ H0 q = none ∧ H q = some (.lst (c.2.1.map V.int)) ∧ At N n c.2.2
inductive CsL (H0 H : Hp) (N : Nds) : List V → List Cse → Prop
  | nil : CsL H0 H N [] []
  | cons {z : V} {zs : List V} {c : Cse} {cs : List Cse} : CsE H0 H N z c → CsL H0 H N zs cs → CsL H0 H N (z :: zs) (c :: cs)
section
variable {C : Addr} {K : PySem.W.Frag} {H0 H H' : Hp} {s : SA} {N M : Nds} {es : List Int} {L : Nat}
theorem CsL.len : ∀ {zs : List V} {cs : List Cse}, CsL H0 H N zs cs → zs.length = cs.length
  | _, _, .nil => rfl
  | _, _, .cons _ h => congrArg (· + 1) (CsL.len h)
theorem CsL.get : ∀ {zs : List V} {cs : List Cse} {i : Nat} {c : Cse}, CsL H0 H N zs cs → cs[i]? = some c → ∃ z, zs[i]? = some z ∧ CsE H0 H N z c
  | _, _, i, c, .nil, h => by simp at h
  | _, _, 0, c, .cons (z := z) h1 h2, h => ⟨z, rfl, by cases (Option.some.inj (show some _ = some c from h)); exact h1⟩
  | _, _, i + 1, c, .cons h1 h2, h => by
    obtain ⟨z, g1, g2⟩ := CsL.get h2 (show _ = some c by simpa using h)
    exact ⟨z, by simpa using g1, g2⟩
theorem CsL.app : ∀ {zs ys : List V} {cs ds : List Cse}, CsL H0 H N zs cs → CsL H0 H N ys ds → CsL H0 H N (zs ++ ys) (cs ++ ds)
  | _, _, _, _, .nil, h => h
  | _, _, _, _, .cons h1 h2, h => .cons h1 (CsL.app h2 h)
theorem CsL.imp {H1 H2 : Hp} {N2 : Nds} (f : ∀ z c, CsE H0 H N z c → CsE H1 H2 N2 z c) : ∀ {zs : List V} {cs : List Cse}, CsL H0 H N zs cs → CsL H1 H2 N2 zs cs
  | _, _, .nil => .nil
  | _, _, .cons h1 h2 => .cons (f _ _ h1) (CsL.imp f h2)
theorem CsE.mono {z : V} {c : Cse} (h : CsE H0 H N z c) : CsE H0 H (N ++ M) z c := by
  obtain ⟨t, p, q, n, e, h1, h2, h3, h4, h5, h6⟩ := h
  exact ⟨t, p, q, n, e, h1, h2, h3, h4, h5, h6.mono⟩
theorem CsE.same {z : V} {c : Cse} (e : Same H H') (h : CsE H0 H N z c) : CsE H0 H' N z c := by
  obtain ⟨t, p, q, n, e1, h1, h2, h3, h4, h5, h6⟩ := h
  exact ⟨t, p, q, n, e1, e _ _ h1, h2, e _ _ h3, h4, e _ _ h5, h6⟩
theorem CsE.weak {H1 : Hp} {z : V} {c : Cse} (f : ∀ b, H0 b = none → H1 b = none) (h : CsE H0 H N z c) : CsE H1 H N z c := by
  obtain ⟨t, p, q, n, e, h1, h2, h3, h4, h5, h6⟩ := h
  exact ⟨t, p, q, n, e, h1, f _ h2, h3, f _ h4, h5, h6⟩
/-- what the store and the cover do not touch -/
theorem CsE.keep {CW : Addr} {mc mn k k' : Nat} {cv : Addr} {N0 : Nds} {L0 : Nat} {z : V} {c : Cse} (st0 : Sto C K H0 s N0 es L0) (c0 : Cv CW H0 s mc mn k cv) (st : Sto C K H s N es L) (c1 : Cv CW H s mc mn k' cv) (f : FdV cv s H H') (h : CsE H0 H N z c) : CsE H0 H' N z c := by
  obtain ⟨_, ⟨xs, g2, _⟩, ⟨kvs, g4, _⟩, ⟨cvs, g6, _⟩, _⟩ := st
  obtain ⟨_, dx, gc⟩ := c1
  obtain ⟨_, dx0, gc0⟩ := c0
  obtain ⟨t, p, q, n, e, h1, h2, h3, h4, h5, h6⟩ := h
  have np := bu_ne st0 h2
  have nq := bu_ne st0 h4
  exact ⟨t, p, q, n, e, f _ _ (ne_of h1 gc (fun z => nomatch z)) (ne_of h1 g2 (fun z => nomatch z)) (ne_of h1 g4 (fun z => nomatch z)) (ne_of h1 g6 (fun z => nomatch z)) h1, h2, f _ _ (ne_of_none gc0 h2).symm np.1 np.2.1 np.2.2 h3, h4, f _ _ (ne_of_none gc0 h4).symm nq.1 nq.2.1 nq.2.2 h5, h6⟩
theorem Sto.fdI {CW cv dx : Addr} {fs : List (Str × V)} (st : Sto C K H s N es L) (hz : H cv = some (.ins CW dx fs)) (n : cv ≠ s.p) (f : Fd cv H H') : Sto C K H' s N es L := by
  obtain ⟨⟨dx', h1⟩, ⟨xs, h2, h3⟩, ⟨kvs, h4, h5⟩, ⟨cvs, h6, h7⟩, h8⟩ := st
  have kp : ∀ b o, (∃ ys, o = HO.tup ys) ∨ (∃ q u, o = HO.frz q u) → H b = some o → H' b = some o := by
    rintro b o (⟨ys, rfl⟩ | ⟨q, u, rfl⟩) hb
    · exact f _ _ (ne_of hb hz (fun z => nomatch z)) hb
    · exact f _ _ (ne_of hb hz (fun z => nomatch z)) hb
  exact ⟨⟨dx', f _ _ n.symm h1⟩, ⟨xs, f _ _ (ne_of h2 hz (fun z => nomatch z)) h2, DpAll.tsn kp _ _ (nD_only _) h3⟩, ⟨kvs, f _ _ (ne_of h4 hz (fun z => nomatch z)) h4, h5⟩, ⟨cvs, f _ _ (ne_of h6 hz (fun z => nomatch z)) h6, h7⟩, h8⟩
theorem Cv.fds {CW cv : Addr} {mc mn k : Nat} (st : Sto C K H s N es L) (h : Cv CW H s mc mn k cv) (f : FdS s H H') : Cv CW H' s mc mn k cv := by
  obtain ⟨_, ⟨xs, h2, _⟩, ⟨kvs, h4, _⟩, ⟨cvs, h6, _⟩, _⟩ := st
  obtain ⟨g0, dx, g1⟩ := h
  exact ⟨g0, dx, f _ _ (ne_of g1 h2 (fun z => nomatch z)) (ne_of g1 h4 (fun z => nomatch z)) (ne_of g1 h6 (fun z => nomatch z)) g1⟩
theorem Cv.ext {CW cv : Addr} {mc mn k : Nat} (h : Cv CW H s mc mn k cv) (f : Same H H') : Cv CW H' s mc mn k cv := by
  obtain ⟨g0, dx, g1⟩ := h
  exact ⟨g0, dx, f _ _ g1⟩
/-- what is new later was new before -/
theorem fdv_free {CW cv : Addr} {mc mn k : Nat} (st : Sto C K H' s N es L) (c1 : Cv CW H' s mc mn k cv) (f : FdV cv s H H') (b : Addr) (h : H' b = none) : H b = none := by
  have n := bu_ne st h
  obtain ⟨_, dx, gc⟩ := c1
  cases hb : H b with
  | none => rfl
  | some o =>
    have := f b o (ne_of_none gc h).symm n.1 n.2.1 n.2.2 hb
    rw [h] at this
    cases this
end
def sp_cinit (CW : Addr) : Sp := fun vs H Q _ => ∃ (cv dx sp : Addr) (a b : Int), vs = [.ref cv, .ref sp, .int a, .int b] ∧ H cv = some (.ins CW dx []) ∧ ∀ H', Fd cv H H' → H' cv = some (.ins CW dx [("store", .ref sp), ("most_cases", .int a), ("most_nodes", .int b), ("number", .int 0)]) → Q .non H'
def sp_chk (C CW C2 : Addr) (K : PySem.W.Frag) : Sp := fun vs H Q E => ∃ s N es L mc mn k c T, ∃ cv : Addr, vs = [.ref cv, .int ((c : Nat) : Int)] ∧ Sto C K H s N es L ∧ Cv CW H s mc mn k cv ∧ At N c T ∧ T.sz ≤ 1000 ∧ (szN T ≤ mn → ∀ H', Same H H' → Q .non H') ∧ (mn < szN T → ∀ H', Same H H' → E (.ref C2) none H')
def sp_emp (CW C2 : Addr) : Sp := fun vs H Q E => ∃ s mc mn k, ∃ cv : Addr, vs = [.ref cv] ∧ Cv CW H s mc mn k cv ∧ (k + 1 ≤ mc → ∀ H' t p q, Fd cv H H' → Cv CW H' s mc mn (k + 1) cv → H' t = some (.tup [.ref p, .ref q, .int 1]) → H p = none → H' p = some (.lst []) → H q = none → H' q = some (.lst []) → Q (.ref t) H') ∧ (mc < k + 1 → ∀ H', Fd cv H H' → E (.ref C2) none H')
def sp_bn (C CW : Addr) (K : PySem.W.Frag) (n0 : Nat) : Sp := fun vs H Q _ => ∃ s N pre es L mc mn k a b A B, ∃ cv : Addr, vs = [.ref cv, .int ((a : Nat) : Int), .int ((b : Nat) : Int)] ∧ Sto C K H s N (pre ++ es) L ∧ Cv CW H s mc mn k cv ∧ (pre ++ es).length < n0 ∧ At N a A ∧ At N b B ∧ Wf es A ∧ Wf es B ∧ N.length + 2 * opB (pre ++ es) < sizeLine ∧ L + 2 * opB (pre ++ es) < sizeLine ∧
  ∀ H' M r, FdS s H H' → M.length ≤ 2 * opB (pre ++ es) → Sto C K H' s (N ++ M) (pre ++ es) (L + 2 * opB (pre ++ es)) → At (N ++ M) r (bnB (pre ++ es) A B) → Q (.int ((r : Nat) : Int)) H'
section
variable {P : Program} {w : World} {K : PySem.W.Frag} {mg : Str → Option Value} {base : Heap}
theorem ok_cinit {f CW : Addr} {fd : FuncData} (F : Fun K "__init__" "Cover.__init__" s_Cover___init__ f fd) (M : Mg mg) (G : CvG K CW) : FnOk P w K mg base CX0 1 f fd ["self", "store", "most_cases", "most_nodes"] (sp_cinit CW) := by
  refine F.ok sc_Cover___init__ (fun vs H Q E h => ?_) (fun cdv A outer s H vs Q E hr h => ?_)
  · obtain ⟨cv, dx, sp, a, b, rfl, _⟩ := h
    rfl
  · obtain ⟨cv, dx, sp, a, b, rfl, hw, q⟩ := h
    refine ⟨_, (pss_cons (ps_fld (pv 0) (pv 1) rfl)
      (pss_cons (ps_fld (pv 0) (pv 2) rfl)
      (pss_cons (ps_fld (pv 0) (pv 3) rfl)
      (pss_one (ps_fld (pv 0) pe_int rfl))))), ?_⟩
    refine ⟨_, rfl, _, rfl, cv, CW, dx, [], rfl, hw, G.cl, G.nS, by show 0 < 1000; decide, ?_⟩
    have f1 : Fd cv H (upd H cv (.ins CW dx (putF "store" (.ref sp) []))) := Fd.at
    have e1 : (upd H cv (.ins CW dx (putF "store" (.ref sp) []))) cv = some (.ins CW dx (putF "store" (.ref sp) [])) := upd_same
    generalize upd H cv (.ins CW dx (putF "store" (.ref sp) [])) = H1 at f1 e1 ⊢
    refine ⟨_, rfl, _, rfl, cv, CW, dx, _, rfl, e1, G.cl, G.nC, by show 1 < 1000; decide, ?_⟩
    have f2 : Fd cv H1 (upd H1 cv (.ins CW dx (putF "most_cases" (.int a) (putF "store" (.ref sp) [])))) := Fd.at
    have e2 : (upd H1 cv (.ins CW dx (putF "most_cases" (.int a) (putF "store" (.ref sp) [])))) cv = some (.ins CW dx (putF "most_cases" (.int a) (putF "store" (.ref sp) []))) := upd_same
    generalize upd H1 cv (.ins CW dx (putF "most_cases" (.int a) (putF "store" (.ref sp) []))) = H2 at f2 e2 ⊢
    refine ⟨_, rfl, _, rfl, cv, CW, dx, _, rfl, e2, G.cl, G.nN, by show 2 < 1000; decide, ?_⟩
    have f3 : Fd cv H2 (upd H2 cv (.ins CW dx (putF "most_nodes" (.int b) (putF "most_cases" (.int a) (putF "store" (.ref sp) []))))) := Fd.at
    have e3 : (upd H2 cv (.ins CW dx (putF "most_nodes" (.int b) (putF "most_cases" (.int a) (putF "store" (.ref sp) []))))) cv = some (.ins CW dx (putF "most_nodes" (.int b) (putF "most_cases" (.int a) (putF "store" (.ref sp) [])))) := upd_same
    generalize upd H2 cv (.ins CW dx (putF "most_nodes" (.int b) (putF "most_cases" (.int a) (putF "store" (.ref sp) [])))) = H3 at f3 e3 ⊢
    refine ⟨_, rfl, cv, CW, dx, _, rfl, e3, G.cl, G.nR, by show 3 < 1000; decide, ?_⟩
    refine q _ (((f1.trans f2).trans f3).trans Fd.at) ?_
    rw [upd_same]
    exact congrArg (fun z => some (HO.ins CW dx z)) (cf_mk sp a b)
theorem ok_chk {f C CW C2 : Addr} {fd : FuncData} (F : Fun K "check_size" "Cover.check_size" s_Cover_check_size f fd) (M : Mg mg) (G : CvG K CW) (PE_TooManyCases : PlE K mg C2 "TooManyCases") (c_Diagrams_size : ClM P w K mg base 3 C "size" (sp_size C K)) : FnOk P w K mg base (L2.CX P w) 4 f fd ["self", "condition"] (sp_chk C CW C2 K) := by
  refine F.okX sc_Cover_check_size (fun vs H Q E h => ?_) (fun cdv A0 outer s0 H vs Q E hr h => ?_)
  · obtain ⟨s, N, es, L, mc, mn, k, c, T, cv, rfl, _⟩ := h
    rfl
  · obtain ⟨s, N, es, L, mc, mn, k, c, T, cv, rfl, st, hc, aT, sT, q1, q2⟩ := h
    refine ⟨_, (pss_one (ps_if (pt_cmpR op_gt (pe_mt c_Diagrams_size hr (by first | decide | omega) (pe_fld (pv 0) rfl) (pa_cons (pe_lst (pa_cons (pv 1) pa_nil)) pa_nil)) (pe_fld (pv 0) rfl) (nomark _)) (pss_one (ps_raiseP PE_TooManyCases rfl (takes_of rfl rfl rfl rfl) (by rfl))) pss_nil)), ?_⟩
    obtain ⟨_, dx, g1⟩ := id hc
    refine ⟨_, rfl, cv, CW, dx, _, _, rfl, g1, G.cl, G.nS, cf_store s mc mn k, st.go (by decide +kernel) (by decide +kernel) (by decide +kernel) ⟨_, rfl, by show 1 ≤ sizeLine; decide, fun l1 n1 => ?_⟩⟩
    have s1 := same_upd n1 (o := .lst [.int ((c : Nat) : Int)])
    have e1 : (upd H l1 (.lst [.int ((c : Nat) : Int)])) l1 = some (.lst (natsV [c])) := upd_same
    generalize upd H l1 (.lst [.int ((c : Nat) : Int)]) = H1 at s1 e1 ⊢
    refine ⟨s, N, es, L, l1, [c], [T], rfl, st.ext s1, .of e1, ⟨aT, trivial⟩, by show 1 ≤ 100; decide, fun b hb => by rw [List.mem_singleton.mp hb]; exact sT, fun H2 s2 => ?_⟩
    have s02 := s1.trans s2
    refine ⟨_, rfl, cv, CW, dx, _, _, rfl, s02 _ _ g1, G.cl, G.nN, cf_mn s mc mn k, _, _, rfl, rfl, _, rfl, ?_⟩
    refine ite2 (fun e => ?_) (fun e => ?_)
    · have e := of_decide_eq_true e
      have e : mn < szN T := by
        have : ((mn : Nat) : Int) < ((szN T : Nat) : Int) := e
        omega
      exact q2 e H2 s02
    · have e : szN T ≤ mn := by
        have e := fun z => e (decide_eq_true z)
        have : ¬ ((mn : Nat) : Int) < ((szN T : Nat) : Int) := e
        omega
      exact q1 e H2 s02
theorem ok_emp {f C CW C2 : Addr} {fd : FuncData} (F : Fun K "empty_case" "Cover.empty_case" s_Cover_empty_case f fd) (M : Mg mg) (GC : CvG K CW) (G : DgC K C mg) (PE_TooManyCases : PlE K mg C2 "TooManyCases") : FnOk P w K mg base (L2.CX P w) 2 f fd ["self"] (sp_emp CW C2) := by
  refine F.okX sc_Cover_empty_case (fun vs H Q E h => ?_) (fun cdv A0 outer s0 H vs Q E hr h => ?_)
  · obtain ⟨s, mc, mn, k, cv, rfl, _⟩ := h
    rfl
  · obtain ⟨s, mc, mn, k, cv, rfl, hc, q1, q2⟩ := h
    obtain ⟨ncp, dx, g1⟩ := id hc
    refine ⟨_, (pss_cons (ps_fldaug (pv 0) pe_int in_add)
      (pss_cons (ps_if (pt_cmpR op_gt (pe_fld (pv 0) rfl) (pe_fld (pv 0) rfl) (nomark _)) (pss_one (ps_raiseP PE_TooManyCases rfl (takes_of rfl rfl rfl rfl) (by rfl))) pss_nil)
      (pss_one (ps_ret (pe_tup (pa_cons (pe_lst pa_nil) (pa_cons (pe_lst pa_nil) (pa_cons (C8.pe_gc (by rfl) G.ALWAYS) pa_nil)))))))), ?_⟩
    refine ⟨_, rfl, cv, CW, dx, _, _, rfl, g1, GC.cl, GC.nR, cf_no' s mc mn k, ?_⟩
    refine ⟨_, _, rfl, rfl, dx, _, g1, by show 4 < 1000; decide, ?_⟩
    rw [show ((k : Nat) : Int) + 1 = ((k + 1 : Nat) : Int) by omega, cf_put]
    have f1 : Fd cv H (upd H cv (.ins CW dx (cfl s mc mn (k + 1)))) := Fd.at
    have e1 : (upd H cv (.ins CW dx (cfl s mc mn (k + 1)))) cv = some (.ins CW dx (cfl s mc mn (k + 1))) := upd_same
    generalize upd H cv (.ins CW dx (cfl s mc mn (k + 1))) = H1 at f1 e1 ⊢
    refine ⟨_, rfl, cv, CW, dx, _, _, rfl, e1, GC.cl, GC.nR, cf_no' s mc mn (k + 1), _, rfl, cv, CW, dx, _, _, rfl, e1, GC.cl, GC.nC, cf_mc s mc mn (k + 1), _, _, rfl, rfl, _, rfl, ?_⟩
    refine ite2 (fun e => ?_) (fun e => ?_)
    · have e := of_decide_eq_true e
      exact q2 (by omega) H1 f1
    · have e : ¬ ((mc : Nat) : Int) < ((k + 1 : Nat) : Int) := fun z => e (decide_eq_true z)
      refine ⟨by show 0 ≤ sizeLine; decide, fun p np => ⟨by show 0 ≤ sizeLine; decide, fun p2 np2 => ⟨by show 3 ≤ sizeLine; decide, fun t nt => ?_⟩⟩⟩
      have sp := same_upd np (o := .lst [])
      have sp2 := same_upd np2 (o := .lst [])
      have st := same_upd nt (o := .tup [.ref p, .ref p2, .int 1])
      have free : ∀ b, H1 b = none → H b = none := fun b hb => by
        cases hb0 : H b with
        | none => rfl
        | some o =>
          by_cases hbc : b = cv
          · rw [hbc, e1] at hb
            cases hb
          · rw [f1 _ _ hbc hb0] at hb
            cases hb
      exact q1 (by omega) _ t p p2 (f1.trans (Fd.of ((sp.trans sp2).trans st))) ⟨ncp, dx, ((sp.trans sp2).trans st) _ _ e1⟩ upd_same (free _ np) (st _ _ (sp2 _ _ upd_same)) (free _ (sp.free np2)) (st _ _ upd_same)
theorem ok_bnP {n0 : Nat} {f C CW : Addr} {fd : FuncData} (F : Fun K "but_not" "Cover.but_not" s_Cover_but_not f fd) (M : Mg mg) (G : CvG K CW) (c_Diagrams_conjunction : ClM P w K mg base (n0 + 3) C "conjunction" (sp_op2 C K n0 and)) (c_Diagrams_negation : ClM P w K mg base (n0 + 3) C "negation" (sp_neg C K n0)) : FnOk P w K mg base CX0 (n0 + 4) f fd ["self", "first", "second"] (sp_bn C CW K n0) := by
  refine F.ok sc_Cover_but_not (fun vs H Q E h => ?_) (fun cdv A0 outer s0 H vs Q E hr h => ?_)
  · obtain ⟨s, N, pre, es, L, mc, mn, k, a, b, A, B, cv, rfl, _⟩ := h
    rfl
  · obtain ⟨s, N, pre, es, L, mc, mn, k, a, b, A, B, cv, rfl, st, hc, hl, aA, aB, wA, wB, z1, z2, q⟩ := h
    obtain ⟨ncp, dx, g1⟩ := id hc
    refine ⟨_, (pss_one (ps_ret (pe_mt c_Diagrams_conjunction hr (by first | decide | omega) (pe_fld (pv 0) rfl) (pa_cons (pv 1) (pa_cons (pe_mt c_Diagrams_negation hr (by first | decide | omega) (pe_fld (pv 0) rfl) (pa_cons (pv 2) pa_nil)) pa_nil))))), ?_⟩
    have ob := opB_ge (pre ++ es)
    refine ⟨_, rfl, cv, CW, dx, _, _, rfl, g1, G.cl, G.nS, cf_store s mc mn k, st.go (by decide +kernel) (by decide +kernel) (by decide +kernel) ⟨_, rfl, ?_⟩⟩
    refine ⟨_, rfl, cv, CW, dx, _, _, rfl, g1, G.cl, G.nS, cf_store s mc mn k, st.go (by decide +kernel) (by decide +kernel) (by decide +kernel) ⟨_, rfl, ?_⟩⟩
    refine ⟨s, N, pre ++ es, L, b, B, rfl, st, hl, aB, wB.skips pre, by omega, by omega, fun H1 M1 r1 T1 f1 l1 st1 a1 w1 v1 => ?_⟩
    refine ⟨s, N ++ M1, pre ++ es, _, a, r1, A, T1, rfl, st1, hl, aA.mono, a1, wA.skips pre, w1, by rw [List.length_append]; omega, by omega, fun H2 M2 r T f2 l2 st2 aT wT eT => ?_⟩
    rw [List.append_assoc] at st2 aT
    have hT : bnB (pre ++ es) A B = T := cn_eq st.es_nd wT fun ρ => by rw [eT, v1]
    exact q H2 (M1 ++ M2) r (f1.trans f2) (by rw [List.length_append]; omega) (st2.more (by omega)) (by rw [hT]; exact aT)
end
def sp_woi (C CW : Addr) (K : PySem.W.Frag) (n0 : Nat) (g : List Int → Int → Cse → Cse) : Sp := fun vs H Q _ => ∃ (H0 : Hp) (s : SA) (N : Nds) (pre es : List Int) (L mc mn k : Nat) (x : Int), ∃ (cv : Addr) (z : V) (c : Cse) (N0 : Nds) (L0 k0 : Nat), vs = [.ref cv, .int x, z] ∧ Sto C K H s N (pre ++ x :: es) L ∧ Cv CW H s mc mn k cv ∧ Sto C K H0 s N0 (pre ++ x :: es) L0 ∧ Cv CW H0 s mc mn k0 cv ∧ FdV cv s H0 H ∧ (pre ++ x :: es).length < n0 ∧ CsE H0 H N z c ∧ Wf es c.2.2 ∧ c.1.length ≤ 100 ∧ c.2.1.length ≤ 100 ∧ N.length + 2 * opB (pre ++ x :: es) + 1 < sizeLine ∧ L + 2 * opB (pre ++ x :: es) < sizeLine ∧
  ∀ H' M t, FdS s H H' → M.length ≤ 2 * opB (pre ++ x :: es) + 1 → Sto C K H' s (N ++ M) (pre ++ x :: es) (L + 2 * opB (pre ++ x :: es)) → CsE H0 H' (N ++ M) (.ref t) (g (pre ++ x :: es) x c) → Q (.ref t) H'
section
variable {P : Program} {w : World} {K : PySem.W.Frag} {mg : Str → Option Value} {base : Heap}
theorem ok_wo {n0 : Nat} {f C CW : Addr} {fd : FuncData} (F : Fun K "case_without" "Cover.case_without" s_Cover_case_without f fd) (M : Mg mg) (G : CvG K CW) (c_Cover_but_not : ClM P w K mg base (n0 + 4) CW "but_not" (sp_bn C CW K n0)) (c_Diagrams_there : ClM P w K mg base 2 C "there" (sp_there C K)) : FnOk P w K mg base CX0 (n0 + 5) f fd ["self", "entry", "case"] (sp_woi C CW K n0 woC) := by
  refine F.ok sc_Cover_case_without (fun vs H Q E h => ?_) (fun cdv A0 outer s0 H vs Q E hr h => ?_)
  · obtain ⟨H0, s, N, pre, es, L, mc, mn, k, x, cv, z, c, N0, L0, k0, rfl, _⟩ := h
    rfl
  · obtain ⟨H0, s, N, pre, es, L, mc, mn, k, x, cv, z, c, N0, L0, k0, rfl, st, hc, st0, hc0, f0, hl, hz, wc, l1, l2, z1, z2, q⟩ := h
    obtain ⟨ncp, dx, g1⟩ := id hc
    obtain ⟨t, p, p2, n, rfl, ht, np, ep, np2, ep2, an⟩ := id hz
    refine ⟨_, (pss_cons (ps_asg (pv 2) (pg_tup (by rfl) (pgs_cons (pg_name (i := 3) sc_Cover_case_without.nd rfl (.inl rfl)) (pgs_cons (pg_name (i := 4) sc_Cover_case_without.nd rfl (.inl rfl)) (pgs_cons (pg_name (i := 5) sc_Cover_case_without.nd rfl (.inl rfl)) pgs_nil)))))
      (pss_one (ps_ret (pe_tup (pa_cons (pv 3) (pa_cons (pe_op op_cat (pe_lst (pa_cons (pv 1) pa_nil)) (pv 4)) (pa_cons (pe_mt c_Cover_but_not hr (by first | decide | omega) (pv 0) (pa_cons (pv 5) (pa_cons (pe_mt c_Diagrams_there hr (by first | decide | omega) (pe_fld (pv 0) rfl) (pa_cons (pv 1) pa_nil)) pa_nil))) pa_nil))))))), ?_⟩
    have npk := bu_ne st0 np
    refine ⟨_, rfl, t, _, rfl, .of ht, rfl, _, _, rfl, _, _, rfl, _, _, rfl, rfl, ?_⟩
    refine ⟨_, rfl, _, rfl, by show 1 ≤ sizeLine; decide, fun q1 nq1 => ?_⟩
    have s1 := same_upd nq1 (o := .lst [.int x])
    have e1 : (upd H q1 (.lst [.int x])) q1 = some (.lst [.int x]) := upd_same
    generalize upd H q1 (.lst [.int x]) = H1 at s1 e1 ⊢
    refine ⟨_, rfl, q1, p2, _, _, rfl, rfl, e1, s1 _ _ ep2, by rw [List.length_map]; exact Nat.le_trans (m := 101) (by show 1 + c.2.1.length ≤ 101; omega) (by decide), fun q2 nq2 => ?_⟩
    have s2 := same_upd nq2 (o := .lst ([.int x] ++ c.2.1.map V.int))
    have e2 : (upd H1 q2 (.lst ([.int x] ++ c.2.1.map V.int))) q2 = some (.lst ((x :: c.2.1).map V.int)) := upd_same
    generalize upd H1 q2 (.lst ([.int x] ++ c.2.1.map V.int)) = H2 at s2 e2 ⊢
    have s02 := s1.trans s2
    have st2 := st.ext s02
    have hc2 := hc.ext s02
    have nq2k := bu_ne (st.ext s1) nq2
    refine ⟨_, rfl, cv, dx, _, rfl, s02 _ _ g1, cf_no s mc mn k (by decide +kernel) (by decide +kernel) (by decide +kernel) (by decide +kernel), _, rfl, _, rfl, cv, CW, dx, _, _, rfl, s02 _ _ g1, G.cl, G.nS, cf_store s mc mn k, st2.go (by decide +kernel) (by decide +kernel) (by decide +kernel) ⟨_, rfl, s, N, _, L, x, rfl, st2, by omega, fun H3 M3 r3 f3 l3 st3 a3 => ?_⟩⟩
    refine ⟨s, N ++ M3, pre, x :: es, L, mc, mn, k, n, r3, c.2.2, thB x, cv, rfl, st3, hc2.fds st2 f3, hl, an.mono, a3, .skip wc, low_th, by rw [List.length_append]; omega, by omega, fun H4 M4 r4 f4 l4 st4 a4 => ?_⟩
    rw [List.append_assoc] at st4 a4
    refine ⟨by show 3 ≤ sizeLine; decide, fun t2 nt2 => ?_⟩
    have s5 := same_upd nt2 (o := .tup [.ref p, .ref q2, .int ((r4 : Nat) : Int)])
    have f24 := f3.trans f4
    refine q _ (M3 ++ M4) t2 (((FdS.of s02).trans f24).trans (FdS.of s5)) (by rw [List.length_append]; omega) (st4.ext s5) ⟨t2, p, q2, r4, rfl, upd_same, np, s5 _ _ (f24 _ _ npk.1 npk.2.1 npk.2.2 (s02 _ _ ep)), fdv_free st hc f0 q2 (s1.free nq2), s5 _ _ (f24 _ _ nq2k.1 nq2k.2.1 nq2k.2.2 e2), a4⟩
theorem ok_wi {n0 : Nat} {f C CW : Addr} {fd : FuncData} (F : Fun K "case_with" "Cover.case_with" s_Cover_case_with f fd) (M : Mg mg) (G : CvG K CW) (c_Diagrams_conjunction : ClM P w K mg base (n0 + 3) C "conjunction" (sp_op2 C K n0 and)) (c_Diagrams_there : ClM P w K mg base 2 C "there" (sp_there C K)) : FnOk P w K mg base CX0 (n0 + 5) f fd ["self", "entry", "case"] (sp_woi C CW K n0 wiC) := by
  refine F.ok sc_Cover_case_with (fun vs H Q E h => ?_) (fun cdv A0 outer s0 H vs Q E hr h => ?_)
  · obtain ⟨H0, s, N, pre, es, L, mc, mn, k, x, cv, z, c, N0, L0, k0, rfl, _⟩ := h
    rfl
  · obtain ⟨H0, s, N, pre, es, L, mc, mn, k, x, cv, z, c, N0, L0, k0, rfl, st, hc, st0, hc0, f0, hl, hz, wc, l1, l2, z1, z2, q⟩ := h
    obtain ⟨ncp, dx, g1⟩ := id hc
    obtain ⟨t, p, p2, n, rfl, ht, np, ep, np2, ep2, an⟩ := id hz
    refine ⟨_, (pss_cons (ps_asg (pv 2) (pg_tup (by rfl) (pgs_cons (pg_name (i := 3) sc_Cover_case_with.nd rfl (.inl rfl)) (pgs_cons (pg_name (i := 4) sc_Cover_case_with.nd rfl (.inl rfl)) (pgs_cons (pg_name (i := 5) sc_Cover_case_with.nd rfl (.inl rfl)) pgs_nil)))))
      (pss_one (ps_ret (pe_tup (pa_cons (pe_op op_cat (pe_lst (pa_cons (pv 1) pa_nil)) (pv 3)) (pa_cons (pv 4) (pa_cons (pe_mt c_Diagrams_conjunction hr (by first | decide | omega) (pe_fld (pv 0) rfl) (pa_cons (pv 5) (pa_cons (pe_mt c_Diagrams_there hr (by first | decide | omega) (pe_fld (pv 0) rfl) (pa_cons (pv 1) pa_nil)) pa_nil))) pa_nil))))))), ?_⟩
    have npk := bu_ne st0 np2
    refine ⟨_, rfl, t, _, rfl, .of ht, rfl, _, _, rfl, _, _, rfl, _, _, rfl, rfl, ?_⟩
    refine ⟨_, rfl, by show 1 ≤ sizeLine; decide, fun q1 nq1 => ?_⟩
    have s1 := same_upd nq1 (o := .lst [.int x])
    have e1 : (upd H q1 (.lst [.int x])) q1 = some (.lst [.int x]) := upd_same
    generalize upd H q1 (.lst [.int x]) = H1 at s1 e1 ⊢
    refine ⟨_, rfl, q1, p, _, _, rfl, rfl, e1, s1 _ _ ep, by rw [List.length_map]; exact Nat.le_trans (m := 101) (by show 1 + c.1.length ≤ 101; omega) (by decide), fun q2 nq2 => ?_⟩
    have s2 := same_upd nq2 (o := .lst ([.int x] ++ c.1.map V.int))
    have e2 : (upd H1 q2 (.lst ([.int x] ++ c.1.map V.int))) q2 = some (.lst ((x :: c.1).map V.int)) := upd_same
    generalize upd H1 q2 (.lst ([.int x] ++ c.1.map V.int)) = H2 at s2 e2 ⊢
    have s02 := s1.trans s2
    have st2 := st.ext s02
    have nq2k := bu_ne (st.ext s1) nq2
    refine ⟨_, rfl, _, rfl, cv, CW, dx, _, _, rfl, s02 _ _ g1, G.cl, G.nS, cf_store s mc mn k, st2.go (by decide +kernel) (by decide +kernel) (by decide +kernel) ⟨_, rfl, _, rfl, cv, CW, dx, _, _, rfl, s02 _ _ g1, G.cl, G.nS, cf_store s mc mn k, st2.go (by decide +kernel) (by decide +kernel) (by decide +kernel) ⟨_, rfl, s, N, _, L, x, rfl, st2, by omega, fun H3 M3 r3 f3 l3 st3 a3 => ?_⟩⟩⟩
    refine ⟨s, N ++ M3, pre ++ x :: es, L, n, r3, c.2.2, thB x, rfl, st3, hl, an.mono, a3, (Wf.skip wc).skips pre, low_th.skips pre, by rw [List.length_append]; omega, by omega, fun H4 M4 r4 T f4 l4 st4 a4 w4 e4 => ?_⟩
    rw [List.append_assoc] at st4 a4
    refine ⟨by show 3 ≤ sizeLine; decide, fun t2 nt2 => ?_⟩
    have s5 := same_upd nt2 (o := .tup [.ref q2, .ref p2, .int ((r4 : Nat) : Int)])
    have f24 := f3.trans f4
    have hT : anB (pre ++ x :: es) c.2.2 (thB x) = T := cn_eq st.es_nd w4 fun ρ => by rw [e4]
    refine q _ (M3 ++ M4) t2 (((FdS.of s02).trans f24).trans (FdS.of s5)) (by rw [List.length_append]; omega) ((st4.more (by omega)).ext s5) ⟨t2, q2, p2, r4, rfl, upd_same, fdv_free st hc f0 q2 (s1.free nq2), s5 _ _ (f24 _ _ nq2k.1 nq2k.2.1 nq2k.2.2 e2), np2, s5 _ _ (f24 _ _ npk.1 npk.2.1 npk.2.2 (s02 _ _ ep2)), by show At _ _ (anB _ _ _); rw [hT]; exact a4⟩
end

/-! ### covers: what is left over -/
def O2 (es : List Int) : Nat := 2 * opB es
def sp_lo (C CW C2 : Addr) (K : PySem.W.Frag) (n0 : Nat) : Sp := fun vs H Q E => ∃ (H0 : Hp) (s : SA) (N : Nds) (pre es : List Int) (L mc mn k a : Nat) (A : Bd), ∃ (cv fa : Addr) (zs : List V) (cs : List Cse) (N0 : Nds) (L0 k0 : Nat), vs = [.ref cv, .int ((a : Nat) : Int), .ref fa] ∧ Sto C K H s N (pre ++ es) L ∧ Cv CW H s mc mn k cv ∧ Sto C K H0 s N0 (pre ++ es) L0 ∧ Cv CW H0 s mc mn k0 cv ∧ FdV cv s H0 H ∧ (pre ++ es).length < n0 ∧ 2 ^ (pre ++ es).length ≤ 32 ∧ At N a A ∧ Wf es A ∧ H fa = some (.lst zs) ∧ H0 fa = none ∧ CsL H0 H N zs cs ∧ (∀ c ∈ cs, Wf es c.2.2) ∧ cs.length ≤ 100 ∧ N.length + (cs.length + 1) * O2 (pre ++ es) < sizeLine ∧ L + (cs.length + 1) * O2 (pre ++ es) < sizeLine ∧
  ∀ H' M, FdS s H H' → M.length ≤ (cs.length + 1) * O2 (pre ++ es) → Sto C K H' s (N ++ M) (pre ++ es) (L + (cs.length + 1) * O2 (pre ++ es)) → ((∀ B ∈ apM (pre ++ es) (apl cs) ++ [bnB (pre ++ es) A (apB (pre ++ es) (apl cs))], szN B ≤ mn) → ∀ r, At (N ++ M) r (bnB (pre ++ es) A (apB (pre ++ es) (apl cs))) → Q (.int ((r : Nat) : Int)) H') ∧ ((¬ ∀ B ∈ apM (pre ++ es) (apl cs) ++ [bnB (pre ++ es) A (apB (pre ++ es) (apl cs))], szN B ≤ mn) → E (.ref C2) none H')
theorem FdS.keepE {C : Addr} {K : PySem.W.Frag} {CW cv : Addr} {H0 H H' : Hp} {s : SA} {N0 N : Nds} {es : List Int} {L0 L mc mn k0 k : Nat} (st0 : Sto C K H0 s N0 es L0) (hc0 : Cv CW H0 s mc mn k0 cv) (st : Sto C K H s N es L) (hc : Cv CW H s mc mn k cv) (f : FdS s H H') {z : V} {c : Cse} (h : CsE H0 H N z c) : CsE H0 H' N z c := h.keep st0 hc0 st hc (FdV.fds f)
theorem apM_mem {es : List Int} : ∀ {as : List Bd} {k : Nat}, k < as.length → apB es (as.drop k) ∈ apM es as
  | [], _, h => absurd h (Nat.not_lt_zero _)
  | A :: r, 0, _ => List.mem_cons_self
  | A :: r, k + 1, h => List.mem_cons_of_mem _ (apM_mem (as := r) (k := k) (by simpa using h))
section
variable {P : Program} {w : World} {K : PySem.W.Frag} {mg : Str → Option Value} {base : Heap}
set_option maxHeartbeats 4000000 in
theorem ok_lo {n0 : Nat} {f C CW C2 : Addr} {fd : FuncData} (F : Fun K "left_over" "Cover.left_over" s_Cover_left_over f fd) (M : Mg mg) (GC : CvG K CW) (G : DgC K C mg) (h4 : 1 ≤ n0) (c_Diagrams_disjunction : ClM P w K mg base (n0 + 3) C "disjunction" (sp_op2 C K n0 or)) (c_Cover_but_not : ClM P w K mg base (n0 + 4) CW "but_not" (sp_bn C CW K n0)) (cx_Cover_check_size : ClMX P w K mg base 4 CW "check_size" (sp_chk C CW C2 K)) : FnOk P w K mg base (L2.CX P w) (n0 + 5) f fd ["self", "low", "found"] (sp_lo C CW C2 K n0) := by
  refine F.okX sc_Cover_left_over (fun vs H Q E h => ?_) (fun cdv A0 outer s0 H vs Q E hr h => ?_)
  · obtain ⟨H0, s, N, pre, es, L, mc, mn, k, a, A, cv, fa, zs, cs, N0, L0, k0, rfl, _⟩ := h
    rfl
  · obtain ⟨H0, s, N, pre, es, L, mc, mn, k, a, A, cv, fa, zs, cs, N0, L0, k0, rfl, st, hc, st0, hc0, f0, hl, hp, aA, wA, hfa, nfa, hcs, wcs, l100, z1, z2, q⟩ := h
    obtain ⟨ncp, dx, g1⟩ := id hc
    refine ⟨_, (pss_cons (ps_set (i := 3) sc_Cover_left_over.nd rfl (.inl rfl) (C8.pe_gc (by rfl) G.NEVER))
      (pss_cons (ps_for (passes_of rfl) rfl (RT.pi_revA (by rfl) M.reversed (pv 2)) (pg_tup (by rfl) (pgs_cons (pg_name (i := 4) sc_Cover_left_over.nd rfl (.inl rfl)) (pgs_cons (pg_name (i := 4) sc_Cover_left_over.nd rfl (.inl rfl)) (pgs_cons (pg_name (i := 5) sc_Cover_left_over.nd rfl (.inl rfl)) pgs_nil)))) (pss_cons (ps_set (i := 3) sc_Cover_left_over.nd rfl (.inl rfl) (pe_mt c_Diagrams_disjunction hr (by first | decide | omega) (pe_fld (pv 0) rfl) (pa_cons (pv 5) (pa_cons (pv 3) pa_nil))))
      (pss_one (ps_expr (pe_mtx cx_Cover_check_size hr (by first | decide | omega) (E := E) (passX (takes_of rfl rfl rfl rfl)) (pv 0) (pa_cons (pv 3) pa_nil))))))
      (pss_cons (ps_set (i := 6) sc_Cover_left_over.nd rfl (.inl rfl) (pe_mt c_Cover_but_not hr (by first | decide | omega) (pv 0) (pa_cons (pv 1) (pa_cons (pv 3) pa_nil))))
      (pss_cons (ps_expr (pe_mtx cx_Cover_check_size hr (by first | decide | omega) (E := E) (passX (takes_of rfl rfl rfl rfl)) (pv 0) (pa_cons (pv 6) pa_nil)))
      (pss_one (ps_ret (pv 6))))))), ?_⟩
    have lzs := hcs.len
    have nfk := bu_ne st0 nfa
    refine ⟨_, rfl, fa, zs, rfl, .inl ⟨.of hfa, ?_⟩⟩
    obtain ⟨as, has⟩ : ∃ as, as = apl cs := ⟨_, rfl⟩
    rw [← has] at q
    have las : as.length = cs.length := by rw [has, List.length_map]
    have was : ∀ a ∈ as, Wf es a := fun a ha => by
      rw [has] at ha
      obtain ⟨c, hcm, rfl⟩ := List.mem_map.mp ha
      exact wcs c hcm
    have hnd := st.es_nd
    have hO : O2 (pre ++ es) = 2 * opB (pre ++ es) := rfl
    have hmul : (cs.length + 1) * O2 (pre ++ es) = cs.length * O2 (pre ++ es) + O2 (pre ++ es) := Nat.succ_mul _ _
    have wap : ∀ j, Wf es (apB (pre ++ es) (as.drop j)) := fun j => (low_ap hnd fun a ha => was a (List.mem_of_mem_drop ha)).1
    have hsz : ∀ {B : Bd}, Wf es B → B.sz ≤ 1000 := fun hB => by
      have := wf_sz hB
      have h2 : 2 ^ es.length ≤ 2 ^ (pre ++ es).length := Nat.pow_le_pow_right (by decide) (by rw [List.length_append]; omega)
      omega
    refine RT.for_Itv (K := K) (a := fa) (xs := zs) (fun i σ Hi => FdS s H Hi ∧ ∃ Mi r z4 z5, σ = [some (.ref cv), some (.int ((a : Nat) : Int)), some (.ref fa), some (.int ((r : Nat) : Int)), z4, z5, none] ∧ Mi.length ≤ i * O2 (pre ++ es) ∧ Sto C K Hi s (N ++ Mi) (pre ++ es) (L + i * O2 (pre ++ es)) ∧ At (N ++ Mi) r (apB (pre ++ es) (as.drop (cs.length - i))) ∧ ∀ B ∈ apM (pre ++ es) (as.drop (cs.length - i)), szN B ≤ mn) ⟨FdS.refl _ _, [], 0, none, none, rfl, Nat.zero_le _, by rw [List.append_nil, Nat.zero_mul]; exact st, by rw [List.drop_of_length_le (by omega)]; exact .f, fun B hB => by rw [List.drop_of_length_le (by omega)] at hB; cases hB⟩ (fun i σ Hi hp => .of (hp.1 _ _ nfk.1 nfk.2.1 nfk.2.2 hfa)) (fun i x σ Hi hi hx hp => ?_) (fun σ Hn hp => ?_)
    · obtain ⟨fi, Mi, r, z4, z5, rfl, lM, sti, aT, sm⟩ := hp
      rw [lzs] at hi hx
      have hj : cs.length - 1 - i < cs.length := by omega
      obtain ⟨z, hz, hE⟩ := hcs.get (List.getElem?_eq_getElem hj)
      obtain rfl : z = x := Option.some.inj (hz.symm.trans hx)
      have hE := FdS.keepE st0 hc0 st hc fi hE
      have hgj : as[cs.length - 1 - i]? = some (cs[cs.length - 1 - i]).2.2 := by
        rw [has, List.getElem?_map, List.getElem?_eq_getElem hj]
        rfl
      have wc := wcs _ (List.getElem_mem hj)
      generalize cs[cs.length - 1 - i] = c at hE hgj wc
      obtain ⟨t, p, p2, n, rfl, ht, _, _, _, _, an⟩ := hE
      have hci := hc.fds st fi
      obtain ⟨_, dxi, g1i⟩ := id hci
      have hm9 : (i + 1) * O2 (pre ++ es) ≤ cs.length * O2 (pre ++ es) := Nat.mul_le_mul_right _ (by omega)
      have hmi : (i + 1) * O2 (pre ++ es) = i * O2 (pre ++ es) + O2 (pre ++ es) := Nat.succ_mul _ _
      have hop : opB (pre ++ es) ≤ O2 (pre ++ es) := by unfold O2; omega
      refine ⟨t, _, rfl, .of ht, rfl, _, _, rfl, _, _, rfl, _, _, rfl, rfl, ?_⟩
      refine ⟨_, rfl, cv, CW, dxi, _, _, rfl, g1i, GC.cl, GC.nS, cf_store s mc mn k, sti.go (by decide +kernel) (by decide +kernel) (by decide +kernel) ⟨_, rfl, _, rfl, s, N ++ Mi, pre ++ es, _, n, r, c.2.2, _, rfl, sti, hl, an.mono, aT, wc.skips pre, (wap _).skips pre, by rw [List.length_append]; omega, by omega, fun H1 M1 r1 T f1 l1 st1 a1 w1 e1 => ?_⟩⟩
      rw [List.append_assoc] at st1 a1
      have hlt : cs.length - (i + 1) < as.length := by omega
      have edr : as.drop (cs.length - (i + 1)) = c.2.2 :: as.drop (cs.length - i) := by
        have hgj' : as[cs.length - (i + 1)]? = some c.2.2 := by
          rw [show cs.length - (i + 1) = cs.length - 1 - i by omega]
          exact hgj
        have e1 : as[cs.length - (i + 1)] = c.2.2 := Option.some.inj ((List.getElem?_eq_getElem hlt).symm.trans hgj')
        rw [List.drop_eq_getElem_cons hlt, e1, show cs.length - (i + 1) + 1 = cs.length - i by omega]
      have hT : apB (pre ++ es) (as.drop (cs.length - (i + 1))) = T := by
        rw [edr]
        exact cn_eq hnd w1 fun ρ => by rw [e1]
      have wT : Wf es T := by rw [← hT]; exact wap _
      have f01 := fi.trans f1
      refine ⟨_, rfl, cv, dxi, _, rfl, ?_, cf_no s mc mn k (by decide +kernel) (by decide +kernel) (by decide +kernel) (by decide +kernel), _, rfl, s, N ++ (Mi ++ M1), pre ++ es, _, mc, mn, k, r1, T, cv, rfl, st1, hc.fds st f01, a1, hsz wT, fun hs H2 s2 => ?_, fun hs H2 s2 => ?_⟩
      · obtain ⟨_, dx2, g2⟩ := hci.fds sti f1
        have e1 : H1 cv = some (.ins CW dxi (cfl s mc mn k)) := by
          obtain ⟨_, ⟨xs, k2, _⟩, ⟨ku, k4, _⟩, ⟨km, k6, _⟩, _⟩ := id sti
          exact f1 _ _ (ne_of g1i k2 (fun z => nomatch z)) (ne_of g1i k4 (fun z => nomatch z)) (ne_of g1i k6 (fun z => nomatch z)) g1i
        exact e1
      · refine ⟨f01.trans (FdS.of s2), Mi ++ M1, r1, _, _, rfl, by rw [List.length_append]; omega, (st1.ext s2).more (by omega), by rw [hT]; exact a1, fun B hB => ?_⟩
        rw [edr] at hB
        rcases List.mem_cons.mp hB with rfl | hB
        · rw [← edr, hT]
          exact hs
        · exact sm B hB
      · refine (q H2 (Mi ++ M1) (f01.trans (FdS.of s2)) (by rw [List.length_append]; omega) ((st1.ext s2).more (by omega))).2 fun all => ?_
        have := all _ (List.mem_append_left _ (apM_mem hlt))
        rw [hT] at this
        omega
    · obtain ⟨fn, Mn, r, z4, z5, rfl, lM, stn, aT, sm⟩ := hp
      rw [lzs] at lM stn aT sm
      rw [Nat.sub_self, List.drop_zero] at aT sm
      have hcn := hc.fds st fn
      obtain ⟨_, dxn, g1n⟩ := id hcn
      have wa := wap 0
      rw [List.drop_zero] at wa
      refine ⟨_, rfl, cv, dxn, _, rfl, g1n, cf_no s mc mn k (by decide +kernel) (by decide +kernel) (by decide +kernel) (by decide +kernel), _, rfl, _, rfl, s, N ++ Mn, pre, es, _, mc, mn, k, a, r, A, _, cv, rfl, stn, hcn, hl, aA.mono, aT, wA, wa, by rw [List.length_append]; omega, by omega, fun H1 M1 r1 f1 l1 st1 a1 => ?_⟩
      rw [List.append_assoc] at st1 a1
      have f01 := fn.trans f1
      have hc1 := hc.fds st f01
      obtain ⟨_, dx1, g11⟩ := id hc1
      have wB := (low_bn hnd wA wa).1
      refine ⟨_, rfl, cv, dx1, _, rfl, g11, cf_no s mc mn k (by decide +kernel) (by decide +kernel) (by decide +kernel) (by decide +kernel), _, rfl, s, N ++ (Mn ++ M1), pre ++ es, _, mc, mn, k, r1, _, cv, rfl, st1, hc1, a1, hsz wB, fun hs H2 s2 => ?_, fun hs H2 s2 => ?_⟩
      · refine ⟨_, rfl, (q H2 (Mn ++ M1) (f01.trans (FdS.of s2)) (by rw [List.length_append]; omega) ((st1.ext s2).more (by omega))).1 (fun B hB => ?_) r1 a1⟩
        rcases List.mem_append.mp hB with hB | hB
        · exact sm B hB
        · rw [List.mem_singleton.mp hB]
          exact hs
      · refine (q H2 (Mn ++ M1) (f01.trans (FdS.of s2)) (by rw [List.length_append]; omega) ((st1.ext s2).more (by omega))).2 fun all => ?_
        have := all _ (List.mem_append_right _ (List.mem_singleton.mpr rfl))
        omega
end

/-! ### covers: the recursion -/
def wk : Nat → Nat
  | 0 => 0
  | n + 1 => 3 * wk n + (400 + 260 * 3 ^ n)
theorem wk_le : ∀ {n m : Nat}, n ≤ m → wk n ≤ wk m
  | n, 0, h => by obtain rfl : n = 0 := by omega
                  exact Nat.le_refl _
  | n, m + 1, h => by
    by_cases e : n = m + 1
    · rw [e]
      exact Nat.le_refl _
    · have := wk_le (n := n) (m := m) (by omega)
      show wk n ≤ 3 * wk m + _
      omega
def CovFit (r : List Cse × List Bd) (k mc mn : Nat) : Prop := (∀ B ∈ r.2, szN B ≤ mn) ∧ k + r.1.length ≤ mc
theorem cov_low (es : List Int) (n : Nat) (A B : Bd) : A ∈ (cov es n A B).2 ∧ B ∈ (cov es n A B).2 := by
  cases n with
  | zero => exact ⟨by simp [cov], by simp [cov]⟩
  | succ n =>
    unfold cov
    split
    · exact ⟨by simp, by simp⟩
    split
    · exact ⟨by simp, by simp⟩
    · unfold covS
      exact ⟨by simp, by simp⟩
theorem cov_0 (es : List Int) (n : Nat) (B : Bd) : cov es (n + 1) (.lf false) B = ([], [.lf false, B]) := by
  unfold cov
  rw [if_pos rfl]
theorem cov_1 (es : List Int) (n : Nat) {A : Bd} (h : A ≠ .lf false) : cov es (n + 1) A (.lf true) = ([([], [], .lf true)], [A, .lf true]) := by
  unfold cov
  rw [if_neg h, if_pos rfl]
theorem cov_s (es : List Int) (n : Nat) {A B : Bd} (h : A ≠ .lf false) (h2 : B ≠ .lf true) : cov es (n + 1) A B = covS es (cov es n) A B (topX A B) := by
  conv => lhs; unfold cov
  rw [if_neg h, if_neg h2]
theorem At.zero {N : Nds} {c : Nat} {A : Bd} (hn : N.Nodup) (h : At N c A) : c = 0 ↔ A = .lf false := ⟨fun z => by subst z; exact h.fn .f, fun z => by subst z; exact h.inj hn .f⟩
theorem At.one {N : Nds} {c : Nat} {A : Bd} (hn : N.Nodup) (h : At N c A) : c = 1 ↔ A = .lf true := ⟨fun z => by subst z; exact h.fn .t, fun z => by subst z; exact h.inj hn .t⟩
def sp_cover (C CW C2 : Addr) (K : PySem.W.Frag) (n : Nat) : Sp := fun vs H Q E => ∃ (s : SA) (N : Nds) (pre es : List Int) (L mc mn k a b : Nat) (A B : Bd) (cv : Addr), vs = [.ref cv, .int ((a : Nat) : Int), .int ((b : Nat) : Int)] ∧ Sto C K H s N (pre ++ es) L ∧ Cv CW H s mc mn k cv ∧ (pre ++ es).length ≤ 4 ∧ es.length < n ∧ At N a A ∧ At N b B ∧ Wf es A ∧ Wf es B ∧ (∀ ρ, A.ev ρ = true → B.ev ρ = true) ∧ k ≤ mc ∧ N.length + wk es.length < 1000000 ∧ L + wk es.length < 1000000 ∧
  ∀ res, res = cov (pre ++ es) n A B → ∀ H' M, FdV cv s H H' → M.length ≤ wk es.length → Sto C K H' s (N ++ M) (pre ++ es) (L + wk es.length) → (CovFit res k mc mn → Cv CW H' s mc mn (k + res.1.length) cv → ∀ r zs, H' r = some (.lst zs) → H r = none → CsL H H' (N ++ M) zs res.1 → Q (.ref r) H') ∧ (¬ CovFit res k mc mn → E (.ref C2) none H')
theorem CsE.onD {H H1 : Hp} {N : Nds} {D : Addr} {o : HO} {z : V} {c : Cse} (hD : H1 D = none) (h : CsE H H1 N z c) : CsE (upd H D o) H1 N z c := by
  obtain ⟨t, p, q, n, e, h1, h2, h3, h4, h5, h6⟩ := h
  exact ⟨t, p, q, n, e, h1, by rw [upd_ne (ne_of_none h3 hD)]; exact h2, h3, by rw [upd_ne (ne_of_none h5 hD)]; exact h4, h5, h6⟩
theorem CsE.updD {H0 H : Hp} {N : Nds} {D : Addr} {o o' : HO} {w0 w : List V} {z : V} {c : Cse} (eD : H D = some (.lst w0)) (h : CsE (upd H0 D o) H N z c) : CsE (upd H0 D o') (upd H D (.lst w)) N z c := by
  obtain ⟨t, p, q, n, e, h1, h2, h3, h4, h5, h6⟩ := h
  have np : p ≠ D := fun z => by
    rw [z, upd_same] at h2
    cases h2
  have nq : q ≠ D := fun z => by
    rw [z, upd_same] at h4
    cases h4
  rw [upd_ne np] at h2
  rw [upd_ne nq] at h4
  exact ⟨t, p, q, n, e, by rw [upd_ne (ne_of h1 eD (fun z => nomatch z))]; exact h1, by rw [upd_ne np]; exact h2, by rw [upd_ne np]; exact h3, by rw [upd_ne nq]; exact h4, by rw [upd_ne nq]; exact h5, h6⟩
theorem CsE.updX {B H : Hp} {N : Nds} {D : Addr} {o : HO} {w0 w : List V} {z : V} {c : Cse} (hB : B D = some o) (eD : H D = some (.lst w0)) (h : CsE B H N z c) : CsE B (upd H D (.lst w)) N z c := by
  obtain ⟨t, p, q, n, e, h1, h2, h3, h4, h5, h6⟩ := h
  exact ⟨t, p, q, n, e, by rw [upd_ne (ne_of h1 eD (fun z => nomatch z))]; exact h1, h2, by rw [upd_ne (ne_of_none hB h2).symm]; exact h3, h4, by rw [upd_ne (ne_of_none hB h4).symm]; exact h5, h6⟩
theorem CsL.snoc {H0 H : Hp} {N : Nds} {zs : List V} {cs : List Cse} {z : V} {c : Cse} (h : CsL H0 H N zs cs) (g : CsE H0 H N z c) : CsL H0 H N (zs ++ [z]) (cs ++ [c]) := h.app (.cons g .nil)
section
variable {P : Program} {w : World} {K : PySem.W.Frag} {mg : Str → Option Value} {base : Heap}
set_option maxHeartbeats 16000000 in
theorem ok_cover (n : Nat) {f C CW C2 : Addr} {fd : FuncData} (F : Fun K "cover" "Cover.cover" s_Cover_cover f fd) (M : Mg mg) (GC : CvG K CW) (G : DgC K C mg) (c_Diagrams_top : ClM P w K mg base 2 C "top" (sp_topL C K)) (c_Diagrams_branches : ClM P w K mg base 2 C "branches" (sp_bra C K)) (c_Diagrams_disjunction : ClM P w K mg base 9 C "disjunction" (sp_op2 C K 6 or)) (c_Diagrams_conjunction : ClM P w K mg base 9 C "conjunction" (sp_op2 C K 6 and)) (c_Cover_but_not : ClM P w K mg base 10 CW "but_not" (sp_bn C CW K 6)) (c_Cover_case_without : ClM P w K mg base 11 CW "case_without" (sp_woi C CW K 6 woC)) (c_Cover_case_with : ClM P w K mg base 11 CW "case_with" (sp_woi C CW K 6 wiC)) (cx_Cover_check_size : ClMX P w K mg base 4 CW "check_size" (sp_chk C CW C2 K)) (cx_Cover_empty_case : ClMX P w K mg base 2 CW "empty_case" (sp_emp CW C2)) (cx_Cover_left_over : ClMX P w K mg base 11 CW "left_over" (sp_lo C CW C2 K 6)) (cx_Cover_cover : ClMX P w K mg base (n + 11) CW "cover" (sp_cover C CW C2 K n)) : FnOk P w K mg base (L2.CX P w) (n + 12) f fd ["self", "low", "high"] (sp_cover C CW C2 K (n + 1)) := by
  refine F.okX sc_Cover_cover (fun vs H Q E h => ?_) (fun cdv A0 outer s0 H vs Q E hr h => ?_)
  · obtain ⟨s, N, pre, es, L, mc, mn, k, a, b, A, B, cv, rfl, _⟩ := h
    rfl
  · obtain ⟨s, N, pre, es, L, mc, mn, k, a, b, A, B, cv, rfl, st, hc, hl4, hn, aA, aB, wA, wB, hle, hk, z1, z2, q⟩ := h
    have hnd := st.nd
    have hsl : (2000000 : Nat) < sizeLine := by decide
    have hp32 : 2 ^ (pre ++ es).length ≤ 16 := by
      have : 2 ^ (pre ++ es).length ≤ 2 ^ 4 := Nat.pow_le_pow_right (by decide) hl4
      omega
    have hsz : ∀ {T : Bd}, Wf es T → T.sz ≤ 1000 := fun hT => by
      have := wf_sz hT
      have h2 : 2 ^ es.length ≤ 2 ^ (pre ++ es).length := Nat.pow_le_pow_right (by decide) (by rw [List.length_append]; omega)
      omega
    obtain ⟨ncp, dx, g1⟩ := id hc
    have q := q _ rfl
    have stL : ∀ {H' : Hp}, Same H H' → Sto C K H' s (N ++ []) (pre ++ es) (L + wk es.length) := fun e => by
      rw [List.append_nil]
      exact (st.ext e).more (by omega)
    refine ⟨_, (pss_cons (ps_expr (pe_mtx cx_Cover_check_size hr (by first | decide | omega) (E := E) (passX (takes_of rfl rfl rfl rfl)) (pv 0) (pa_cons (pv 1) pa_nil)))
      (pss_cons (ps_expr (pe_mtx cx_Cover_check_size hr (by first | decide | omega) (E := E) (passX (takes_of rfl rfl rfl rfl)) (pv 0) (pa_cons (pv 2) pa_nil)))
      (pss_cons (ps_if (pt_cmpR op_eq (pv 1) (C8.pe_gc (by rfl) G.NEVER) (nomark _)) (pss_one (ps_ret (pe_lst pa_nil))) pss_nil)
      (pss_cons (ps_if (pt_cmpR op_eq (pv 2) (C8.pe_gc (by rfl) G.ALWAYS) (nomark _)) (pss_one (ps_ret (pe_lst (pa_cons (pe_mtx0 cx_Cover_empty_case hr (by first | decide | omega) (E := E) (passX (takes_of rfl rfl rfl rfl)) (pv 0)) pa_nil)))) pss_nil)
      (pss_cons (ps_set (i := 3) sc_Cover_cover.nd rfl (.inl rfl) (pe_fld (pv 0) rfl))
      (pss_cons (ps_set (i := 4) sc_Cover_cover.nd rfl (.inr rfl) (pe_mt c_Diagrams_top hr (by first | decide | omega) (pv 3) (pa_cons (pe_lst (pa_cons (pv 1) (pa_cons (pv 2) pa_nil))) pa_nil)))
      (pss_cons (ps_asg (pe_mt c_Diagrams_branches hr (by first | decide | omega) (pv 3) (pa_cons (pv 1) (pa_cons (pv 4) pa_nil))) (pg_tup (by rfl) (pgs_cons (pg_name (i := 5) sc_Cover_cover.nd rfl (.inl rfl)) (pgs_cons (pg_name (i := 6) sc_Cover_cover.nd rfl (.inl rfl)) pgs_nil))))
      (pss_cons (ps_asg (pe_mt c_Diagrams_branches hr (by first | decide | omega) (pv 3) (pa_cons (pv 2) (pa_cons (pv 4) pa_nil))) (pg_tup (by rfl) (pgs_cons (pg_name (i := 7) sc_Cover_cover.nd rfl (.inl rfl)) (pgs_cons (pg_name (i := 8) sc_Cover_cover.nd rfl (.inl rfl)) pgs_nil))))
      (pss_cons (ps_set (i := 9) sc_Cover_cover.nd rfl (.inl rfl) (pe_mtx cx_Cover_cover hr (by first | decide | omega) (E := E) (passX (takes_of rfl rfl rfl rfl)) (pv 0) (pa_cons (pe_mt c_Cover_but_not hr (by first | decide | omega) (pv 0) (pa_cons (pv 5) (pa_cons (pv 8) pa_nil))) (pa_cons (pv 7) pa_nil))))
      (pss_cons (ps_set (i := 10) sc_Cover_cover.nd rfl (.inl rfl) (pe_mtx cx_Cover_cover hr (by first | decide | omega) (E := E) (passX (takes_of rfl rfl rfl rfl)) (pv 0) (pa_cons (pe_mt c_Cover_but_not hr (by first | decide | omega) (pv 0) (pa_cons (pv 6) (pa_cons (pv 7) pa_nil))) (pa_cons (pv 8) pa_nil))))
      (pss_cons (ps_set (i := 11) sc_Cover_cover.nd rfl (.inl rfl) (pe_mt c_Diagrams_disjunction hr (by first | decide | omega) (pv 3) (pa_cons (pe_mtx cx_Cover_left_over hr (by first | decide | omega) (E := E) (passX (takes_of rfl rfl rfl rfl)) (pv 0) (pa_cons (pv 5) (pa_cons (pv 9) pa_nil))) (pa_cons (pe_mtx cx_Cover_left_over hr (by first | decide | omega) (E := E) (passX (takes_of rfl rfl rfl rfl)) (pv 0) (pa_cons (pv 6) (pa_cons (pv 10) pa_nil))) pa_nil))))
      (pss_cons (ps_set (i := 12) sc_Cover_cover.nd rfl (.inl rfl) (pe_mtx cx_Cover_cover hr (by first | decide | omega) (E := E) (passX (takes_of rfl rfl rfl rfl)) (pv 0) (pa_cons (pv 11) (pa_cons (pe_mt c_Diagrams_conjunction hr (by first | decide | omega) (pv 3) (pa_cons (pv 7) (pa_cons (pv 8) pa_nil))) pa_nil))))
      (pss_cons (ps_setLc (i := 13) (own := [("case", 14)]) (g := gName 14) (tt := tYes) rfl sc_Cover_cover.nd rfl rfl (sw_true rfl rfl rfl (by decide +kernel)) (pi_list (pv 9)) (blkOk_by (N := N_Cover_cover) (sc := defScope s_Cover_cover) (by decide +kernel)) (fun _ _ _ _ _ => (pg_name (i := 14) sc_Cover_cover.nd rfl (.inl rfl))) (fun _ _ _ _ _ => pts_nil) (fun _ _ _ _ _ => (pe_mt c_Cover_case_without hr (by first | decide | omega) (pv 0) (pa_cons (pv 4) (pa_cons (pv 14) pa_nil)))))
      (pss_cons (ps_expr (pe_bmK K PySem.F.plainAttrs_list PySem.F.slot_list_extend PySem.F.type_list_extend mt_extend (pv 13) (pa_cons (pe_lc (own := [("case", 14)]) (g := gName 14) (tt := tYes) rfl sc_Cover_cover.nd (pi_list (pv 10)) (blkOk_by (N := N_Cover_cover) (sc := defScope s_Cover_cover) (by decide +kernel)) (fun _ _ _ _ _ => (pg_name (i := 14) sc_Cover_cover.nd rfl (.inl rfl))) (fun _ _ _ _ _ => pts_nil) (fun _ _ _ _ _ => (pe_mt c_Cover_case_with hr (by first | decide | omega) (pv 0) (pa_cons (pv 4) (pa_cons (pv 14) pa_nil))))) pa_nil)))
      (pss_one (ps_ret (pe_op op_cat (pv 13) (pv 12)))))))))))))))))), ?_⟩
    refine ⟨_, rfl, cv, dx, _, rfl, g1, cf_no s mc mn k (by decide +kernel) (by decide +kernel) (by decide +kernel) (by decide +kernel), _, rfl, s, N, pre ++ es, L, mc, mn, k, a, A, cv, rfl, st, hc, aA, hsz wA, fun h1 H1 s1 => ?_, fun h1 H1 s1 => ?_⟩
    rotate_left
    · exact (q H1 [] (FdV.of s1) (Nat.zero_le _) (stL s1)).2 fun fit => by
        have := fit.1 A (cov_low _ _ A B).1
        omega
    refine ⟨_, rfl, cv, dx, _, rfl, s1 _ _ g1, cf_no s mc mn k (by decide +kernel) (by decide +kernel) (by decide +kernel) (by decide +kernel), _, rfl, s, N, pre ++ es, L, mc, mn, k, b, B, cv, rfl, st.ext s1, hc.ext s1, aB, hsz wB, fun h2 H2 s2 => ?_, fun h2 H2 s2 => ?_⟩
    rotate_left
    · exact (q H2 [] (FdV.of (s1.trans s2)) (Nat.zero_le _) (stL (s1.trans s2))).2 fun fit => by
        have := fit.1 B (cov_low _ _ A B).2
        omega
    have s02 := s1.trans s2
    have inat : ∀ {x y : Nat}, decide (V.int ((x : Nat) : Int) = V.int ((y : Nat) : Int)) = true → x = y := fun {x y} e => by
      have := V.int.inj (of_decide_eq_true e)
      omega
    refine ⟨_, rfl, rfl, _, rfl, ite2 (fun e => ?_) (fun e => ?_)⟩
    · obtain rfl : a = 0 := inat (y := 0) e
      obtain rfl := (aA.zero hnd).mp rfl
      refine ⟨by show 0 ≤ sizeLine; decide, fun r nr => ?_⟩
      have s3 := same_upd nr (o := .lst [])
      have q := q _ [] (FdV.of (s02.trans s3)) (Nat.zero_le _) (stL (s02.trans s3))
      rw [cov_0] at q
      exact q.1 ⟨fun T hT => by
        simp only [List.mem_cons, List.not_mem_nil, or_false] at hT
        rcases hT with rfl | rfl
        · exact h1
        · exact h2, hk⟩ (hc.ext (s02.trans s3)) r [] upd_same (s02.free nr) .nil
    have nA : A ≠ .lf false := fun z => e (by rw [(aA.zero hnd).mpr z]; exact decide_eq_true rfl)
    refine ⟨_, rfl, rfl, _, rfl, ite2 (fun e => ?_) (fun e => ?_)⟩
    · obtain rfl : b = 1 := inat (y := 1) e
      obtain rfl := (aB.one hnd).mp rfl
      have fitE : CovFit (cov (pre ++ es) (n + 1) A (.lf true)) k mc mn ↔ k + 1 ≤ mc := by
        rw [cov_1 _ _ nA]
        refine ⟨fun z => z.2, fun z => ⟨fun T hT => ?_, z⟩⟩
        simp only [List.mem_cons, List.not_mem_nil, or_false] at hT
        rcases hT with rfl | rfl
        · exact h1
        · exact h2
      refine ⟨_, rfl, cv, dx, _, rfl, s02 _ _ g1, cf_no s mc mn k (by decide +kernel) (by decide +kernel) (by decide +kernel) (by decide +kernel), s, mc, mn, k, cv, rfl, hc.ext s02, fun hk1 H3 t p p2 f3 hc3 et np ep np2 ep2 => ?_, fun hk1 H3 f3 => ?_⟩
      · refine ⟨by show 1 ≤ sizeLine; decide, fun r nr => ?_⟩
        have s4 := same_upd nr (o := .lst [.ref t])
        have st3 : Sto C K H3 s N (pre ++ es) L := (st.ext s02).fdI (s02 _ _ g1) ncp f3
        have q := q _ [] (((FdV.of s02).trans (FdV.fd f3)).trans (FdV.of s4)) (Nat.zero_le _) (by rw [List.append_nil]; exact (st3.ext s4).more (by omega))
        have fr3 : ∀ b, H3 b = none → H b = none := fun b hb => fdv_free st3 hc3 ((FdV.of s02).trans (FdV.fd f3)) b hb
        refine q.1 (fitE.mpr hk1) (by rw [cov_1 _ _ nA]; exact hc3.ext s4) r [.ref t] upd_same (fr3 _ nr) ?_
        rw [cov_1 _ _ nA]
        exact .cons ⟨t, p, p2, 1, rfl, s4 _ _ et, s02.free np, s4 _ _ ep, s02.free np2, s4 _ _ ep2, .t⟩ .nil
      · have st3 : Sto C K H3 s N (pre ++ es) L := (st.ext s02).fdI (s02 _ _ g1) ncp f3
        exact (q H3 [] ((FdV.of s02).trans (FdV.fd f3)) (Nat.zero_le _) (by rw [List.append_nil]; exact st3.more (by omega))).2 fun fit => by
          have := fitE.mp fit
          omega
    have nB : B ≠ .lf true := fun z => e (by rw [(aB.one hnd).mpr z]; exact decide_eq_true rfl)
    rw [cov_s _ _ nA nB] at q
    have st2 := st.ext s02
    have hc2 := hc.ext s02
    refine ⟨_, rfl, cv, CW, dx, _, _, rfl, s02 _ _ g1, GC.cl, GC.nS, cf_store s mc mn k, ?_⟩
    refine ⟨_, rfl, st2.go (by decide +kernel) (by decide +kernel) (by decide +kernel) ⟨_, rfl, _, rfl, by show 2 ≤ sizeLine; decide, fun l1 n1 => ?_⟩⟩
    have s3 := same_upd n1 (o := .lst [.int ((a : Nat) : Int), .int ((b : Nat) : Int)])
    have el1 : (upd H2 l1 (.lst [.int ((a : Nat) : Int), .int ((b : Nat) : Int)])) l1 = some (.lst [.int ((a : Nat) : Int), .int ((b : Nat) : Int)]) := upd_same
    generalize upd H2 l1 (.lst [.int ((a : Nat) : Int), .int ((b : Nat) : Int)]) = H3 at s3 el1 ⊢
    obtain ⟨lA, lB⟩ := leaf_of ((List.nodup_append.mp st.es_nd).2.1) wA wB hle nA nB
    have a2 : 2 ≤ a := by
      rcases Nat.lt_or_ge a 2 with h | h
      · match a, h, aA with
        | 0, _, aA => exact absurd (aA.fn .f) (lA _)
        | 1, _, aA => exact absurd (aA.fn .t) (lA _)
      · exact h
    refine ⟨s, N, pre ++ es, L, pre, es, l1, [(a, A), (b, B)], rfl, st2.ext s3, el1, rfl, by show 2 ≤ 3; decide, fun c hcm => ?_, ⟨(a, A), List.mem_cons_self, a2⟩, fun H4 pre2 x rest s4 ee hw hex => ?_⟩
    · simp only [List.mem_cons, List.not_mem_nil, or_false] at hcm
      rcases hcm with rfl | rfl
      · exact ⟨aA, wA⟩
      · exact ⟨aB, wB⟩
    subst ee
    have vA := hw (a, A) (by simp)
    have vB := hw (b, B) (by simp)
    have hse := st.srt
    have hsx : (x :: rest).Pairwise (· < ·) := (List.pairwise_append.mp (List.pairwise_append.mp hse).2.1).2.1
    have hx : x ∉ rest := fun z => by
      have := (List.pairwise_cons.mp hsx).1 x z
      omega
    have htop : topX A B = x := by
      refine topX_eq hsx vA vB lA lB ?_
      obtain ⟨c, hcm, w0, t0, e0⟩ := hex
      simp only [List.mem_cons, List.not_mem_nil, or_false] at hcm
      rcases hcm with rfl | rfl
      · exact ⟨w0, t0, .inl e0⟩
      · exact ⟨w0, t0, .inr e0⟩
    rw [htop] at q
    obtain ⟨p3, hp3⟩ : ∃ p3, p3 = (pre ++ pre2) ++ [x] := ⟨_, rfl⟩
    have ees : pre ++ (pre2 ++ x :: rest) = p3 ++ rest := by rw [hp3]; simp
    have ees2 : p3 ++ rest = (pre ++ pre2) ++ x :: rest := by rw [hp3]; simp
    have hW : 3 * wk rest.length + (400 + 260 * 3 ^ rest.length) ≤ wk (pre2 ++ x :: rest).length := wk_le (n := rest.length + 1) (by rw [List.length_append, List.length_cons]; omega)
    have hrn : rest.length < n := by
      rw [List.length_append, List.length_cons] at hn
      omega
    have hT27 : 3 ^ rest.length ≤ 27 := by
      have : rest.length ≤ 3 := by
        rw [List.length_append, List.length_append, List.length_cons] at hl4
        omega
      exact Nat.le_trans (Nat.pow_le_pow_right (by decide) this) (by decide)
    generalize wk (pre2 ++ x :: rest).length = Wt at q hW z1 z2 stL
    obtain ⟨W, hWW⟩ : ∃ W, W = wk rest.length := ⟨_, rfl⟩
    obtain ⟨T3, hT3⟩ : ∃ T3, T3 = 3 ^ rest.length := ⟨_, rfl⟩
    rw [← hWW, ← hT3] at hW
    rw [← hT3] at hT27
    have st4 : Sto C K H4 s N (p3 ++ rest) L := by
      have := (st2.ext s3).ext s4
      rw [ees] at this
      exact this
    rw [ees] at q st hl4 hp32 hse
    have hnE := st.es_nd
    have hO : opB (p3 ++ rest) ≤ 32 := by unfold opB; omega
    obtain ⟨Op, hOp⟩ : ∃ Op, Op = opB (p3 ++ rest) := ⟨_, rfl⟩
    refine ⟨_, rfl, st4.go (by decide +kernel) (by decide +kernel) (by decide +kernel) ⟨_, rfl, _, rfl, ?_⟩⟩
    refine ⟨s, N, p3 ++ rest, L, x, rest, a, A, rfl, st4, aA, vA, hx, fun H5 q5 lw lt s5 e5 alw alt => ?_⟩
    refine ⟨q5, _, rfl, .of e5, rfl, _, _, rfl, _, _, rfl, rfl, ?_⟩
    have st5 := st4.ext s5
    refine ⟨_, rfl, st5.go (by decide +kernel) (by decide +kernel) (by decide +kernel) ⟨_, rfl, _, rfl, ?_⟩⟩
    refine ⟨s, N, p3 ++ rest, L, x, rest, b, B, rfl, st5, aB, vB, hx, fun H6 q6 hw' ht' s6 e6 ahw aht => ?_⟩
    refine ⟨q6, _, rfl, .of e6, rfl, _, _, rfl, _, _, rfl, rfl, ?_⟩
    have s06 := (((s02.trans s3).trans s4).trans s5).trans s6
    have st6 := st5.ext s6
    have hc6 := hc.ext s06
    obtain ⟨aw, eaw⟩ := vA.cw hx
    obtain ⟨at', eat⟩ := vA.ct hx
    obtain ⟨bw, ebw⟩ := vB.cw hx
    obtain ⟨bt, ebt⟩ := vB.ct hx
    have lew : ∀ ρ, (A.cw x).ev ρ = true → (B.cw x).ev ρ = true := fun ρ h => by rw [eaw] at h; rw [ebw]; exact hle _ h
    have let' : ∀ ρ, (A.ct x).ev ρ = true → (B.ct x).ev ρ = true := fun ρ h => by rw [eat] at h; rw [ebt]; exact hle _ h
    obtain ⟨v1, u1⟩ := low_bn hnE aw bt
    obtain ⟨v2, u2⟩ := low_bn hnE at' bw
    have le1 : ∀ ρ, (bnB (p3 ++ rest) (A.cw x) (B.ct x)).ev ρ = true → (B.cw x).ev ρ = true := fun ρ h => by
      rw [u1, Bool.and_eq_true] at h
      exact lew ρ h.1
    have le2 : ∀ ρ, (bnB (p3 ++ rest) (A.ct x) (B.cw x)).ev ρ = true → (B.ct x).ev ρ = true := fun ρ h => by
      rw [u2, Bool.and_eq_true] at h
      exact let' ρ h.1
    have k1 := cov_ok n p3 rest _ _ hse v1 bw le1 hrn
    have k2 := cov_ok n p3 rest _ _ hse v2 bt le2 hrn
    unfold covS at q
    have hcf : ∀ {Hz : Hp} {kz : Nat}, Cv CW Hz s mc mn kz cv → ∃ dz, Hz cv = some (.ins CW dz (cfl s mc mn kz)) := fun h => h.2
    -- without
    refine ⟨_, rfl, cv, dx, _, rfl, s06 _ _ g1, cf_no s mc mn k (by decide +kernel) (by decide +kernel) (by decide +kernel) (by decide +kernel), ?_⟩
    refine ⟨_, rfl, cv, dx, _, rfl, s06 _ _ g1, cf_no s mc mn k (by decide +kernel) (by decide +kernel) (by decide +kernel) (by decide +kernel), _, rfl, _, rfl, s, N, p3, rest, L, mc, mn, k, lw, ht', A.cw x, B.ct x, cv, rfl, st6, hc6, by omega, alw, aht, aw, bt, by omega, by omega, fun H7 M7 r7 f7 l7 st7 a7 => ⟨_, rfl, ?_⟩⟩
    have hc7 := hc6.fds st6 f7
    have f07 : FdV cv s H H7 := (FdV.of s06).trans (FdV.fds f7)
    rw [← hOp] at l7 st7
    refine ⟨s, N ++ M7, p3, rest, _, mc, mn, k, r7, hw', _, B.cw x, cv, rfl, st7, hc7, hl4, hrn, a7, ahw.mono, v1, bw, le1, hk, by rw [List.length_append]; omega, by omega, fun res1 hres1 H8 M8 f8 l8 st8 => ⟨fun fit1 hc8 ra za era nra ca => ?_, fun nf => ?_⟩⟩
    rotate_left
    · rw [List.append_assoc] at st8
      refine (q H8 (M7 ++ M8) (f07.trans f8) (by rw [List.length_append]; omega) (st8.more (by omega))).2 fun fit => nf ?_
      rw [hres1]
      refine ⟨fun T hT => fit.1 T (by simp [hT]), ?_⟩
      have := fit.2
      simp only [List.length_append, List.length_map] at this
      omega
    rw [← hres1] at q k1
    rw [List.append_assoc] at st8 ca
    rw [← hWW] at l8 st8
    obtain ⟨Ma, hMa⟩ : ∃ Ma, Ma = M7 ++ M8 := ⟨_, rfl⟩
    rw [← hMa] at st8 ca
    have lMa : Ma.length ≤ 2 * Op + W := by
      rw [hMa, List.length_append]
      omega
    have f08 := f07.trans f8
    have nra0 := fdv_free st7 hc7 f07 ra nra
    have ca0 : CsL H H8 (N ++ Ma) za res1.1 := CsL.imp (fun z c h => h.weak (fdv_free st7 hc7 f07)) ca
    obtain ⟨dx8, g8⟩ := hcf hc8
    have c1l := k1.len
    rw [← hT3] at c1l
    -- there
    refine ⟨_, rfl, cv, dx8, _, rfl, g8, cf_no s mc mn _ (by decide +kernel) (by decide +kernel) (by decide +kernel) (by decide +kernel), ?_⟩
    refine ⟨_, rfl, cv, dx8, _, rfl, g8, cf_no s mc mn _ (by decide +kernel) (by decide +kernel) (by decide +kernel) (by decide +kernel), _, rfl, _, rfl, s, N ++ Ma, p3, rest, _, mc, mn, _, lt, hw', A.ct x, B.cw x, cv, rfl, st8, hc8, by omega, alt.mono, ahw.mono, at', bw, by rw [List.length_append]; omega, by omega, fun H9 M9 r9 f9 l9 st9 a9 => ⟨_, rfl, ?_⟩⟩
    have hc9 := hc8.fds st8 f9
    have f09 : FdV cv s H H9 := f08.trans (FdV.fds f9)
    rw [← hOp] at l9 st9
    rw [List.append_assoc] at st9 a9
    refine ⟨s, N ++ (Ma ++ M9), p3, rest, _, mc, mn, _, r9, ht', _, B.ct x, cv, rfl, st9, hc9, hl4, hrn, a9, aht.mono, v2, bt, le2, fit1.2, by rw [List.length_append, List.length_append]; omega, by omega, fun res2 hres2 HA MA fA lA stA => ⟨fun fit2 hcA rb zb erb nrb cb => ?_, fun nf => ?_⟩⟩
    rotate_left
    · rw [List.append_assoc] at stA
      refine (q HA ((Ma ++ M9) ++ MA) (f09.trans fA) (by rw [List.length_append, List.length_append]; omega) (stA.more (by omega))).2 fun fit => nf ?_
      rw [hres2]
      refine ⟨fun T hT => fit.1 T (by simp [hT]), ?_⟩
      have := fit.2
      simp only [List.length_append, List.length_map] at this
      omega
    rw [← hres2] at q k2
    rw [List.append_assoc] at stA cb
    rw [← hWW] at lA stA
    obtain ⟨Mb, hMb⟩ : ∃ Mb, Mb = (Ma ++ M9) ++ MA := ⟨_, rfl⟩
    rw [← hMb] at stA cb
    have lMb : Mb.length ≤ 4 * Op + 2 * W := by
      rw [hMb, List.length_append, List.length_append]
      omega
    have f0A := f09.trans fA
    have nrb0 := fdv_free st9 hc9 f09 rb nrb
    have cb0 : CsL H HA (N ++ Mb) zb res2.1 := CsL.imp (fun z c h => h.weak (fdv_free st9 hc9 f09)) cb
    have keepR : ∀ {Ha Hb : Hp} {r : Addr} {o : HO}, H r = none → FdV cv s Ha Hb → Ha r = some o → Hb r = some o := fun hr f h => by
      have n := bu_ne st hr
      exact f _ _ (ne_of_none g1 hr).symm n.1 n.2.1 n.2.2 h
    have ca1 : CsL H HA (N ++ Mb) za res1.1 := CsL.imp (fun z c h => by
      have := (h.keep st hc st8 hc8 ((FdV.fds f9).trans fA)).mono (M := M9 ++ MA)
      rw [List.append_assoc, ← List.append_assoc Ma, ← hMb] at this
      exact this) ca0
    have era1 := keepR nra0 ((FdV.fds f9).trans fA) era
    obtain ⟨dxA, gA⟩ := hcf hcA
    have c2l := k2.len
    rw [← hT3] at c2l
    have hlo1 : (res1.1.length + 1) * O2 (p3 ++ rest) ≤ (T3 + 1) * 64 := Nat.mul_le_mul (by omega) (by unfold O2; omega)
    have hlo2 : (res2.1.length + 1) * O2 (p3 ++ rest) ≤ (T3 + 1) * 64 := Nat.mul_le_mul (by omega) (by unfold O2; omega)
    generalize hX1 : (res1.1.length + 1) * O2 (p3 ++ rest) = X1 at hlo1
    generalize hX2 : (res2.1.length + 1) * O2 (p3 ++ rest) = X2 at hlo2
    -- the rest
    refine ⟨_, rfl, stA.go (by decide +kernel) (by decide +kernel) (by decide +kernel) ⟨_, rfl, cv, dxA, _, rfl, gA, cf_no s mc mn _ (by decide +kernel) (by decide +kernel) (by decide +kernel) (by decide +kernel), _, rfl, _, rfl, H, s, N ++ Mb, p3, rest, _, mc, mn, _, lw, A.cw x, cv, ra, za, res1.1, N, L, k, rfl, stA, hcA, st, hc, f0A, by omega, by omega, alw.mono, aw, era1, nra0, ca1, k1.wf, by omega, by rw [hX1, List.length_append]; omega, by rw [hX1]; omega, fun HB MB fB lB stB => ⟨fun fm1 rB aB1 => ?_, fun nf => ?_⟩⟩⟩
    rotate_left
    · rw [List.append_assoc] at stB
      rw [hX1] at lB stB
      refine (q HB (Mb ++ MB) (f0A.trans (FdV.fds fB)) (by rw [List.length_append]; omega) (stB.more (by omega))).2 fun fit => nf fun T hT => fit.1 T ?_
      simp only [List.mem_append] at hT ⊢
      rcases hT with hT | hT
      · simp [hT]
      · simp [hT]
    rw [List.append_assoc] at stB aB1
    rw [hX1] at lB stB
    obtain ⟨Mc, hMc⟩ : ∃ Mc, Mc = Mb ++ MB := ⟨_, rfl⟩
    have e2c : ∀ Z : Nds, Mb ++ (MB ++ Z) = Mc ++ Z := fun Z => by rw [hMc, List.append_assoc]
    rw [← hMc] at stB aB1
    have lMc : Mc.length ≤ 4 * Op + 2 * W + X1 := by
      rw [hMc, List.length_append]
      omega
    have f0B := f0A.trans (FdV.fds fB)
    have hcB := hcA.fds stA fB
    obtain ⟨dxB, gB⟩ := hcf hcB
    have caB : CsL H HB (N ++ Mc) za res1.1 := CsL.imp (fun z c h => by
      have := (h.keep st hc stA hcA (FdV.fds fB)).mono (M := MB)
      rw [List.append_assoc, ← hMc] at this
      exact this) ca1
    have cbB : CsL H HB (N ++ Mc) zb res2.1 := CsL.imp (fun z c h => by
      have := (h.keep st hc stA hcA (FdV.fds fB)).mono (M := MB)
      rw [List.append_assoc, ← hMc] at this
      exact this) cb0
    have eraB := keepR nra0 (FdV.fds fB) era1
    have erbB := keepR nrb0 (FdV.fds fB) erb
    refine ⟨_, rfl, cv, dxB, _, rfl, gB, cf_no s mc mn _ (by decide +kernel) (by decide +kernel) (by decide +kernel) (by decide +kernel), _, rfl, _, rfl, H, s, N ++ Mc, p3, rest, _, mc, mn, _, lt, A.ct x, cv, rb, zb, res2.1, N, L, k, rfl, stB, hcB, st, hc, f0B, by omega, by omega, alt.mono, at', erbB, nrb0, cbB, k2.wf, by omega, by rw [hX2, List.length_append]; omega, by rw [hX2]; omega, fun HC MC fC lC stC => ⟨fun fm2 rC aC1 => ?_, fun nf => ?_⟩⟩
    rotate_left
    · rw [List.append_assoc] at stC
      rw [hX2] at lC stC
      refine (q HC (Mc ++ MC) (f0B.trans (FdV.fds fC)) (by rw [List.length_append]; omega) (stC.more (by omega))).2 fun fit => nf fun T hT => fit.1 T ?_
      simp only [List.mem_append] at hT ⊢
      rcases hT with hT | hT
      · simp [hT]
      · simp [hT]
    rw [List.append_assoc] at stC aC1
    rw [hX2] at lC stC
    have aB2 : At (N ++ (Mc ++ MC)) rB (bnB (p3 ++ rest) (A.cw x) (apB (p3 ++ rest) (apl res1.1))) := by
      rw [← List.append_assoc]
      exact aB1.mono
    obtain ⟨Md, hMd⟩ : ∃ Md, Md = Mc ++ MC := ⟨_, rfl⟩
    rw [← hMd] at stC aC1 aB2
    have lMd : Md.length ≤ 4 * Op + 2 * W + X1 + X2 := by
      rw [hMd, List.length_append]
      omega
    have f0C := f0B.trans (FdV.fds fC)
    have hcC := hcB.fds stB fC
    have caC : CsL H HC (N ++ Md) za res1.1 := CsL.imp (fun z c h => by
      have := (h.keep st hc stB hcB (FdV.fds fC)).mono (M := MC)
      rw [List.append_assoc, ← hMd] at this
      exact this) caB
    have cbC : CsL H HC (N ++ Md) zb res2.1 := CsL.imp (fun z c h => by
      have := (h.keep st hc stB hcB (FdV.fds fC)).mono (M := MC)
      rw [List.append_assoc, ← hMd] at this
      exact this) cbB
    have eraC := keepR nra0 (FdV.fds fC) eraB
    have erbC := keepR nrb0 (FdV.fds fC) erbB
    have wap : ∀ (cs : List Cse), (∀ c ∈ cs, Wf rest c.2.2) → Wf rest (apB (p3 ++ rest) (apl cs)) ∧ ∀ ρ, (apB (p3 ++ rest) (apl cs)).ev ρ = (apl cs).any fun a => a.ev ρ := fun cs h => low_ap hnE fun a ha => by
      obtain ⟨c, hcm, rfl⟩ := List.mem_map.mp ha
      exact h c hcm
    obtain ⟨wa1, ea1⟩ := wap res1.1 k1.wf
    obtain ⟨wa2, ea2⟩ := wap res2.1 k2.wf
    obtain ⟨wr1, er1⟩ := low_bn hnE aw wa1
    obtain ⟨wr2, er2⟩ := low_bn hnE at' wa2
    obtain ⟨wr, er⟩ := low_or hnE wr1 wr2
    obtain ⟨wb, eb⟩ := low_an hnE bw bt
    refine ⟨s, N ++ Md, p3 ++ rest, _, rB, rC, _, _, rfl, stC, by omega, aB2, aC1, wr1.skips p3, wr2.skips p3, by rw [List.length_append]; omega, by omega, fun HD MD rD TD fD lD stD aD wD eD => ?_⟩
    have hTD : orB (p3 ++ rest) (bnB (p3 ++ rest) (A.cw x) (apB (p3 ++ rest) (apl res1.1))) (bnB (p3 ++ rest) (A.ct x) (apB (p3 ++ rest) (apl res2.1))) = TD := cn_eq hnE wD fun ρ => by rw [eD]
    rw [← hOp] at lD stD
    rw [List.append_assoc] at stD aD
    have hcD := hcC.fds stC fD
    obtain ⟨dxD, gD⟩ := hcf hcD
    -- both
    refine ⟨_, rfl, cv, dxD, _, rfl, gD, cf_no s mc mn _ (by decide +kernel) (by decide +kernel) (by decide +kernel) (by decide +kernel), _, rfl, _, rfl, stD.go (by decide +kernel) (by decide +kernel) (by decide +kernel) ⟨_, rfl, _, rfl, s, N ++ (Md ++ MD), p3 ++ rest, _, hw', ht', B.cw x, B.ct x, rfl, stD, by omega, ahw.mono, aht.mono, bw.skips p3, bt.skips p3, by rw [List.length_append, List.length_append]; omega, by omega, fun HE ME rE TE fE lE stE aE wE eE => ?_⟩⟩
    have hTE : anB (p3 ++ rest) (B.cw x) (B.ct x) = TE := cn_eq hnE wE fun ρ => by rw [eE]
    rw [← hOp] at lE stE
    have aD2 := aD.mono (M := ME)
    rw [List.append_assoc] at stE aE aD2
    obtain ⟨Me, hMe⟩ : ∃ Me, Me = Md ++ (MD ++ ME) := ⟨_, rfl⟩
    have e2e : (Md ++ MD) ++ ME = Me := by rw [hMe, List.append_assoc]
    rw [e2e] at stE aE aD2
    have lMe : Me.length ≤ 6 * Op + 2 * W + X1 + X2 := by
      rw [hMe, List.length_append, List.length_append]
      omega
    have fCE : FdS s HC HE := fD.trans fE
    have f0E := f0C.trans (FdV.fds fCE)
    have hcE := hcD.fds stD fE
    have caE : CsL H HE (N ++ Me) za res1.1 := CsL.imp (fun z c h => by
      have := (h.keep st hc stC hcC (FdV.fds fCE)).mono (M := MD ++ ME)
      rw [List.append_assoc, ← hMe] at this
      exact this) caC
    have cbE : CsL H HE (N ++ Me) zb res2.1 := CsL.imp (fun z c h => by
      have := (h.keep st hc stC hcC (FdV.fds fCE)).mono (M := MD ++ ME)
      rw [List.append_assoc, ← hMe] at this
      exact this) cbC
    have eraE := keepR nra0 (FdV.fds fCE) eraC
    have erbE := keepR nrb0 (FdV.fds fCE) erbC
    have le3 : ∀ ρ, TD.ev ρ = true → TE.ev ρ = true := fun ρ h => by
      rw [← hTD, er, Bool.or_eq_true] at h
      rw [← hTE, eb, Bool.and_eq_true]
      rcases h with h | h
      · rw [er1, Bool.and_eq_true] at h
        refine ⟨lew ρ h.1, ?_⟩
        cases e : (B.ct x).ev ρ with
        | true => rfl
        | false =>
          have := k1.up ρ (by rw [u1, h.1, e]; rfl)
          rw [ea1, this] at h
          cases h.2
      · rw [er2, Bool.and_eq_true] at h
        refine ⟨?_, let' ρ h.1⟩
        cases e : (B.cw x).ev ρ with
        | true => rfl
        | false =>
          have := k2.up ρ (by rw [u2, h.1, e]; rfl)
          rw [ea2, this] at h
          cases h.2
    rw [hTD, hTE] at q
    rw [hTD] at wr
    rw [hTE] at wb
    have k3 := cov_ok n p3 rest _ _ hse wr wb le3 hrn
    refine ⟨s, N ++ Me, p3, rest, _, mc, mn, _, rD, rE, TD, TE, cv, rfl, stE, hcE, hl4, hrn, aD2, aE, wr, wb, le3, fit2.2, by rw [List.length_append]; omega, by omega, fun res3 hres3 HF MF fF lF stF => ⟨fun fit3 hcF rc zc erc nrc cc => ?_, fun nf => ?_⟩⟩
    rotate_left
    · rw [List.append_assoc] at stF
      refine (q HF (Me ++ MF) (f0E.trans fF) (by rw [List.length_append]; omega) (stF.more (by omega))).2 fun fit => nf ?_
      rw [hres3]
      refine ⟨fun T hT => fit.1 T (by simp [hT]), ?_⟩
      have := fit.2
      simp only [List.length_append, List.length_map] at this
      omega
    rw [← hres3] at q k3
    rw [List.append_assoc] at stF cc
    rw [← hWW] at lF stF
    obtain ⟨Mf, hMf⟩ : ∃ Mf, Mf = Me ++ MF := ⟨_, rfl⟩
    rw [← hMf] at stF cc
    have lMf : Mf.length ≤ 6 * Op + 3 * W + X1 + X2 := by
      rw [hMf, List.length_append]
      omega
    have f0F := f0E.trans fF
    have nrc0 := fdv_free stE hcE f0E rc nrc
    have cc0 : CsL H HF (N ++ Mf) zc res3.1 := CsL.imp (fun z c h => h.weak (fdv_free stE hcE f0E)) cc
    have caF : CsL H HF (N ++ Mf) za res1.1 := CsL.imp (fun z c h => by
      have := (h.keep st hc stE hcE fF).mono (M := MF)
      rw [List.append_assoc, ← hMf] at this
      exact this) caE
    have cbF : CsL H HF (N ++ Mf) zb res2.1 := CsL.imp (fun z c h => by
      have := (h.keep st hc stE hcE fF).mono (M := MF)
      rw [List.append_assoc, ← hMf] at this
      exact this) cbE
    have eraF := keepR nra0 fF eraE
    have erbF := keepR nrb0 fF erbE
    have c3l := k3.len
    rw [← hT3] at c3l
    -- the cases of both sides
    have stF := stF.more (L' := L + (6 * Op + 3 * W + X1 + X2)) (by omega)
    generalize hLf : L + (6 * Op + 3 * W + X1 + X2) = Lf at stF
    obtain ⟨kF, hkF⟩ : ∃ kF, kF = k + res1.1.length + res2.1.length + res3.1.length := ⟨_, rfl⟩
    rw [← hkF] at hcF
    have l3 : rest.length ≤ 4 := by
      rw [List.length_append] at hl4
      omega
    refine ⟨_, rfl, ra, rfl, ⟨_, .of eraF⟩, fun D nD => ?_⟩
    have nD0 := fdv_free stF hcF f0F D nD
    have nDk := bu_ne stF nD
    refine lc_list (K := K) (a := ra) (xs := za) (fun j Hj => FdS s HF Hj ∧ ∃ Mj ys, Mj.length ≤ j * 65 ∧ Sto C K Hj s (N ++ (Mf ++ Mj)) (p3 ++ rest) (Lf + j * 65) ∧ Hj D = some (.lst ys) ∧ CsL (upd H D (.lst ys)) Hj (N ++ (Mf ++ Mj)) ys ((res1.1.take j).map (woC (p3 ++ rest) x))) ⟨FdS.of (same_upd nD), [], [], Nat.zero_le _, by rw [List.append_nil, Nat.zero_mul]; exact stF.ext (same_upd nD), upd_same, .nil⟩ (fun j Hj _ hp => .of (keepR nra0 (FdV.fds hp.1) eraF)) (fun j y Hj hy hp => ?_) (fun HG hp => ?_)
    · obtain ⟨fj, Mj, ys, lMj, stj, eDj, cj⟩ := hp
      have hj : j < res1.1.length := by rw [← caF.len]; exact (List.getElem?_eq_some_iff.mp hy).1
      obtain ⟨z, hz, hE⟩ := caF.get (List.getElem?_eq_getElem hj)
      obtain rfl : z = y := Option.some.inj (hz.symm.trans hy)
      have wc := k1.wf _ (List.getElem_mem hj)
      have sc := k1.sub _ (List.getElem_mem hj)
      have hm := List.getElem?_eq_getElem hj
      generalize res1.1[j] = c at hE wc sc hm
      have sc1 := sc.1.length_le
      have sc2 := sc.2.length_le
      have stb : Sto C K (upd H D (.lst ys)) s N (p3 ++ rest) L := st.ext (same_upd nD0)
      have hcb : Cv CW (upd H D (.lst ys)) s mc mn k cv := hc.ext (same_upd nD0)
      have hcj := hcF.fds stF fj
      obtain ⟨dxj, gj⟩ := hcf hcj
      have hE2 := ((hE.onD (o := .lst ys) nD).keep stb hcb stF hcF (FdV.fds fj)).mono (M := Mj)
      rw [List.append_assoc] at hE2
      have fb : FdV cv s (upd H D (.lst ys)) Hj := fun b o n n1 n2 n3 h => by
        by_cases hb : b = D
        · subst hb
          rw [upd_same] at h
          rw [eDj, Option.some.inj h]
        · rw [upd_ne hb] at h
          exact fj _ _ n1 n2 n3 (f0F _ _ n n1 n2 n3 h)
      have hm9 : (j + 1) * 65 ≤ T3 * 65 := Nat.mul_le_mul_right _ (by omega)
      have lys := cj.len
      rw [List.length_map, List.length_take] at lys
      rw [ees2] at stj stb
      refine ⟨rfl, _, rfl, cv, dxj, _, rfl, gj, cf_no s mc mn _ (by decide +kernel) (by decide +kernel) (by decide +kernel) (by decide +kernel), _, rfl, _, rfl, _, s, _, pre ++ pre2, rest, _, mc, mn, _, x, cv, z, c, N, L, k, rfl, stj, hcj, stb, hcb, fb, by rw [← ees2]; omega, hE2, wc, by omega, by omega, by rw [← ees2, ← hOp, List.length_append, List.length_append]; omega, by rw [← ees2, ← hOp]; omega, fun H' M' t f' l' st' ce => ?_⟩
      rw [← ees2] at l' st' ce
      rw [← hOp] at l' st'
      rw [← ees2] at stj stb
      rw [List.append_assoc, List.append_assoc] at st' ce
      have eD' := f' _ _ nDk.1 nDk.2.1 nDk.2.2 eDj
      refine ⟨_, eD', ?_, fun b o n1 n2 n3 h => ?_, Mj ++ M', ys ++ [.ref t], ?_, ?_, upd_same, ?_⟩
      · exact Nat.lt_of_le_of_lt (m := 100) (by omega) (by decide)
      · rw [upd_ne (ne_of_none h nD)]
        exact f' _ _ n1 n2 n3 (fj _ _ n1 n2 n3 h)
      · rw [List.length_append]
        omega
      · exact (st'.fd ⟨_, eD'⟩ nDk.1 Fd.at).more (by omega)
      · rw [List.take_add_one, hm, List.map_append]
        refine CsL.snoc (CsL.imp (fun z c h => ?_) cj) (ce.updD eD')
        have := ((h.keep stb hcb stj hcj (FdV.fds f')).mono (M := M')).updD (o' := .lst (ys ++ [.ref t])) (w := ys ++ [.ref t]) eD'
        rw [List.append_assoc, List.append_assoc] at this
        exact this
    obtain ⟨fG, Mg, ys1, lMg, stG, eDG, cG⟩ := hp
    rw [caF.len, List.take_of_length_le (Nat.le_refl _)] at cG
    rw [caF.len] at lMg stG
    have lmg : res1.1.length * 65 ≤ T3 * 65 := Nat.mul_le_mul_right _ c1l
    have hcG := hcF.fds stF fG
    obtain ⟨Mh, hMh⟩ : ∃ Mh, Mh = Mf ++ Mg := ⟨_, rfl⟩
    rw [← hMh] at stG cG
    have lMh : Mh.length ≤ 6 * Op + 3 * W + X1 + X2 + T3 * 65 := by
      rw [hMh, List.length_append]
      omega
    have stG := stG.more (L' := Lf + T3 * 65) (by omega)
    have f0G := f0F.trans (FdV.fds fG)
    have erbG := keepR nrb0 (FdV.fds fG) erbF
    have ercG := keepR nrc0 (FdV.fds fG) erc
    have cbG : CsL (upd H D (.lst ys1)) HG (N ++ Mh) zb res2.1 := CsL.imp (fun z c h => by
      have := ((h.onD (o := .lst ys1) nD).keep (st.ext (same_upd nD0)) (hc.ext (same_upd nD0)) stF hcF (FdV.fds fG)).mono (M := Mg)
      rw [List.append_assoc, ← hMh] at this
      exact this) cbF
    obtain ⟨Hb, hHb⟩ : ∃ Hb, Hb = upd H D (.lst ys1) := ⟨_, rfl⟩
    have sb : Same H Hb := by rw [hHb]; exact same_upd nD0
    have eDb : Hb D = some (.lst ys1) := by rw [hHb]; exact upd_same
    rw [← hHb] at cbG cG
    have stb0 := st.ext sb
    have hcb0 := hc.ext sb
    have fbG : FdV cv s Hb HG := fun b o n n1 n2 n3 h => by
      by_cases hb : b = D
      · subst hb
        rw [eDb] at h
        rw [eDG, Option.some.inj h]
      · rw [hHb, upd_ne hb] at h
        exact f0G _ _ n n1 n2 n3 h
    refine ⟨_, rfl, .inl ⟨rfl, _, .inl (.inl eDG)⟩, _, rfl, rb, rfl, ⟨_, .of erbG⟩, fun D2 nD2 => ?_⟩
    have nD20 := fdv_free stG hcG fbG D2 nD2
    have nD2k := bu_ne stG nD2
    have nDD2 : D ≠ D2 := ne_of_none eDG nD2
    refine lc_list (K := K) (a := rb) (xs := zb) (fun j Hj => FdS s HG Hj ∧ ∃ Mj ys, Mj.length ≤ j * 65 ∧ Sto C K Hj s (N ++ (Mh ++ Mj)) (p3 ++ rest) ((Lf + T3 * 65) + j * 65) ∧ Hj D2 = some (.lst ys) ∧ CsL (upd Hb D2 (.lst ys)) Hj (N ++ (Mh ++ Mj)) ys ((res2.1.take j).map (wiC (p3 ++ rest) x))) ⟨FdS.of (same_upd nD2), [], [], Nat.zero_le _, by rw [List.append_nil, Nat.zero_mul]; exact stG.ext (same_upd nD2), upd_same, .nil⟩ (fun j Hj _ hp => .of (keepR nrb0 (FdV.fds hp.1) erbG)) (fun j y Hj hy hp => ?_) (fun HK hp => ?_)
    · obtain ⟨fj, Mj, ys, lMj, stj, eDj, cj⟩ := hp
      have hj : j < res2.1.length := by rw [← cbG.len]; exact (List.getElem?_eq_some_iff.mp hy).1
      obtain ⟨z, hz, hE⟩ := cbG.get (List.getElem?_eq_getElem hj)
      obtain rfl : z = y := Option.some.inj (hz.symm.trans hy)
      have wc := k2.wf _ (List.getElem_mem hj)
      have sc := k2.sub _ (List.getElem_mem hj)
      have hm := List.getElem?_eq_getElem hj
      generalize res2.1[j] = c at hE wc sc hm
      have sc1 := sc.1.length_le
      have sc2 := sc.2.length_le
      have stb : Sto C K (upd Hb D2 (.lst ys)) s N (p3 ++ rest) L := stb0.ext (same_upd nD20)
      have hcb : Cv CW (upd Hb D2 (.lst ys)) s mc mn k cv := hcb0.ext (same_upd nD20)
      have hcj := hcG.fds stG fj
      obtain ⟨dxj, gj⟩ := hcf hcj
      have hE2 := ((hE.onD (o := .lst ys) nD2).keep stb hcb stG hcG (FdV.fds fj)).mono (M := Mj)
      rw [List.append_assoc] at hE2
      have fb : FdV cv s (upd Hb D2 (.lst ys)) Hj := fun b o n n1 n2 n3 h => by
        by_cases hb : b = D2
        · subst hb
          rw [upd_same] at h
          rw [eDj, Option.some.inj h]
        · rw [upd_ne hb] at h
          exact fj _ _ n1 n2 n3 (fbG _ _ n n1 n2 n3 h)
      have hm9 : (j + 1) * 65 ≤ T3 * 65 := Nat.mul_le_mul_right _ (by omega)
      have lys := cj.len
      rw [List.length_map, List.length_take] at lys
      rw [ees2] at stj stb
      refine ⟨rfl, _, rfl, cv, dxj, _, rfl, gj, cf_no s mc mn _ (by decide +kernel) (by decide +kernel) (by decide +kernel) (by decide +kernel), _, rfl, _, rfl, _, s, _, pre ++ pre2, rest, _, mc, mn, _, x, cv, z, c, N, L, k, rfl, stj, hcj, stb, hcb, fb, by rw [← ees2]; omega, hE2, wc, by omega, by omega, by rw [← ees2, ← hOp, List.length_append, List.length_append]; omega, by rw [← ees2, ← hOp]; omega, fun H' M' t f' l' st' ce => ?_⟩
      rw [← ees2] at l' st' ce
      rw [← hOp] at l' st'
      rw [← ees2] at stj stb
      rw [List.append_assoc, List.append_assoc] at st' ce
      have eD' := f' _ _ nD2k.1 nD2k.2.1 nD2k.2.2 eDj
      refine ⟨_, eD', ?_, fun b o n1 n2 n3 h => ?_, Mj ++ M', ys ++ [.ref t], ?_, ?_, upd_same, ?_⟩
      · exact Nat.lt_of_le_of_lt (m := 100) (by omega) (by decide)
      · rw [upd_ne (ne_of_none h nD2)]
        exact f' _ _ n1 n2 n3 (fj _ _ n1 n2 n3 h)
      · rw [List.length_append]
        omega
      · exact (st'.fd ⟨_, eD'⟩ nD2k.1 Fd.at).more (by omega)
      · rw [List.take_add_one, hm, List.map_append]
        refine CsL.snoc (CsL.imp (fun z c h => ?_) cj) (ce.updD eD')
        have := ((h.keep stb hcb stj hcj (FdV.fds f')).mono (M := M')).updD (o' := .lst (ys ++ [.ref t])) (w := ys ++ [.ref t]) eD'
        rw [List.append_assoc, List.append_assoc] at this
        exact this
    obtain ⟨fK, Mk, ys2, lMk, stK, eD2K, cK⟩ := hp
    rw [cbG.len, List.take_of_length_le (Nat.le_refl _)] at cK
    rw [cbG.len] at lMk stK
    have lmk : res2.1.length * 65 ≤ T3 * 65 := Nat.mul_le_mul_right _ c2l
    have hcK := hcG.fds stG fK
    obtain ⟨Mi, hMi⟩ : ∃ Mi, Mi = Mh ++ Mk := ⟨_, rfl⟩
    rw [← hMi] at stK cK
    have eDK := fK _ _ nDk.1 nDk.2.1 nDk.2.2 eDG
    have ercK := keepR nrc0 (FdV.fds fK) ercG
    have ly1 := cG.len
    have ly2 := cK.len
    have lzc := cc0.len
    rw [List.length_map] at ly1 ly2
    have cGK : CsL Hb HK (N ++ Mi) ys1 (res1.1.map (woC (p3 ++ rest) x)) := CsL.imp (fun z c h => by
      have := (h.keep stb0 hcb0 stG hcG (FdV.fds fK)).mono (M := Mk)
      rw [List.append_assoc, ← hMi] at this
      exact this) cG
    have ccK : CsL (upd H D (.lst [])) HK (N ++ Mi) zc res3.1 := CsL.imp (fun z c h => by
      have := ((h.onD (o := .lst []) nD).keep (st.ext (same_upd nD0)) (hc.ext (same_upd nD0)) stF hcF (FdV.fds (fG.trans fK))).mono (M := Mg ++ Mk)
      rw [List.append_assoc, ← List.append_assoc Mf, ← hMh, ← hMi] at this
      exact this) cc0
    refine ⟨D, D2, ys1, ys2, rfl, rfl, eDK, eD2K, Nat.le_trans (m := 100) (by omega) (by decide), ?_⟩
    have lMi : Mi.length ≤ Wt := by
      rw [hMi, List.length_append]
      omega
    obtain ⟨dxK, gK⟩ := hcf hcK
    have stL' := stK.fd ⟨_, eDK⟩ nDk.1 (Fd.at (o := .lst (ys1 ++ ys2)))
    have hcL : Cv CW (upd HK D (.lst (ys1 ++ ys2))) s mc mn kF cv := ⟨ncp, dxK, by rw [upd_ne (ne_of gK eDK (fun z => nomatch z))]; exact gK⟩
    have ercL : (upd HK D (.lst (ys1 ++ ys2))) rc = some (.lst zc) := by
      rw [upd_ne (ne_of_none erc nD)]
      exact ercK
    have f0L : FdV cv s H (upd HK D (.lst (ys1 ++ ys2))) := fun b o n n1 n2 n3 h => by
      rw [upd_ne (ne_of_none h nD0)]
      exact fK _ _ n1 n2 n3 (f0G _ _ n n1 n2 n3 h)
    have wkH : ∀ (o : HO) (b : Addr), (upd H D o) b = none → H b = none := fun o b h => by
      by_cases hb : b = D
      · rw [hb]
        exact nD0
      · rw [upd_ne hb] at h
        exact h
    have p1 : CsL H (upd HK D (.lst (ys1 ++ ys2))) (N ++ Mi) ys1 (res1.1.map (woC (p3 ++ rest) x)) := CsL.imp (fun z c h => by
      rw [hHb] at h
      exact (h.updD (o' := .lst []) (w := ys1 ++ ys2) eDK).weak (wkH _)) cGK
    have p2 : CsL H (upd HK D (.lst (ys1 ++ ys2))) (N ++ Mi) ys2 (res2.1.map (wiC (p3 ++ rest) x)) := CsL.imp (fun z c h => by
      refine (h.updX (o := .lst ys1) (w := ys1 ++ ys2) (by rw [upd_ne nDD2]; exact eDb) eDK).weak fun b hb => ?_
      by_cases hb2 : b = D2
      · rw [hb2]
        have := nD20
        rw [hHb] at this
        exact wkH _ _ this
      · rw [upd_ne hb2, hHb] at hb
        exact wkH _ _ hb) cK
    have p3' : CsL H (upd HK D (.lst (ys1 ++ ys2))) (N ++ Mi) zc res3.1 := CsL.imp (fun z c h => (h.updD (o' := .lst []) (w := ys1 ++ ys2) eDK).weak (wkH _)) ccK
    generalize hHL : upd HK D (.lst (ys1 ++ ys2)) = HL at stL' hcL ercL f0L p1 p2 p3' ⊢
    have eDL : HL D = some (.lst (ys1 ++ ys2)) := by rw [← hHL]; exact upd_same
    refine ⟨_, rfl, _, rfl, D, rc, _, _, rfl, rfl, eDL, ercL, by rw [List.length_append]; exact Nat.le_trans (m := 100) (by omega) (by decide), fun r nr => ?_⟩
    have sr := same_upd nr (o := .lst ((ys1 ++ ys2) ++ zc))
    refine (q _ Mi (f0L.trans (FdV.of sr)) lMi ((stL'.ext sr).more (by omega))).1 ⟨fun T hT => ?_, ?_⟩ ?_ r _ upd_same (fdv_free stL' hcL f0L r nr) ?_
    · simp only [List.mem_append] at hT
      rcases hT with ((((hT | hT) | hT) | hT) | hT) | hT
      · simp only [List.mem_cons, List.not_mem_nil, or_false] at hT
        rcases hT with rfl | rfl
        · exact h1
        · exact h2
      · exact fit1.1 T hT
      · exact fit2.1 T hT
      · exact fm1 T (List.mem_append.mpr hT)
      · exact fm2 T (List.mem_append.mpr hT)
      · exact fit3.1 T hT
    · have := fit3.2
      simp only [List.length_append, List.length_map]
      omega
    · have e : k + ((res1.1.map (woC (p3 ++ rest) x) ++ res2.1.map (wiC (p3 ++ rest) x)) ++ res3.1).length = kF := by
        simp only [List.length_append, List.length_map]
        omega
      show Cv CW _ s mc mn (k + ((res1.1.map (woC (p3 ++ rest) x) ++ res2.1.map (wiC (p3 ++ rest) x)) ++ res3.1).length) cv
      rw [e]
      exact hcL.ext sr
    · exact CsL.imp (fun z c h => h.same sr) ((p1.app p2).app p3')
end

/-! ### cases -/
def caD (c : Cse) : PyData := .tuple [.list (c.1.map PyData.int), .list (c.2.1.map PyData.int)]
/-! ### the laws' covers: whether one of some cases applies -/
def L2E (H0 H : Hp) (z : V) (c : Cse) : Prop := ∃ t p q, z = .ref t ∧ H t = some (.tup [.ref p, .ref q]) ∧ H0 p = none ∧ H p = some (.lst (c.1.map V.int)) ∧ H0 q = none ∧ H q = some (.lst (c.2.1.map V.int))
inductive L2L (H0 H : Hp) : List V → List Cse → Prop
  | nil : L2L H0 H [] []
  | cons {z : V} {zs : List V} {c : Cse} {cs : List Cse} : L2E H0 H z c → L2L H0 H zs cs → L2L H0 H (z :: zs) (c :: cs)
theorem L2L.len {H0 H : Hp} : ∀ {zs : List V} {cs : List Cse}, L2L H0 H zs cs → zs.length = cs.length
  | _, _, .nil => rfl
  | _, _, .cons _ h => congrArg (· + 1) (L2L.len h)
theorem L2L.get {H0 H : Hp} : ∀ {zs : List V} {cs : List Cse} {i : Nat} {c : Cse}, L2L H0 H zs cs → cs[i]? = some c → ∃ z, zs[i]? = some z ∧ L2E H0 H z c
  | _, _, i, c, .nil, h => by simp at h
  | _, _, 0, c, .cons (z := z) h1 h2, h => ⟨z, rfl, by cases (Option.some.inj (show some _ = some c from h)); exact h1⟩
  | _, _, i + 1, c, .cons h1 h2, h => by
    obtain ⟨z, g1, g2⟩ := L2L.get h2 (show _ = some c by simpa using h)
    exact ⟨z, by simpa using g1, g2⟩
theorem L2L.app {H0 H : Hp} : ∀ {zs ys : List V} {cs ds : List Cse}, L2L H0 H zs cs → L2L H0 H ys ds → L2L H0 H (zs ++ ys) (cs ++ ds)
  | _, _, _, _, .nil, h => h
  | _, _, _, _, .cons h1 h2, h => .cons h1 (L2L.app h2 h)
theorem L2L.imp {H0 H H1 H2 : Hp} (f : ∀ z c, L2E H0 H z c → L2E H1 H2 z c) : ∀ {zs : List V} {cs : List Cse}, L2L H0 H zs cs → L2L H1 H2 zs cs
  | _, _, .nil => .nil
  | _, _, .cons h1 h2 => .cons (f _ _ h1) (L2L.imp f h2)
theorem L2E.fd {H0 H H' : Hp} {me : Addr} {o : HO} {w : List V} {z : V} {c : Cse} (h0 : H0 me = some o) (h1 : H me = some (.lst w)) (f : Fd me H H') (h : L2E H0 H z c) : L2E H0 H' z c := by
  obtain ⟨t, p, q, e, g1, g2, g3, g4, g5⟩ := h
  exact ⟨t, p, q, e, f _ _ (ne_of g1 h1 (fun z => nomatch z)) g1, g2, f _ _ (ne_of_none h0 g2).symm g3, g4, f _ _ (ne_of_none h0 g4).symm g5⟩
def LitOk (es : List Int) (c : Cse) : Prop := Wf es c.2.2 ∧ (∀ ρ, c.2.2.ev ρ = (c.1.all ρ && c.2.1.all fun e => !ρ e)) ∧ c.1.length ≤ 4 ∧ c.2.1.length ≤ 4

/-- a pair of lists, both new, apart from a list that is being built -/
def C2E (H0 : Hp) (D : Addr) (H : Hp) (z : V) (c : Cse) : Prop := ∃ t p q, z = .ref t ∧ H t = some (.tup [.ref p, .ref q]) ∧ H p = some (.lst (c.1.map V.int)) ∧ p ≠ D ∧ H q = some (.lst (c.2.1.map V.int)) ∧ q ≠ D ∧ H0 p = none ∧ H0 q = none
inductive C2L (H0 : Hp) (D : Addr) (H : Hp) : List V → List Cse → Prop
  | nil : C2L H0 D H [] []
  | cons {z : V} {zs : List V} {c : Cse} {cs : List Cse} : C2E H0 D H z c → C2L H0 D H zs cs → C2L H0 D H (z :: zs) (c :: cs)
theorem C2L.imp {H0 : Hp} {D : Addr} {H H' : Hp} (f : ∀ z c, C2E H0 D H z c → C2E H0 D H' z c) : ∀ {zs : List V} {cs : List Cse}, C2L H0 D H zs cs → C2L H0 D H' zs cs
  | _, _, .nil => .nil
  | _, _, .cons h1 h2 => .cons (f _ _ h1) (C2L.imp f h2)
theorem C2L.snoc {H0 : Hp} {D : Addr} {H : Hp} {z : V} {c : Cse} (g : C2E H0 D H z c) : ∀ {zs : List V} {cs : List Cse}, C2L H0 D H zs cs → C2L H0 D H (zs ++ [z]) (cs ++ [c])
  | _, _, .nil => .cons g .nil
  | _, _, .cons h1 h2 => .cons h1 (C2L.snoc g h2)
theorem C2L.len {H0 : Hp} {D : Addr} {H : Hp} : ∀ {zs : List V} {cs : List Cse}, C2L H0 D H zs cs → zs.length = cs.length
  | _, _, .nil => rfl
  | _, _, .cons _ h => congrArg (· + 1) (C2L.len h)
theorem C2E.same {H0 : Hp} {D : Addr} {H H' : Hp} {z : V} {c : Cse} (e : Same H H') (h : C2E H0 D H z c) : C2E H0 D H' z c := by
  obtain ⟨t, p, q, e1, h1, h2, n1, h3, n2, k1, k2⟩ := h
  exact ⟨t, p, q, e1, e _ _ h1, e _ _ h2, n1, e _ _ h3, n2, k1, k2⟩
theorem C2E.upd {H0 : Hp} {D : Addr} {H : Hp} {w0 w : List V} {z : V} {c : Cse} (eD : H D = some (.lst w0)) (h : C2E H0 D H z c) : C2E H0 D (upd H D (.lst w)) z c := by
  obtain ⟨t, p, q, e1, h1, h2, n1, h3, n2, k1, k2⟩ := h
  exact ⟨t, p, q, e1, by rw [upd_ne (ne_of h1 eD (fun z => nomatch z))]; exact h1, by rw [upd_ne n1]; exact h2, n1, by rw [upd_ne n2]; exact h3, n2, k1, k2⟩
theorem C2L.l2 {H0 : Hp} {D : Addr} {H : Hp} : ∀ {zs : List V} {cs : List Cse}, C2L H0 D H zs cs → L2L H0 H zs cs
  | _, _, .nil => .nil
  | _, _, .cons h1 h2 => by
    obtain ⟨t, p, q, e1, g1, g2, _, g3, _, k1, k2⟩ := h1
    exact .cons ⟨t, p, q, e1, g1, k1, g2, k2, g3⟩ (C2L.l2 h2)
def sp_cases (C C2 : Addr) (K : PySem.W.Frag) : Sp := fun vs H Q E => ∃ (s : SA) (N : Nds) (es : List Int) (L mc mn a : Nat) (A : Bd), vs = [.ref s.p, .int ((a : Nat) : Int), .int ((mc : Nat) : Int), .int ((mn : Nat) : Int)] ∧ Sto C K H s N es L ∧ es.length ≤ 4 ∧ At N a A ∧ Wf es A ∧ N.length + wk es.length < 1000000 ∧ L + wk es.length < 1000000 ∧
  ∀ res, res = cov es 5 A A → ∀ H' M, FdS s H H' → M.length ≤ wk es.length → Sto C K H' s (N ++ M) es (L + wk es.length) → (CovFit res 0 mc mn → ∀ r zs, H r = none → H' r = some (.lst zs) → L2L H H' zs res.1 → Q (.ref r) H') ∧ (¬ CovFit res 0 mc mn → E (.ref C2) none H')
section
variable {P : Program} {w : World} {K : PySem.W.Frag} {mg : Str → Option Value} {base : Heap}
theorem cl_cover {f C CW C2 : Addr} {fd : FuncData} (F : Fun K "cover" "Cover.cover" s_Cover_cover f fd) (M : Mg mg) (GC : CvG K CW) (G : DgC K C mg) (mt : Meth K CW "cover" f) (bi : Binds K fd ["self", "low", "high"] []) (c_Diagrams_top : ClM P w K mg base 2 C "top" (sp_topL C K)) (c_Diagrams_branches : ClM P w K mg base 2 C "branches" (sp_bra C K)) (c_Diagrams_disjunction : ClM P w K mg base 9 C "disjunction" (sp_op2 C K 6 or)) (c_Diagrams_conjunction : ClM P w K mg base 9 C "conjunction" (sp_op2 C K 6 and)) (c_Cover_but_not : ClM P w K mg base 10 CW "but_not" (sp_bn C CW K 6)) (c_Cover_case_without : ClM P w K mg base 11 CW "case_without" (sp_woi C CW K 6 woC)) (c_Cover_case_with : ClM P w K mg base 11 CW "case_with" (sp_woi C CW K 6 wiC)) (cx_Cover_check_size : ClMX P w K mg base 4 CW "check_size" (sp_chk C CW C2 K)) (cx_Cover_empty_case : ClMX P w K mg base 2 CW "empty_case" (sp_emp CW C2)) (cx_Cover_left_over : ClMX P w K mg base 11 CW "left_over" (sp_lo C CW C2 K 6)) :
    ∀ n, ClMX P w K mg base (n + 11) CW "cover" (sp_cover C CW C2 K n)
  | 0 => FnOk.clmx (P := P) (w := w) (base := base) (mg := mg) (F.okX sc_Cover_cover (fun vs H Q E h => by obtain ⟨s, N, pre, es, L, mc, mn, k, a, b, A, B, cv, rfl, _⟩ := h; rfl) (fun cdv A0 outer s0 H vs Q E hr h => by obtain ⟨s, N, pre, es, L, mc, mn, k, a, b, A, B, cv, rfl, _, _, _, hn, _⟩ := h; exact absurd hn (Nat.not_lt_zero _))) mt GC.cl bi
  | n + 1 => FnOk.clmx (ok_cover n F M GC G c_Diagrams_top c_Diagrams_branches c_Diagrams_disjunction c_Diagrams_conjunction c_Cover_but_not c_Cover_case_without c_Cover_case_with cx_Cover_check_size cx_Cover_empty_case cx_Cover_left_over (cl_cover F M GC G mt bi c_Diagrams_top c_Diagrams_branches c_Diagrams_disjunction c_Diagrams_conjunction c_Cover_but_not c_Cover_case_without c_Cover_case_with cx_Cover_check_size cx_Cover_empty_case cx_Cover_left_over n)) mt GC.cl bi
set_option maxHeartbeats 4000000 in
theorem ok_cases {f C CW C2 : Addr} {fd : FuncData} (F : Fun K "cases" "cases" s_cases f fd) (M : Mg mg) (c_Cover___init__ : ClC P w K mg base 1 "Cover" CW (sp_cinit CW)) (cx_Cover_cover : ClMX P w K mg base 16 CW "cover" (sp_cover C CW C2 K 5)) : FnOk P w K mg base (L2.CX P w) 17 f fd ["store", "condition", "most_cases", "most_nodes"] (sp_cases C C2 K) := by
  refine F.okX sc_cases (fun vs H Q E h => ?_) (fun cdv A0 outer s0 H vs Q E hr h => ?_)
  · obtain ⟨s, N, es, L, mc, mn, a, A, rfl, _⟩ := h
    rfl
  · obtain ⟨s, N, es, L, mc, mn, a, A, rfl, st, hl4, aA, wA, z1, z2, q⟩ := h
    refine ⟨_, (pss_cons (ps_set (i := 4) sc_cases.nd rfl (.inl rfl) (pe_mtx cx_Cover_cover hr (by first | decide | omega) (E := E) (passX (takes_of rfl rfl rfl rfl)) (pe_mk c_Cover___init__ hr (by first | decide | omega) (by rfl) (pa_cons (pv 0) (pa_cons (pv 2) (pa_cons (pv 3) pa_nil)))) (pa_cons (pv 1) (pa_cons (pv 1) pa_nil))))
      (pss_one (ps_ret (pe_lc (own := [("there", 5), ("missing", 6), ("_", 7)]) (g := gTup K 3 (gCons (gName 5) (gCons (gName 6) (gCons (gName 7) (gNil))))) (tt := tYes) rfl sc_cases.nd (pi_list (pv 4)) (blkOk_by (N := N_cases) (sc := defScope s_cases) (by decide +kernel)) (fun _ _ _ _ _ => (pg_tup (by rfl) (pgs_cons (pg_name (i := 5) sc_cases.nd rfl (.inl rfl)) (pgs_cons (pg_name (i := 6) sc_cases.nd rfl (.inl rfl)) (pgs_cons (pg_name (i := 7) sc_cases.nd rfl (.inl rfl)) pgs_nil))))) (fun _ _ _ _ _ => pts_nil) (fun _ _ _ _ _ => (pe_tup (pa_cons (pv 5) (pa_cons (pv 6) pa_nil)))))))), ?_⟩
    refine ⟨_, rfl, _, rfl, _, rfl, fun cv dx nw nd ne => ⟨cv, dx, s.p, ((mc : Nat) : Int), ((mn : Nat) : Int), rfl, upd_same, fun H1 f1 e1 => ⟨rfl, ?_⟩⟩⟩
    have s1 := made_same nw nd f1
    have ncp : cv ≠ s.p := by
      obtain ⟨dxs, hp⟩ := st.ins
      exact (ne_of_none hp nw).symm
    have hc1 : Cv CW H1 s mc mn 0 cv := ⟨ncp, dx, e1⟩
    refine ⟨cv, dx, _, rfl, e1, cf_no s mc mn 0 (by decide +kernel) (by decide +kernel) (by decide +kernel) (by decide +kernel), _, rfl, _, rfl, s, N, [], es, L, mc, mn, 0, a, a, A, A, cv, rfl, st.ext s1, hc1, hl4, by omega, aA, aA, wA, wA, fun _ h => h, Nat.zero_le _, z1, z2, fun res hres H2 M2 f2 l2 st2 => ?_⟩
    have fS : FdS s H H2 := fun b o n1 n2 n3 h => f2 _ _ (ne_of_none h nw) n1 n2 n3 (s1 _ _ h)
    refine ⟨fun fit hc2 r zs er nr cs => ?_, fun nf => (q res hres H2 M2 fS l2 st2).2 nf⟩
    refine ⟨_, rfl, r, rfl, ⟨_, .of er⟩, fun D nD => ?_⟩
    have k1 := (cov_ok 5 [] es A A st.srt wA wA (fun _ h => h) (by omega)).len
    have hc0 : (cov ([] ++ es) 5 A A).1.length ≤ 81 := Nat.le_trans k1 (Nat.le_trans (Nat.pow_le_pow_right (by decide) hl4) (by decide))
    rw [← hres] at hc0
    have fre : ∀ b, H1 b = none → H b = none := fun b hb => by
      cases e : H b with
      | none => rfl
      | some u => rw [s1 _ _ e] at hb; cases hb
    have nDH : H D = none := by
      have kD := bu_ne st2 nD
      cases e : H D with
      | none => rfl
      | some u => rw [fS _ _ kD.1 kD.2.1 kD.2.2 e] at nD; cases nD
    refine lc_list (K := K) (a := r) (xs := zs) (fun j Hj => Same H2 Hj ∧ ∃ ys, Hj D = some (.lst ys) ∧ C2L H D Hj ys (res.1.take j)) ⟨same_upd nD, [], upd_same, .nil⟩ (fun j Hj _ hp => .of (hp.1 _ _ er)) (fun j y Hj hy hp => ?_) (fun H3 hp => ?_)
    · obtain ⟨sj, ys, eD, cj⟩ := hp
      have hj : j < res.1.length := by rw [← cs.len]; exact (List.getElem?_eq_some_iff.mp hy).1
      obtain ⟨z, hz, hE⟩ := cs.get (List.getElem?_eq_getElem hj)
      obtain rfl : z = y := Option.some.inj (hz.symm.trans hy)
      have hm := List.getElem?_eq_getElem hj
      generalize res.1[j] = c at hE hm
      obtain ⟨t, p, p2, n, rfl, ht, kp, ep, kp2, ep2, _⟩ := hE
      have lys := cj.len
      rw [List.length_take] at lys
      refine ⟨t, _, rfl, .of (sj _ _ ht), rfl, _, _, rfl, _, _, rfl, _, _, rfl, rfl, rfl, ?_⟩
      refine ⟨_, rfl, _, rfl, by show 2 ≤ sizeLine; decide, fun t2 nt2 => ?_⟩
      have s2 := same_upd nt2 (o := .tup [.ref p, .ref p2])
      have e2 : (upd Hj t2 (.tup [.ref p, .ref p2])) t2 = some (.tup [.ref p, .ref p2]) := upd_same
      generalize upd Hj t2 (.tup [.ref p, .ref p2]) = Hk at s2 e2 ⊢
      have eDk := s2 _ _ eD
      have sjk := sj.trans s2
      refine ⟨_, eDk, Nat.lt_of_le_of_lt (m := 100) (by omega) (by decide), fun b o h => ?_, ys ++ [.ref t2], upd_same, ?_⟩
      · rw [upd_ne (ne_of_none h nD)]
        exact sjk _ _ h
      · rw [List.take_add_one, hm]
        exact C2L.snoc (C2E.upd eDk ⟨t2, p, p2, rfl, e2, sjk _ _ ep, ne_of_none ep nD, sjk _ _ ep2, ne_of_none ep2 nD, fre _ kp, fre _ kp2⟩) (C2L.imp (fun z c h => (h.same s2).upd eDk) cj)
    · obtain ⟨s3, ys, eD, cj⟩ := hp
      rw [cs.len, List.take_of_length_le (Nat.le_refl _)] at cj
      exact (q res hres H3 M2 (fS.trans (FdS.of s3)) l2 (st2.ext s3)).1 fit D ys nDH eD cj.l2
end

/-! ### any and all of a tuple of truths -/
section
variable {X : Cx}
def rAnyT (K : PySem.W.Frag) : List V → Hp → VK → Prop := fun vs H Q => ∃ (a : Addr) (bs : List Bool), vs = [V.ref a] ∧ SqT K H a (bs.map V.bl) ∧ Q (.bl (bs.any id)) H
def rAllT (K : PySem.W.Frag) : List V → Hp → VK → Prop := fun vs H Q => ∃ (a : Addr) (bs : List Bool), vs = [V.ref a] ∧ SqT K H a (bs.map V.bl) ∧ Q (.bl (bs.all id)) H
theorem any_trange : ∀ bs : List Bool, (List.range bs.length).any (fun i => bs.getD i false) = bs.any id ∧ (List.range bs.length).all (fun i => bs.getD i false) = bs.all id := fun bs => ⟨any_range bs, all_range bs⟩
theorem iter_anyT {prog : Program} {w : World} {A : Around} {E : Value → Shared → Prop} {s : Shared} {l : Addr} {its : Array Value} {Q : Value → Shared → Prop} (hl : s.heap.IsTuple l its) (h : ∀ s2 : Shared, s2 = { s with heap := s.heap.push { cls := .type "tuple_iterator", data := .fields #[.ref l, .int 0 0] } } → (s2.heap.IsTupleIter s.heap.objs.size l 0 ∧ s2.heap.IsTuple l its) → l ≠ s.heap.objs.size → Q (.ref s.heap.objs.size) s2) : wpAny (model prog w) A (pyIter (.ref l)) Q E s := by
  have lt : l < s.heap.objs.size := by
    obtain ⟨_, e, _⟩ := hl
    exact Heap.lt_size e
  exact (wpAny_pyIter_tuple hl (h _ rfl ⟨⟨_, Heap.get?_push_size _ rfl, rfl, rfl⟩, hl.push _⟩ (Nat.ne_of_lt lt)))
theorem cr_anyT (K : PySem.W.Frag) (hc : X.calm = true) (h : X.K = K := by rfl) : CallR X (.builtin "any") (rAnyT K) := by
  subst h
  intro pins s σ H vs us Q I r ask
  obtain ⟨a, bs, rfl, hs, q⟩ := ask
  obtain ⟨xs, rv, hl, _⟩ := I.tuple hs
  rw [Vals.ref1 r]
  have hb := rv.bls
  refine (call_any_walk (iter_anyT hl fun s2 e2 st hne => ?_))
  subst e2
  refine ⟨_, _, _, _, _, _, _, rfl, Walks.tuple (A := X.A.in1) (I.ok.hd hc) _ a hne xs.toArray, st, truth_bools hb, fun g tk hk => ?_⟩
  refine ⟨.bl _, H, (I.kept fun b o eo => hk b o (fun hm => ?_) (Heap.get?_push_of_some _ eo)), ?_, q⟩
  · have e1 := List.mem_singleton.mp hm
    exact Nat.lt_irrefl _ (e1 ▸ Heap.lt_size eo)
  · show Value.bool _ = Value.bool _
    rw [← (any_trange bs).1, hb, List.size_toArray, List.length_map]
theorem cr_allT (K : PySem.W.Frag) (hc : X.calm = true) (h : X.K = K := by rfl) : CallR X (.builtin "all") (rAllT K) := by
  subst h
  intro pins s σ H vs us Q I r ask
  obtain ⟨a, bs, rfl, hs, q⟩ := ask
  obtain ⟨xs, rv, hl, _⟩ := I.tuple hs
  rw [Vals.ref1 r]
  have hb := rv.bls
  refine (call_all_walk (iter_anyT hl fun s2 e2 st hne => ?_))
  subst e2
  refine ⟨_, _, _, _, _, _, _, rfl, Walks.tuple (A := X.A.in1) (I.ok.hd hc) _ a hne xs.toArray, st, truth_bools hb, fun g tk hk => ?_⟩
  refine ⟨.bl _, H, (I.kept fun b o eo => hk b o (fun hm => ?_) (Heap.get?_push_of_some _ eo)), ?_, q⟩
  · have e1 := List.mem_singleton.mp hm
    exact Nat.lt_irrefl _ (e1 ▸ Heap.lt_size eo)
  · show Value.bool _ = Value.bool _
    rw [← (any_trange bs).2, hb, List.size_toArray, List.length_map]
end

/-! ### lists of lists -/
def Lf {α : Type} (f : α → V) (H : Hp) (p : Addr) (ls : List (List α)) : Prop := ∃ as : List Addr, H p = some (.lst (as.map V.ref)) ∧ as.length = ls.length ∧ ∀ (i : Nat) b l, as[i]? = some b → ls[i]? = some l → b ≠ p ∧ H b = some (.lst (l.map f))
theorem Lf.ext {α : Type} {f : α → V} {H H' : Hp} {p : Addr} {ls : List (List α)} (e : Same H H') (h : Lf f H p ls) : Lf f H' p ls := by
  obtain ⟨as, h1, h2, h3⟩ := h
  exact ⟨as, e _ _ h1, h2, fun i b l g1 g2 => ⟨(h3 i b l g1 g2).1, e _ _ (h3 i b l g1 g2).2⟩⟩
theorem Lf.snoc {α : Type} {f : α → V} {H : Hp} {p b : Addr} {ls : List (List α)} {l : List α} {xs : List V} (h : Lf f H p ls) (e : H p = some (.lst xs)) (n : b ≠ p) (hb : H b = some (.lst (l.map f))) : Lf f (upd H p (.lst (xs ++ [.ref b]))) p (ls ++ [l]) := by
  obtain ⟨as, h1, h2, h3⟩ := h
  have ex : xs = as.map V.ref := by rw [h1] at e; exact (HO.lst.inj (Option.some.inj e)).symm
  refine ⟨as ++ [b], by rw [upd_same, ex, List.map_append]; rfl, by rw [List.length_append, List.length_append, h2]; rfl, fun i c m hc hm => ?_⟩
  by_cases hi : i < as.length
  · rw [List.getElem?_append_left hi] at hc
    rw [List.getElem?_append_left (by omega)] at hm
    obtain ⟨g1, g2⟩ := h3 i c m hc hm
    exact ⟨g1, by rw [upd_ne g1]; exact g2⟩
  · rw [List.getElem?_append_right (by omega)] at hc
    rw [List.getElem?_append_right (by omega), ← h2] at hm
    cases hk : i - as.length with
    | zero =>
      rw [hk] at hc hm
      have e1 : b = c := Option.some.inj hc
      have e2 : l = m := Option.some.inj hm
      subst e1 e2
      exact ⟨n, by rw [upd_ne n]; exact hb⟩
    | succ k => rw [hk] at hc; simp at hc
theorem Lf.get {α : Type} {f : α → V} {H : Hp} {p : Addr} {ls : List (List α)} (h : Lf f H p ls) : ∃ as : List Addr, H p = some (.lst (as.map V.ref)) ∧ as.length = ls.length ∧ ∀ (i : Nat) l, ls[i]? = some l → ∃ b, as[i]? = some b ∧ H b = some (.lst (l.map f)) := by
  obtain ⟨as, h1, h2, h3⟩ := h
  refine ⟨as, h1, h2, fun i l hl => ?_⟩
  have hi : i < as.length := by rw [h2]; exact (List.getElem?_eq_some_iff.mp hl).1
  exact ⟨as[i], List.getElem?_eq_getElem hi, (h3 i _ l (List.getElem?_eq_getElem hi) hl).2⟩
/-! ### conditions by their truth -/
theorem subs_all' : ∀ (es pre : List Int) (f : List (List Int)), (pre ++ es).Nodup → (∀ ρ : Int → Bool, ∃ p ∈ f, (∀ e ∈ p, e ∈ pre) ∧ ∀ e ∈ pre, decide (e ∈ p) = ρ e) → ∀ ρ : Int → Bool, ∃ p ∈ es.foldl (fun f e => f ++ f.map (· ++ [e])) f, ∀ e ∈ pre ++ es, decide (e ∈ p) = ρ e
  | [], pre, f, _, h, ρ => by
    obtain ⟨p, hp, _, h2⟩ := h ρ
    exact ⟨p, hp, fun e he => h2 e (by rwa [List.append_nil] at he)⟩
  | x :: es, pre, f, hn, h, ρ => by
    have hx : x ∉ pre := by
      intro hx
      rw [List.nodup_append] at hn
      exact hn.2.2 x hx x List.mem_cons_self rfl
    have hn' : ((pre ++ [x]) ++ es).Nodup := by rw [List.append_assoc]; exact hn
    rw [List.foldl_cons, show pre ++ x :: es = (pre ++ [x]) ++ es by simp]
    refine subs_all' es (pre ++ [x]) _ hn' (fun ρ => ?_) ρ
    obtain ⟨p, hp, h1, h2⟩ := h ρ
    have hxp : x ∉ p := fun z => hx (h1 x z)
    cases e : ρ x with
    | true =>
      refine ⟨p ++ [x], List.mem_append_right _ (List.mem_map.mpr ⟨p, hp, rfl⟩), fun y hy => ?_, fun y hy => ?_⟩
      · rcases List.mem_append.mp hy with hy | hy
        · exact List.mem_append_left _ (h1 y hy)
        · exact List.mem_append_right _ hy
      · rcases List.mem_append.mp hy with hy | hy
        · have hyx : y ≠ x := fun z => hx (z ▸ hy)
          rw [← h2 y hy, decide_eq_decide, List.mem_append, List.mem_singleton]
          exact ⟨fun g => g.elim id (fun z => absurd z hyx), .inl⟩
        · rw [List.mem_singleton.mp hy, e]
          exact decide_eq_true (List.mem_append_right _ (List.mem_singleton.mpr rfl))
    | false =>
      refine ⟨p, List.mem_append_left _ hp, fun y hy => List.mem_append_left _ (h1 y hy), fun y hy => ?_⟩
      rcases List.mem_append.mp hy with hy | hy
      · exact h2 y hy
      · rw [List.mem_singleton.mp hy, e]
        exact decide_eq_false hxp
theorem subs_all {es : List Int} (hn : es.Nodup) (ρ : Int → Bool) : ∃ p ∈ subs es, ∀ e ∈ es, decide (e ∈ p) = ρ e :=
  subs_all' es [] [[]] hn (fun _ => ⟨[], List.mem_singleton.mpr rfl, fun _ h => (nomatch h), fun _ h => (nomatch h)⟩) ρ
def tru (es : List Int) (t : Tr) : List Bool := (subs es).map fun p => t.ev fun e => decide (e ∈ p)
theorem tru_eq {es : List Int} (hn : es.Nodup) {t u : Tr} (ht : t.ok es) (hu : u.ok es) : tru es t = tru es u ↔ ∀ ρ, t.ev ρ = u.ev ρ := by
  constructor
  · intro h ρ
    obtain ⟨p, hp, hr⟩ := subs_all hn ρ
    have := List.map_inj_left.mp h p hp
    rw [tr_agree ht hr, tr_agree hu hr] at this
    exact this
  · intro h
    exact List.map_inj_left.mpr fun p _ => h _
theorem tru_any {es : List Int} (hn : es.Nodup) {t : Tr} (ht : t.ok es) : (tru es t).any id = false ↔ ∀ ρ, t.ev ρ = false := by
  unfold tru
  rw [List.any_map, List.any_eq_false]
  constructor
  · intro h ρ
    obtain ⟨p, hp, hr⟩ := subs_all hn ρ
    have := h p hp
    rw [← tr_agree ht hr]
    simpa using this
  · intro h p _
    show ¬ (t.ev _) = true
    rw [h]
    exact Bool.false_ne_true
theorem tru_all {es : List Int} (hn : es.Nodup) {t : Tr} (ht : t.ok es) : (tru es t).all id = true ↔ ∀ ρ, t.ev ρ = true := by
  unfold tru
  rw [List.all_map, List.all_eq_true]
  constructor
  · intro h ρ
    obtain ⟨p, hp, hr⟩ := subs_all hn ρ
    have := h p hp
    rw [← tr_agree ht hr]
    exact this
  · intro h p _
    exact h _
theorem tru_len (es : List Int) (t : Tr) : (tru es t).length = 2 ^ es.length := by rw [tru, List.length_map, subs_len]
/-- conditions built, one for each tree -/
def Blt (N : Nds) (es : List Int) (ts : List Tr) (cs : List Nat) : Prop := cs.length = ts.length ∧ ∀ (i : Nat) t c, ts[i]? = some t → cs[i]? = some c → ∃ T, At N c T ∧ Wf es T ∧ ∀ ρ, T.ev ρ = t.ev ρ
theorem Blt.mono {N M : Nds} {es : List Int} {ts : List Tr} {cs : List Nat} (h : Blt N es ts cs) : Blt (N ++ M) es ts cs := ⟨h.1, fun i t c h1 h2 => by
  obtain ⟨T, a, b⟩ := h.2 i t c h1 h2
  exact ⟨T, a.mono, b⟩⟩
theorem Blt.snoc {N : Nds} {es : List Int} {ts : List Tr} {cs : List Nat} {t : Tr} {c : Nat} {T : Bd} (h : Blt N es ts cs) (a : At N c T) (b : Wf es T) (v : ∀ ρ, T.ev ρ = t.ev ρ) : Blt N es (ts ++ [t]) (cs ++ [c]) := by
  refine ⟨by rw [List.length_append, List.length_append, h.1]; rfl, fun i t' c' h1 h2 => ?_⟩
  by_cases hi : i < ts.length
  · rw [List.getElem?_append_left hi] at h1
    rw [List.getElem?_append_left (by rw [h.1]; exact hi)] at h2
    exact h.2 i t' c' h1 h2
  · rw [List.getElem?_append_right (by omega)] at h1
    rw [List.getElem?_append_right (by rw [h.1]; omega), h.1] at h2
    cases hk : i - ts.length with
    | zero =>
      rw [hk] at h1 h2
      have e1 : t = t' := Option.some.inj h1
      have e2 : c = c' := Option.some.inj h2
      subst e1 e2
      exact ⟨T, a, b, v⟩
    | succ k => rw [hk] at h1; simp at h1
theorem bls_eqvAll : ∀ a b : List Bool, PyData.eqvAll (a.map PyData.bool) (b.map PyData.bool) = decide (a = b)
  | [], [] => rfl
  | [], _ :: _ => rfl
  | _ :: _, [] => rfl
  | x :: a, y :: b => by
    rw [List.map_cons, List.map_cons]
    unfold PyData.eqvAll
    rw [bls_eqvAll a b]
    unfold PyData.eqv
    cases x <;> cases y <;> simp
theorem bls_eqv (a b : List Bool) : PyData.eqv (.list (a.map PyData.bool)) (.list (b.map PyData.bool)) = decide (a = b) := by
  unfold PyData.eqv
  exact bls_eqvAll a b
/-- one number for one condition -/
theorem num_eq {N : Nds} {es : List Int} (hN : N.Nodup) (hn : es.Nodup) {t u : Tr} (ht : t.ok es) (hu : u.ok es) {c d : Nat} {T U : Bd} (hT : At N c T) (hU : At N d U) (wT : Wf es T) (wU : Wf es U) (vT : ∀ ρ, T.ev ρ = t.ev ρ) (vU : ∀ ρ, U.ev ρ = u.ev ρ) : c = d ↔ tru es t = tru es u := by
  rw [tru_eq hn ht hu]
  constructor
  · intro e ρ
    subst e
    rw [← vT, ← vU, hT.fn hU]
  · intro h
    have := canon hn wT wU fun ρ => by rw [vT, vU, h]
    subst this
    exact hT.inj hN hU
theorem num_0 {N : Nds} {es : List Int} (hN : N.Nodup) (hn : es.Nodup) {t : Tr} (ht : t.ok es) {c : Nat} {T : Bd} (hT : At N c T) (wT : Wf es T) (vT : ∀ ρ, T.ev ρ = t.ev ρ) : c = 0 ↔ (tru es t).any id = false := by
  rw [tru_any hn ht]
  constructor
  · intro e ρ
    subst e
    rw [← vT, hT.fn .f]
    rfl
  · intro h
    have := canon hn wT (.lf (b := false)) fun ρ => by rw [vT, h]; rfl
    subst this
    exact hT.inj hN .f
theorem num_1 {N : Nds} {es : List Int} (hN : N.Nodup) (hn : es.Nodup) {t : Tr} (ht : t.ok es) {c : Nat} {T : Bd} (hT : At N c T) (wT : Wf es T) (vT : ∀ ρ, T.ev ρ = t.ev ρ) : c = 1 ↔ (tru es t).all id = true := by
  rw [tru_all hn ht]
  constructor
  · intro e ρ
    subst e
    rw [← vT, hT.fn .t]
    rfl
  · intro h
    have := canon hn wT (.lf (b := true)) fun ρ => by rw [vT, h]; rfl
    subst this
    exact hT.inj hN .t
/-- a list of conditions' trees -/
def TrL (K : PySem.W.Frag) (H : Hp) (D : Addr) (ts : List Tr) : Prop := ∃ vs, H D = some (.lst vs) ∧ DpAll K H vs (ts.map Tr.d)
theorem trs_only : ∀ ts : List Tr, tupOnlys (ts.map Tr.d) = true
  | [] => rfl
  | t :: ts => by
    rw [List.map_cons]
    unfold tupOnlys
    rw [tr_only, trs_only ts]
    rfl
theorem TrL.ext {K : PySem.W.Frag} {H H' : Hp} {D : Addr} {ts : List Tr} (e : Same H H') (h : TrL K H D ts) : TrL K H' D ts := by
  obtain ⟨vs, h1, h2⟩ := h
  exact ⟨vs, e _ _ h1, DpAll.ext e _ _ h2⟩
theorem TrL.snoc {K : PySem.W.Frag} {H : Hp} {D : Addr} {ts : List Tr} {vs : List V} {v : V} {t : Tr} (h : TrL K H D ts) (e : H D = some (.lst vs)) (hv : Dp K H v t.d) : TrL K (upd H D (.lst (vs ++ [v]))) D (ts ++ [t]) := by
  obtain ⟨vs', h1, h2⟩ := h
  have ev : vs' = vs := by rw [h1] at e; exact HO.lst.inj (Option.some.inj e)
  subst ev
  refine ⟨_, upd_same, ?_⟩
  rw [List.map_append]
  exact DpAll.snoc (DpAll.away h1 _ _ (trs_only ts) h2) (Dp.away h1 _ _ (tr_only t) hv)
theorem TrL.get {K : PySem.W.Frag} {H : Hp} {D : Addr} {ts : List Tr} (h : TrL K H D ts) : ∃ vs, H D = some (.lst vs) ∧ vs.length = ts.length ∧ ∀ (i : Nat) t, ts[i]? = some t → ∃ v, vs[i]? = some v ∧ Dp K H v t.d := by
  obtain ⟨vs, h1, h2⟩ := h
  refine ⟨vs, h1, by rw [DpAll.len h2, List.length_map], fun i t ht => DpAll.get h2 (by rw [List.getElem?_map, ht]; rfl)⟩
theorem TrL.fd {K : PySem.W.Frag} {H H' : Hp} {D d : Addr} {ts : List Tr} (hd : ∃ zs, H d = some (.lst zs)) (n : D ≠ d) (e : Fd d H H') (h : TrL K H D ts) : TrL K H' D ts := by
  obtain ⟨vs, h1, h2⟩ := h
  exact ⟨vs, e _ _ n h1, DpAll.fd hd e _ _ (trs_only ts) h2⟩
def intsV (cs : List Nat) : List V := cs.map fun c => .int ((c : Nat) : Int)
section
variable {P : Program} {w : World} {K : PySem.W.Frag} {mg : Str → Option Value} {base : Heap}
/-- conditions being built, one after another -/
def BuP (C : Addr) (K : PySem.W.Frag) (sa : SA) (N : Nds) (es : List Int) (b : Nat) (ts : List Tr) (H0 H : Hp) (B : Addr) (i : Nat) (Hi : Hp) : Prop := Same H0 Hi ∧ (∀ a o, H a = some o → a ≠ sa.k → a ≠ sa.u → a ≠ sa.m → Hi a = some o) ∧ ∃ M cs, Sto C K Hi sa (N ++ M) es (b + i * 33000) ∧ Hi B = some (.lst (intsV cs)) ∧ Blt (N ++ M) es (ts.take i) cs ∧ (N ++ M).length ≤ b + i * 33000
theorem bu_0 {C : Addr} {sa : SA} {N : Nds} {es : List Int} {L b : Nat} {ts : List Tr} {H0 H : Hp} {B : Addr} (S : Same H0 H) (st : Sto C K H sa N es L) (hb : N.length ≤ b ∧ L ≤ b) (nB : H B = none) : BuP C K sa N es b ts H0 H B 0 (upd H B (.lst [])) := by
  refine ⟨S.trans (same_upd nB), fun a o h _ _ _ => same_upd nB _ _ h, [], [], ?_, upd_same, ⟨rfl, fun i t c h _ => by simp at h⟩, ?_⟩
  · rw [List.append_nil]
    exact (st.ext (same_upd nB)).more (by omega)
  · rw [List.append_nil]
    omega
theorem bu_step {C : Addr} {sa : SA} {N : Nds} {es : List Int} {L b : Nat} {ts : List Tr} {H0 H Hi : Hp} {B : Addr} {i : Nat} {v : V} {t : Tr} {σ : L2.St} {i5 i11 : Nat} (S : Same H0 H) (st : Sto C K H sa N es L) (nk : H0 sa.k = none) (nu : H0 sa.u = none) (nm : H0 sa.m = none) (hl : es.length ≤ 5) (hb2 : b + ts.length * 33000 ≤ 400000) (nB : H B = none) (hp : BuP C K sa N es b ts H0 H B i Hi) (ht : ts[i]? = some t) (ok1 : t.ok es) (ht1 : t.ht < 9) (dp : Dp K H0 v t.d) (h5 : σ[i5]? = some (some (.ref sa.p))) (h11 : σ[i11]? = some (some v)) :
    tCall (sp_build C K 6 9) [] E0 (tCons (tVar i5) (tCons (tVar i11) tNil)) σ Hi fun y H4 => ∃ ys, H4 B = some (.lst ys) ∧ ys.length < sizeLine ∧ BuP C K sa N es b ts H0 H B (i + 1) (upd H4 B (.lst (ys ++ [y]))) := by
  have hob : opB es ≤ 64 := by
    have : 2 ^ es.length ≤ 2 ^ 5 := Nat.pow_le_pow_right (by decide) hl
    unfold opB
    omega
  have sl : (500000 : Nat) < sizeLine := by decide
  have nB0 := S.free nB
  have nBk := bu_ne st nB
  obtain ⟨si, fi, M, cs, sti, eB, bl, ln⟩ := hp
  have hi : i < ts.length := (List.getElem?_eq_some_iff.mp ht).1
  have hz : t.sz ≤ 511 := by
    have h1 := tr_sz t
    have h2 : 2 ^ (t.ht + 1) ≤ 2 ^ 9 := Nat.pow_le_pow_right (by decide) (by omega)
    omega
  have hzb : t.sz * opB es ≤ 511 * 64 := Nat.mul_le_mul hz hob
  have hib : i * 33000 + 33000 ≤ ts.length * 33000 := by
    have := Nat.mul_le_mul_right 33000 (show i + 1 ≤ ts.length by omega)
    omega
  refine ⟨_, h5, _, h11, sa, N ++ M, es, _, v, t, rfl, sti, by omega, ok1, ht1, Dp.ext si _ _ dp, by omega, by omega, fun H1 M1 r1 T1 f1 l1 st1 a1 w1 v1 => ?_⟩
  have eB1 := f1 _ _ nBk.1 nBk.2.1 nBk.2.2 eB
  have lcs : cs.length = i := by rw [bl.1, List.length_take]; omega
  refine ⟨_, eB1, ?_, ?_, ?_, M ++ M1, cs ++ [r1], ?_, ?_, ?_, ?_⟩
  · show (intsV cs).length < sizeLine
    unfold intsV
    rw [List.length_map, lcs]
    omega
  · intro x o e
    rw [upd_ne (ne_of_none e nB0)]
    exact f1.same si nk nu nm x o e
  · intro x o e n1 n2 n3
    rw [upd_ne (ne_of_none e nB)]
    exact f1 x o n1 n2 n3 (fi x o e n1 n2 n3)
  · rw [← List.append_assoc]
    exact (st1.fd ⟨_, eB1⟩ nBk.1 Fd.at).more (by omega)
  · rw [upd_same]
    unfold intsV
    rw [List.map_append]
    rfl
  · rw [← List.append_assoc, List.take_add_one, ht]
    exact bl.mono.snoc a1 w1 v1
  · rw [← List.append_assoc, List.length_append]
    omega
end

/-! ### conditions as truth tables over all sets -/
def tt (es : List Int) (a : Bd) : List Bool := (subs es).map fun p => a.ev fun e => decide (e ∈ p)
theorem tt_len (es : List Int) (a : Bd) : (tt es a).length = 2 ^ es.length := by rw [tt, List.length_map, subs_len]
/-- which sets have an input row: by the bits of their places -/
def sbr : List Int → List (List Int)
  | [] => [[]]
  | e :: r => sbr r ++ (sbr r).map (· ++ [e])
theorem sbr_eq : ∀ r : List Int, subs r.reverse = sbr r
  | [] => rfl
  | e :: r => by
    rw [List.reverse_cons, subs_snoc, sbr_eq r]
    rfl
theorem sbr_len : ∀ r : List Int, (sbr r).length = 2 ^ r.length
  | [] => rfl
  | e :: r => by
    show (sbr r ++ (sbr r).map _).length = 2 ^ (r.length + 1)
    rw [List.length_append, List.length_map, sbr_len r, Nat.pow_succ]
    omega
theorem sbr_mem : ∀ (r : List Int) (p : List Int), p ∈ sbr r → ∀ e ∈ p, e ∈ r
  | [], p, h, e, he => by
    have : p = [] := by simpa [sbr] using h
    rw [this] at he
    cases he
  | x :: r, p, h, e, he => by
    rcases List.mem_append.mp h with h | h
    · exact List.mem_cons_of_mem _ (sbr_mem r p h e he)
    · obtain ⟨q, hq, rfl⟩ := List.mem_map.mp h
      rcases List.mem_append.mp he with he | he
      · exact List.mem_cons_of_mem _ (sbr_mem r q hq e he)
      · rw [List.mem_singleton.mp he]
        exact List.mem_cons_self
theorem tb_add {m r k : Nat} (hk : k < m) : (2 ^ m + r).testBit k = r.testBit k := Nat.testBit_two_pow_add_gt hk r
theorem tb_top {m r : Nat} (hr : r < 2 ^ m) : (2 ^ m + r).testBit m = true := by
  rw [Nat.testBit_two_pow_add_eq, Nat.testBit_lt_two_pow hr]
  rfl
theorem sbr_bit : ∀ (r : List Int) (n : Nat) (p : List Int) (k : Nat) (e : Int), r.Nodup → (sbr r)[n]? = some p → r.reverse[k]? = some e → decide (e ∈ p) = n.testBit k
  | [], _, _, k, _, _, _, h => by simp at h
  | x :: r, n, p, k, e, hn, hp, he => by
    rw [List.nodup_cons] at hn
    rw [List.reverse_cons] at he
    have hp : (sbr r ++ (sbr r).map (· ++ [x]))[n]? = some p := hp
    have lr : r.reverse.length = r.length := List.length_reverse
    have ls := sbr_len r
    by_cases h1 : n < (sbr r).length
    · rw [List.getElem?_append_left h1] at hp
      by_cases h2 : k < r.reverse.length
      · rw [List.getElem?_append_left h2] at he
        exact sbr_bit r n p k e hn.2 hp he
      · rw [List.getElem?_append_right (by omega)] at he
        have hk : k = r.length := by
          cases h : k - r.reverse.length with
          | zero => omega
          | succ j => rw [h] at he; simp at he
        subst hk
        rw [lr, Nat.sub_self] at he
        have : x = e := Option.some.inj he
        subst this
        rw [Nat.testBit_lt_two_pow (by rw [← ls]; exact h1)]
        exact decide_eq_false fun z => hn.1 (sbr_mem r p (List.mem_of_getElem? hp) x z)
    · rw [List.getElem?_append_right (by omega), List.getElem?_map] at hp
      obtain ⟨q, hq, rfl⟩ := Option.map_eq_some_iff.mp hp
      have hlt : n - (sbr r).length < 2 ^ r.length := by
        rw [← ls]
        exact (List.getElem?_eq_some_iff.mp hq).1
      have en : n = 2 ^ r.length + (n - (sbr r).length) := by omega
      by_cases h2 : k < r.reverse.length
      · rw [List.getElem?_append_left h2] at he
        have ih := sbr_bit r _ q k e hn.2 hq he
        rw [en, tb_add (show k < r.length by omega), ← ih, decide_eq_decide, List.mem_append, List.mem_singleton]
        have hne : e ≠ x := fun z => by
          subst z
          exact hn.1 (List.mem_reverse.mp (List.mem_of_getElem? he))
        exact ⟨fun g => g.elim id (fun z => absurd z hne), .inl⟩
      · rw [List.getElem?_append_right (by omega)] at he
        have hk : k = r.length := by
          cases h : k - r.reverse.length with
          | zero => omega
          | succ j => rw [h] at he; simp at he
        subst hk
        rw [lr, Nat.sub_self] at he
        have : x = e := Option.some.inj he
        subst this
        rw [en, tb_top hlt]
        exact decide_eq_true (List.mem_append_right _ (List.mem_singleton.mpr rfl))
theorem subs_bit {es : List Int} (hn : es.Nodup) {n k : Nat} {p : List Int} {e : Int} (hp : (subs es)[n]? = some p) (he : es[k]? = some e) : decide (e ∈ p) = n.testBit k := by
  have h := sbr_eq es.reverse
  rw [List.reverse_reverse] at h
  rw [h] at hp
  exact sbr_bit es.reverse n p k e (by rw [List.nodup_iff_pairwise_ne, List.pairwise_reverse]; exact (List.nodup_iff_pairwise_ne.mp hn).imp fun h => h.symm) hp (by rw [List.reverse_reverse]; exact he)
/-- the place of a set with one input row put in or left out -/
def fxI (k : Nat) (b : Bool) (n : Nat) : Nat := (if n.testBit k = true then n - 2 ^ k else n) + (if b = true then 2 ^ k else 0)
theorem fxI_eq (k : Nat) (b : Bool) (n : Nat) : fxI k b n = 2 ^ k * (2 * (n / 2 ^ k / 2) + (if b = true then 1 else 0)) + n % 2 ^ k := by
  have hp : 0 < 2 ^ k := Nat.two_pow_pos k
  have en := Nat.div_add_mod n (2 ^ k)
  have h2 := Nat.div_add_mod (n / 2 ^ k) 2
  unfold fxI
  rw [Nat.testBit_eq_decide_div_mod_eq, Nat.mul_add]
  generalize n / 2 ^ k = c at *
  generalize n % 2 ^ k = r at *
  have hb : 2 ^ k * (if b = true then 1 else 0) = if b = true then 2 ^ k else 0 := by cases b <;> simp
  rw [hb]
  by_cases h : c % 2 = 1
  · rw [if_pos (decide_eq_true h)]
    have hc : c = 2 * (c / 2) + 1 := by omega
    have e1 : 2 ^ k * c = 2 ^ k * (2 * (c / 2)) + 2 ^ k := by
      conv => lhs; rw [hc, Nat.mul_add, Nat.mul_one]
    omega
  · rw [if_neg (by rw [decide_eq_true_iff]; exact h)]
    have hc : c = 2 * (c / 2) := by omega
    have e1 : 2 ^ k * c = 2 ^ k * (2 * (c / 2)) := by
      conv => lhs; rw [hc]
    omega
theorem fxI_bit (k : Nat) (b : Bool) (n j : Nat) : (fxI k b n).testBit j = if j = k then b else n.testBit j := by
  have hp : 0 < 2 ^ k := Nat.two_pow_pos k
  rw [fxI_eq, Nat.testBit_two_pow_mul_add _ (Nat.mod_lt n hp)]
  by_cases h1 : j < k
  · rw [if_pos h1, if_neg (by omega), Nat.testBit_mod_two_pow, decide_eq_true h1, Bool.true_and]
  · rw [if_neg h1]
    by_cases h2 : j = k
    · subst h2
      rw [if_pos rfl, Nat.sub_self, Nat.testBit_zero]
      cases b
      · exact decide_eq_false (by rw [if_neg Bool.false_ne_true]; omega)
      · exact decide_eq_true (by rw [if_pos rfl]; omega)
    · rw [if_neg h2]
      obtain ⟨d, rfl⟩ : ∃ d, j = k + (d + 1) := ⟨j - k - 1, by omega⟩
      rw [Nat.add_sub_cancel_left, Nat.testBit_succ]
      have e : (2 * (n / 2 ^ k / 2) + (if b = true then 1 else 0)) / 2 = n / 2 ^ k / 2 := by
        cases b
        · rw [if_neg Bool.false_ne_true]; omega
        · rw [if_pos rfl]; omega
      rw [e, ← Nat.testBit_succ, Nat.testBit_div_two_pow, Nat.add_comm]
theorem fxI_lt {k m n : Nat} {b : Bool} (hk : k < m) (hn : n < 2 ^ m) : fxI k b n < 2 ^ m := by
  refine Nat.lt_pow_two_of_testBit _ fun i hi => ?_
  rw [fxI_bit, if_neg (by omega)]
  exact Nat.testBit_lt_two_pow (Nat.lt_of_lt_of_le hn (Nat.pow_le_pow_right (by decide) hi))
/-- the table with one input row put in or left out -/
def fixL (l : List Bool) (k : Nat) (b : Bool) : List Bool := (List.range l.length).map fun n => l.getD (fxI k b n) false
theorem tt_get {es : List Int} {a : Bd} {n : Nat} {p : List Int} (h : (subs es)[n]? = some p) : (tt es a)[n]? = some (a.ev fun e => decide (e ∈ p)) := by
  unfold tt
  rw [List.getElem?_map, h]
  rfl
theorem fixL_get {es : List Int} (hn : es.Nodup) {a : Bd} (wa : Wf es a) {k n : Nat} {b : Bool} {p : List Int} {x : Int} (hx : es[k]? = some x) (hp : (subs es)[n]? = some p) : (fixL (tt es a) k b)[n]? = some (a.ev (setR (fun e => decide (e ∈ p)) x b)) := by
  have hk : k < es.length := (List.getElem?_eq_some_iff.mp hx).1
  have hn2 : n < 2 ^ es.length := by rw [← subs_len]; exact (List.getElem?_eq_some_iff.mp hp).1
  have hf := fxI_lt (b := b) hk hn2
  have hq : fxI k b n < (subs es).length := by rw [subs_len]; exact hf
  unfold fixL
  rw [List.getElem?_map, List.getElem?_range (by rw [tt_len]; exact hn2)]
  show some ((tt es a).getD (fxI k b n) false) = _
  rw [List.getD_eq_getElem?_getD, tt_get (List.getElem?_eq_getElem hq)]
  refine congrArg some (wf_agree wa fun e he => ?_)
  obtain ⟨j, hj⟩ := List.getElem?_of_mem he
  rw [subs_bit hn (List.getElem?_eq_getElem hq) hj, fxI_bit]
  by_cases ejk : j = k
  · subst ejk
    have : x = e := Option.some.inj (hx.symm.trans hj)
    subst this
    rw [if_pos rfl, setR_same]
  · have hne : e ≠ x := fun z => by
      subst z
      exact ejk (nodup_at hn hj hx)
    rw [if_neg ejk, setR_ne hne]
    exact (subs_bit hn hp hj).symm
/-- put in, left out: a condition whose least question this is, or none of whose questions this is -/
theorem fixL_eq {es : List Int} (hn : es.Nodup) {a c : Bd} (wa : Wf es a) {k : Nat} {b : Bool} {x : Int} (hx : es[k]? = some x) (h : ∀ r, a.ev (setR r x b) = c.ev r) : fixL (tt es a) k b = tt es c := by
  refine List.ext_getElem? fun n => ?_
  by_cases hl : n < (subs es).length
  · rw [fixL_get hn wa hx (List.getElem?_eq_getElem hl), tt_get (List.getElem?_eq_getElem hl), h]
  · rw [List.getElem?_eq_none, List.getElem?_eq_none]
    · rw [tt_len, ← subs_len]; omega
    · unfold fixL
      rw [List.length_map, List.length_range, tt_len, ← subs_len]; omega
theorem tt_inj {es : List Int} (hn : es.Nodup) {a c : Bd} (wa : Wf es a) (wc : Wf es c) (h : tt es a = tt es c) : a = c := by
  refine canon hn wa wc fun r => ?_
  obtain ⟨p, hp, hr⟩ := subs_all hn r
  have := List.map_inj_left.mp h p hp
  rw [wf_agree wa hr, wf_agree wc hr] at this
  exact this
theorem top_at {pre po : List Int} {x : Int} (hn : (pre ++ x :: po).Nodup) : (pre ++ x :: po).idxOf x = pre.length := by
  rw [List.idxOf_append, if_neg]
  · rw [List.idxOf_cons_self, Nat.zero_add]
  · intro h
    rw [List.nodup_append] at hn
    exact hn.2.2 x h x List.mem_cons_self rfl
/-- fixed at the least question; fixed at one ahead of it -/
theorem fix_top {es : List Int} (hn : es.Nodup) {x : Int} {w t : Bd} (h : Wf es (.nd x w t)) : fixL (tt es (.nd x w t)) (es.idxOf x) false = tt es w ∧ fixL (tt es (.nd x w t)) (es.idxOf x) true = tt es t ∧ tt es w ≠ tt es t ∧ es.idxOf x < es.length ∧ es[es.idxOf x]? = some x ∧
    ∀ k, k < es.idxOf x → ∀ b, fixL (tt es (.nd x w t)) k b = tt es (.nd x w t) := by
  obtain ⟨w1, w2⟩ := wf_kids h
  obtain ⟨pre, po, rfl, h1, h2, h3⟩ := wf_nd h
  have hx : (pre ++ x :: po)[pre.length]? = some x := by rw [List.getElem?_append_right (Nat.le_refl _), Nat.sub_self]; rfl
  have hnp : x ∉ po := by
    rw [List.nodup_append, List.nodup_cons] at hn
    exact hn.2.1.1
  have ni := top_at hn
  rw [ni]
  refine ⟨fixL_eq hn h hx fun r => ?_, fixL_eq hn h hx fun r => ?_, fun z => h3 (tt_inj hn w1 w2 z), by simp, hx, fun k hk b => ?_⟩
  · show (if setR r x false x = true then _ else _) = _
    rw [setR_same, if_neg Bool.false_ne_true, h1.away hnp]
  · show (if setR r x true x = true then _ else _) = _
    rw [setR_same, if_pos rfl, h2.away hnp]
  · have hy : (pre ++ x :: po)[k]? = some pre[k] := by rw [List.getElem?_append_left hk, List.getElem?_eq_getElem hk]
    refine fixL_eq hn h hy fun r => ?_
    have hw : Wf (x :: po) (.nd x w t) := .here h1 h2 h3
    refine hw.away fun z => ?_
    rw [List.nodup_append] at hn
    exact hn.2.2 _ (List.getElem_mem hk) _ z rfl
theorem fix_lf {es : List Int} (hn : es.Nodup) {v : Bool} {k : Nat} (hk : k < es.length) (b : Bool) : fixL (tt es (.lf v)) k b = tt es (.lf v) := fixL_eq hn .lf (List.getElem?_eq_getElem hk) fun _ => rfl

/-! ### the laws' truth tables -/
def bDt (es : List Int) (a : Bd) : PyData := .tuple ((tt es a).map PyData.bool)
theorem dp_tt {K : PySem.W.Frag} {H : Hp} {p : Addr} {l : List Bool} (h : SqT K H p (l.map V.bl)) : Dp K H (.ref p) (.tuple (l.map PyData.bool)) := .tup h (dpa_map _ _ (fun i => .bl i) l)
theorem bDt_only (es : List Int) : ∀ as : List Bd, tupOnlys (as.map (bDt es)) = true
  | [] => rfl
  | a :: as => by
    rw [List.map_cons]
    unfold tupOnlys
    rw [bDt_only es as, Bool.and_true]
    unfold bDt tupOnly
    induction tt es a with
    | nil => rfl
    | cons b bs ih =>
      rw [List.map_cons]
      unfold tupOnlys
      rw [ih]
      rfl
theorem bDt_1 (es : List Int) (a : Bd) : tupOnly (bDt es a) = true := by
  have := bDt_only es [a]
  rw [List.map_cons] at this
  unfold tupOnlys at this
  rw [Bool.and_eq_true] at this
  exact this.1
theorem tup_shaped (l : List Bool) : SeqAt.shaped (.tuple (l.map PyData.bool)) = true := by
  have h := bls_shaped l
  unfold SeqAt.shaped at h ⊢
  unfold PyData.canLay0 PyData.depth at h ⊢
  exact h
theorem tup_eqv (a b : List Bool) : PyData.eqv (.tuple (a.map PyData.bool)) (.tuple (b.map PyData.bool)) = decide (a = b) := by
  unfold PyData.eqv
  exact bls_eqvAll a b
theorem bDt_eqv {es : List Int} (hn : es.Nodup) {a b : Bd} (wa : Wf es a) (wb : Wf es b) : PyData.eqv (bDt es a) (bDt es b) = decide (a = b) := by
  unfold bDt
  rw [tup_eqv, decide_eq_decide]
  exact ⟨tt_inj hn wa wb, fun h => by rw [h]⟩
theorem bDts_shaped (es : List Int) (as : List Bd) : SeqAt.shaped (.list (as.map (bDt es))) = true := by
  have e1 : PyData.canLayAll0 (as.map (bDt es)) = true := by
    induction as with
    | nil => rfl
    | cons x xs ih =>
      rw [List.map_cons]
      unfold PyData.canLayAll0
      rw [ih, Bool.and_true]
      have := SeqAt.canLay_of_shaped (tup_shaped (tt es x))
      exact this
  have e2 : PyData.depthAll (as.map (bDt es)) ≤ 1 := by
    clear e1
    induction as with
    | nil => exact Nat.zero_le _
    | cons x xs ih =>
      rw [List.map_cons]
      unfold PyData.depthAll
      refine Nat.max_le.mpr ⟨?_, ih⟩
      unfold bDt PyData.depth
      have : PyData.depthAll ((tt es x).map PyData.bool) = 0 := by
        induction tt es x with
        | nil => rfl
        | cons b bs ih =>
          rw [List.map_cons]
          unfold PyData.depthAll
          rw [ih]
          rfl
      omega
  unfold SeqAt.shaped
  rw [Bool.and_eq_true]
  refine ⟨by unfold PyData.canLay0; exact e1, decide_eq_true ?_⟩
  unfold PyData.depth
  omega
theorem any_eqv {es : List Int} (hn : es.Nodup) {a : Bd} (wa : Wf es a) : ∀ {as : List Bd}, (∀ b ∈ as, Wf es b) → ((as.map (bDt es)).any fun z => PyData.eqv z (bDt es a)) = decide (a ∈ as)
  | [], _ => rfl
  | b :: as, h => by
    rw [List.map_cons, List.any_cons, any_eqv hn wa fun c hc => h c (List.mem_cons_of_mem _ hc), bDt_eqv hn (h b List.mem_cons_self) wa]
    by_cases e : b = a
    · subst e
      rw [decide_eq_true rfl, Bool.true_or]
      exact (decide_eq_true List.mem_cons_self).symm
    · rw [decide_eq_false e, Bool.false_or, decide_eq_decide, List.mem_cons]
      exact ⟨.inr, fun z => z.elim (fun z => absurd z.symm e) id⟩
/-- a list of truth tables -/
def TtL (K : PySem.W.Frag) (H : Hp) (p : Addr) (es : List Int) (as : List Bd) : Prop := ∃ vs, H p = some (.lst vs) ∧ DpAll K H vs (as.map (bDt es))
theorem TtL.ext {K : PySem.W.Frag} {H H' : Hp} {p : Addr} {es : List Int} {as : List Bd} (e : Same H H') (h : TtL K H p es as) : TtL K H' p es as := by
  obtain ⟨vs, h1, h2⟩ := h
  exact ⟨vs, e _ _ h1, DpAll.ext e _ _ h2⟩
theorem TtL.dp {K : PySem.W.Frag} {H : Hp} {p : Addr} {es : List Int} {as : List Bd} (h : TtL K H p es as) : Dp K H (.ref p) (.list (as.map (bDt es))) := by
  obtain ⟨vs, h1, h2⟩ := h
  exact .lst (.of h1) h2
theorem TtL.get {K : PySem.W.Frag} {H : Hp} {p : Addr} {es : List Int} {as : List Bd} (h : TtL K H p es as) : ∃ vs, H p = some (.lst vs) ∧ vs.length = as.length ∧ ∀ (i : Nat) v, vs[i]? = some v → ∃ q a, v = .ref q ∧ as[i]? = some a ∧ SqT K H q ((tt es a).map V.bl) := by
  obtain ⟨vs, h1, h2⟩ := h
  have hl : vs.length = as.length := by rw [DpAll.len h2, List.length_map]
  refine ⟨vs, h1, hl, fun i v hv => ?_⟩
  have hi : i < as.length := by rw [← hl]; exact (List.getElem?_eq_some_iff.mp hv).1
  obtain ⟨u, hu, hd⟩ := DpAll.get h2 (show (as.map (bDt es))[i]? = some (bDt es as[i]) by rw [List.getElem?_map, List.getElem?_eq_getElem hi]; rfl)
  have e : u = v := Option.some.inj (hu.symm.trans hv)
  subst e
  obtain ⟨q, xs, rfl, hs, hx⟩ := dp_tup hd
  refine ⟨q, as[i], rfl, List.getElem?_eq_getElem hi, ?_⟩
  have : xs = (tt es as[i]).map V.bl := by
    generalize tt es as[i] = l at hx
    clear hu hv hd hs
    induction l generalizing xs with
    | nil => cases hx; rfl
    | cons b l ih =>
      rw [List.map_cons] at hx
      cases hx with
      | cons h1 h2 =>
        cases h1
        rw [List.map_cons, ih _ h2]
  rw [this] at hs
  exact hs
theorem TtL.snoc {K : PySem.W.Frag} {H : Hp} {p q : Addr} {es : List Int} {as : List Bd} {a : Bd} {vs : List V} (h : TtL K H p es as) (e : H p = some (.lst vs)) (hq : SqT K H q ((tt es a).map V.bl)) : TtL K (upd H p (.lst (vs ++ [.ref q]))) p es (as ++ [a]) := by
  obtain ⟨vs', h1, h2⟩ := h
  have ev : vs' = vs := by rw [h1] at e; exact HO.lst.inj (Option.some.inj e)
  subst ev
  refine ⟨_, upd_same, ?_⟩
  rw [List.map_append]
  exact DpAll.snoc (DpAll.away h1 _ _ (bDt_only es as) h2) (Dp.away h1 _ _ (bDt_1 es a) (dp_tt hq))
theorem fixL_len (l : List Bool) (k : Nat) (b : Bool) : (fixL l k b).length = l.length := by unfold fixL; rw [List.length_map, List.length_range]
def bI (b : Bool) : Int := if b = true then 1 else 0
def sp_truth (K : PySem.W.Frag) (n : Nat) : Sp := fun vs H Q _ => ∃ v ea es t, vs = [v, .ref ea] ∧ Dp K H v (Tr.d t) ∧ H ea = some (.lst (es.map V.int)) ∧ es.length ≤ 10 ∧ Tr.ht t < n ∧ ∀ H' p, Same H H' → H' p = some (.tup ((tru es t).map V.bl)) → Q (.ref p) H'
def sp_fixed (K : PySem.W.Frag) : Sp := fun vs H Q _ => ∃ p, ∃ l : List Bool, ∃ k b n, vs = [.ref p, .int ((k : Nat) : Int), .int (bI b)] ∧ SqT K H p (l.map V.bl) ∧ l.length = 2 ^ n ∧ k < n ∧ n ≤ 10 ∧ ∀ H' q, Same H H' → H' q = some (.tup ((fixL l k b).map V.bl)) → Q (.ref q) H'
def topV (es : List Int) : Bd → V
  | .lf _ => .non
  | .nd e _ _ => .int ((es.idxOf e : Nat) : Int)
def sp_ltop (K : PySem.W.Frag) : Sp := fun vs H Q _ => ∃ p es a, vs = [.ref p, .int ((es.length : Nat) : Int)] ∧ SqT K H p ((tt es a).map V.bl) ∧ Wf es a ∧ es.Nodup ∧ es.length ≤ 10 ∧ ∀ H', Same H H' → Q (topV es a) H'

/-! ### x in l of data -/
theorem hu65 {k : Nat} {A : Around} (hr : Room k A) : A.units + 65 < cLine := by have := hr.un; omega
theorem inDK {X : Cx} (K : PySem.W.Frag) (hu : X.A.units + 65 < cLine) (h : X.K = K := by rfl) : OpR X (compareOp .In) (rInD K) := by subst h; exact op_inD hu
theorem notInDK {X : Cx} (K : PySem.W.Frag) (hu : X.A.units + 65 < cLine) (h : X.K = K := by rfl) : OpR X (compareOp .NotIn) (rNotInD K) := by subst h; exact op_notInD hu

theorem indexDK {X : Cx} (K : PySem.W.Frag) (hu : X.A.units + 65 < cLine) (h : X.K = K := by rfl) : MtR X "list.index" (rIndexD K) := by subst h; exact mt_indexD hu
theorem tIf_val {c : Bool} {ta tb : TE} {σ : L2.St} {H : Hp} {Q : VK} {v : V} (h1 : c = true → ∀ Q : VK, Q v H → ta σ H Q) (h2 : c = false → ∀ Q : VK, Q v H → tb σ H Q) (q : Q v H) : if c = true then ta σ H Q else tb σ H Q := by
  cases c with
  | true => exact iteT (h1 rfl Q q)
  | false => exact iteF (h2 rfl Q q)
section
variable {P : Program} {w : World} {K : PySem.W.Frag} {mg : Str → Option Value} {base : Heap}
theorem ok_truth (n : Nat) {f : Addr} {fd : FuncData} (F : Fun K "_law_truth" "_law_truth" s__law_truth f fd) (M : Mg mg) (c__law_subsets : Cl P w K mg base 1 "_law_subsets" sp_subs) (c__law_true : Cl P w K mg base (n + 1) "_law_true" (sp_true K n)) : FnOk P w K mg base CX0 (n + 2) f fd ["tree", "entries"] (sp_truth K n) := by
  refine F.ok sc__law_truth (fun vs H Q E h => ?_) (fun cdv A outer s H vs Q E hr h => ?_)
  · obtain ⟨v, ea, es, t, rfl, _⟩ := h
    rfl
  · obtain ⟨v, ea, es, t, rfl, dp, he, hl, hn, q⟩ := h
    refine ⟨_, (pss_one (ps_ret (pe_callTy (tupleK K) (by rfl) M.tuple (by decide +kernel) (pa_cons (pe_lc (own := [("part", 2)]) (g := gName 2) (tt := tYes) rfl sc__law_truth.nd (pi_list (pe_u c__law_subsets hr (by first | decide | omega) (by rfl) (pa_cons (pv 1) pa_nil))) (blkOk_by (N := N__law_truth) (sc := defScope s__law_truth) (by decide +kernel)) (fun _ _ _ _ _ => (pg_name (i := 2) sc__law_truth.nd rfl (.inl rfl))) (fun _ _ _ _ _ => pts_nil) (fun _ _ _ _ _ => (pe_u c__law_true hr (by first | decide | omega) (by rfl) (pa_cons (pv 0) (pa_cons (pv 2) pa_nil))))) pa_nil)))), ?_⟩
    refine ⟨_, rfl, ea, es, rfl, he, hl, fun Hs sp ss nsp ll => ?_⟩
    obtain ⟨as, l1', l2', l3'⟩ := ll.get
    refine ⟨sp, rfl, ⟨_, .of l1'⟩, fun D nD => ?_⟩
    have lsub : (subs es).length ≤ 1024 := by
      rw [subs_len]
      exact Nat.le_trans (Nat.pow_le_pow_right (by decide) hl) (by decide)
    refine lc_list (K := K) (a := sp) (xs := as.map V.ref) (fun j Hj => Same Hs Hj ∧ Hj D = some (.lst ((((subs es).take j).map fun p => t.ev fun e => decide (e ∈ p)).map V.bl))) ⟨same_upd nD, upd_same⟩ (fun j Hj _ hp => .of (hp.1 _ _ l1')) (fun j y Hj hy hp => ?_) (fun Hm hp => ?_)
    · obtain ⟨sj, eD⟩ := hp
      obtain ⟨b, l, rfl, hl2, hb⟩ := l3' j y hy
      have hj : j < (subs es).length := (List.getElem?_eq_some_iff.mp hl2).1
      refine ⟨rfl, ?_⟩
      refine ⟨_, rfl, _, rfl, v, b, t, l, rfl, Dp.ext (ss.trans sj) _ _ dp, .of (sj _ _ hb), hn, ?_⟩
      refine ⟨_, eD, ?_, ?_, ?_⟩
      · rw [List.length_map, List.length_map, List.length_take]
        exact Nat.lt_of_le_of_lt (m := 1024) (by omega) (by decide)
      · intro z o e
        rw [upd_ne (ne_of_none e nD)]
        exact sj _ _ e
      · rw [upd_same, List.take_add_one, hl2, List.map_append, List.map_append]
        rfl
    · obtain ⟨sm, eD⟩ := hp
      rw [List.length_map, l2', List.take_of_length_le (Nat.le_refl _)] at eD
      refine ⟨D, _, rfl, .inl ⟨.of eD, fun T nT => ?_⟩⟩
      exact q _ T ((ss.trans sm).trans (same_upd nT)) upd_same
theorem ok_fixed {f : Addr} {fd : FuncData} (F : Fun K "_law_fixed" "_law_fixed" s__law_fixed f fd) (M : Mg mg) : FnOk P w K mg base CX0 1 f fd ["truth", "k", "there"] (sp_fixed K) := by
  refine F.ok sc__law_fixed (fun vs H Q E h => ?_) (fun cdv A outer s H vs Q E hr h => ?_)
  · obtain ⟨p, l, k, b, n, rfl, _⟩ := h
    rfl
  · obtain ⟨p, l, k, b, n, rfl, hp, hl, hk, hn, q⟩ := h
    have p10 : ∀ {j : Nat}, j ≤ 10 → 2 ^ j ≤ 1024 := fun {j} h => Nat.le_trans (Nat.pow_le_pow_right (by decide) h) (by decide)
    have hl2 : l.length ≤ 1024 := by rw [hl]; exact p10 hn
    have hk2 := p10 (show k ≤ 10 by omega)
    have hb : 0 ≤ bI b ∧ bI b ≤ 1 := by cases b <;> decide
    refine ⟨_, (pss_cons (ps_set (i := 3) sc__law_fixed.nd rfl (.inl rfl) pe_int)
      (pss_cons (ps_for PassesOwn.never rfl (pi_range1 (by rfl) M.range (pa_cons (pv 1) pa_nil)) (pg_name (i := 4) sc__law_fixed.nd rfl (.inl rfl)) (pss_one (ps_set (i := 3) sc__law_fixed.nd rfl (.inl rfl) (pe_op op_mul (pv 3) pe_int))))
      (pss_cons (ps_set (i := 5) sc__law_fixed.nd rfl (.inl rfl) (pe_lst pa_nil))
      (pss_cons (ps_for PassesOwn.never rfl (pi_range1 (by rfl) M.range (pa_cons (pe_callB (len_seqK K) (by rfl) M.len PySem.boot_len (pa_cons (pv 0) pa_nil)) pa_nil)) (pg_name (i := 6) sc__law_fixed.nd rfl (.inl rfl)) (pss_cons (ps_set (i := 7) sc__law_fixed.nd rfl (.inl rfl) (pe_ifExp (pt_cmpR op_eq (pe_op op_mod (pe_op op_fdivW (pv 6) (pv 3)) pe_int) pe_int (nomark _)) (pe_op op_sub (pv 6) (pv 3)) (pv 6)))
      (pss_one (ps_expr (pe_bmK K PySem.F.plainAttrs_list PySem.F.slot_list_append PySem.F.type_list_append mt_append (pv 5) (pa_cons (pe_ix (ix_tupK K) (pv 0) (pe_op op_add (pv 7) (pe_op op_mul (pv 3) (pv 2))) (fun _ _ => rfl)) pa_nil))))))
      (pss_one (ps_ret (pe_callTy (tupleK K) (by rfl) M.tuple (by decide +kernel) (pa_cons (pv 5) pa_nil)))))))), ?_⟩
    refine ⟨_, rfl, _, rfl, by omega, by omega, ?_⟩
    refine for_range (lo := 0) (n := ((k : Nat) : Int).toNat) (fun i σ Hi => Hi = H ∧ ∃ z, σ = [some (.ref p), some (.int ((k : Nat) : Int)), some (.int (bI b)), some (.int ((2 ^ i : Nat) : Int)), z, none, none, none]) ⟨rfl, _, rfl⟩ (fun i σ Hi hi hp' => ?_) (fun σ Hn hp' => ?_)
    · obtain ⟨rfl, z, rfl⟩ := hp'
      have hi2 := p10 (show i ≤ 10 by omega)
      refine ⟨_, rfl, _, _, rfl, rfl, .inr ⟨by decide, by decide⟩, rfl, some (.int (0 + (i : Int))), ?_⟩
      rw [Nat.pow_succ]
      rfl
    · obtain ⟨rfl, z, rfl⟩ := hp'
      rw [Int.toNat_natCast]
      refine ⟨by show 0 ≤ sizeLine; decide, fun D nD => ?_⟩
      refine ⟨_, rfl, p, _, rfl, .inr (SqT.ext (same_upd nD) hp), ?_⟩
      rw [List.length_map]
      refine ⟨_, rfl, by omega, by omega, ?_⟩
      refine for_range (lo := 0) (n := ((l.length : Nat) : Int).toNat) (fun i σ Hi => Same Hn Hi ∧ (∃ z5 z6 z7, σ = [some (.ref p), some (.int ((k : Nat) : Int)), some (.int (bI b)), some (.int ((2 ^ k : Nat) : Int)), z5, some (.ref D), z6, z7]) ∧ Hi D = some (.lst (((fixL l k b).take i).map V.bl))) ⟨same_upd nD, ⟨_, _, _, rfl⟩, upd_same⟩ (fun i σ Hi hi hp' => ?_) (fun σ Hm hp' => ?_)
      · obtain ⟨si, ⟨z5, z6, z7, rfl⟩, eD⟩ := hp'
        have hi : i < l.length := by omega
        have h2k : 0 < 2 ^ k := Nat.two_pow_pos k
        have hdv : CDivW ((0 : Int) + (i : Int)) ((2 ^ k : Nat) : Int) := wide_div (b := 64) (by omega) (by omega) (by decide) (by decide)
        have ebit : decide (V.int (((0 : Int) + (i : Int)) / ((2 ^ k : Nat) : Int) % 2) = V.int 1) = i.testBit k := by
          rw [Int.zero_add, Nat.testBit_eq_decide_div_mod_eq, decide_eq_decide, ← Int.natCast_ediv]
          constructor
          · intro z
            have := V.int.inj z
            omega
          · intro z
            refine congrArg V.int ?_
            omega
        have hsub : i.testBit k = true → 2 ^ k ≤ i := fun h => Nat.ge_two_pow_of_testBit h
        refine ⟨_, rfl, _, rfl, _, _, rfl, rfl, hdv, _, _, rfl, rfl, by show (0 : Int) < 2; decide, rfl, _, rfl, ?_⟩
        dsimp only
        rw [ebit]
        refine tIf_val (v := .int (((if i.testBit k = true then i - 2 ^ k else i) : Nat) : Int)) (fun e Q q => ⟨_, rfl, _, rfl, _, _, rfl, rfl, ?_⟩) (fun e Q q => ⟨_, rfl, ?_⟩) ?_
        · have := hsub e
          rw [e, if_pos rfl] at q
          dsimp only
          rw [show (0 : Int) + (i : Int) - ((2 ^ k : Nat) : Int) = ((i - 2 ^ k : Nat) : Int) by omega]
          exact q
        · rw [e, if_neg Bool.false_ne_true] at q
          rw [Int.zero_add]
          exact q
        have hf : fxI k b i < l.length := by rw [hl] at hi ⊢; exact fxI_lt hk hi
        have eix : (((if i.testBit k = true then i - 2 ^ k else i) : Nat) : Int) + ((2 ^ k : Nat) : Int) * bI b = ((fxI k b i : Nat) : Int) := by
          unfold fxI bI
          cases b
          · rw [if_neg Bool.false_ne_true, if_neg Bool.false_ne_true, Int.mul_zero]
            omega
          · rw [if_pos rfl, if_pos rfl, Int.mul_one]
            omega
        refine ⟨_, rfl, .inl ⟨rfl, _, .inl (.inl eD)⟩, _, rfl, _, rfl, _, rfl, _, rfl, _, _, rfl, rfl, .inl ⟨by omega, by omega⟩, _, _, rfl, rfl, ?_⟩
        dsimp only
        rw [eix]
        refine ⟨p, _, _, .bl (l.getD (fxI k b i) false), rfl, rfl, SqT.ext si hp, atI_nat (by rw [List.getElem?_map, List.getElem?_eq_getElem hf, List.getD_eq_getElem?_getD, List.getElem?_eq_getElem hf]; rfl), ?_⟩
        refine ⟨D, _, _, rfl, rfl, eD, ?_, ?_, ⟨_, _, _, rfl⟩, ?_⟩
        · rw [List.length_map, List.length_take]
          exact Nat.lt_of_le_of_lt (m := 1024) (by omega) (by decide)
        · intro z o e
          rw [upd_ne (ne_of_none e nD)]
          exact si _ _ e
        · have hg : (fixL l k b)[i]? = some (l.getD (fxI k b i) false) := by
            unfold fixL
            rw [List.getElem?_map, List.getElem?_range hi]
            rfl
          rw [upd_same, List.take_add_one, hg, List.map_append]
          rfl
      · obtain ⟨sm, ⟨z5, z6, z7, rfl⟩, eD⟩ := hp'
        rw [Int.toNat_natCast, ← fixL_len l k b, List.take_of_length_le (Nat.le_refl _)] at eD
        refine ⟨_, rfl, D, _, rfl, .inl ⟨.of eD, fun T nT => ?_⟩⟩
        exact q _ T (sm.trans (same_upd nT)) upd_same
end


theorem idx_ne : ∀ {l : List Bd} {m : Nat} {b a : Bd}, l[m]? = some b → m < l.idxOf a → b ≠ a
  | [], _, _, _, h, _ => by simp at h
  | x :: l, 0, b, a, h, hm => by
    have : x = b := Option.some.inj h
    subst this
    intro z
    subst z
    rw [List.idxOf_cons_self] at hm
    omega
  | x :: l, m + 1, b, a, h, hm => by
    have h : l[m]? = some b := by simpa using h
    by_cases e : x = a
    · subst e
      rw [List.idxOf_cons_self] at hm
      omega
    · have e1 : (x :: l).idxOf a = l.idxOf a + 1 := by rw [List.idxOf_cons, beq_false_of_ne e]; rfl
      exact idx_ne h (by omega)
def sp_lnum (K : PySem.W.Frag) : Sp := fun vs H Q _ => ∃ p kp es acc a, vs = [.ref p, .ref kp] ∧ SqT K H p ((tt es a).map V.bl) ∧ TtL K H kp es acc ∧ es.Nodup ∧ Wf es a ∧ (∀ b ∈ acc, Wf es b ∧ ∃ e w t, b = .nd e w t) ∧ knw acc a = true ∧ ∀ H', Same H H' → Q (.int ((nmb acc a : Nat) : Int)) H'
def sp_llis (K : PySem.W.Frag) (n : Nat) : Sp := fun vs H Q _ => ∃ p ea kp es acc a, vs = [.ref p, .ref ea, .ref kp] ∧ SqT K H p ((tt es a).map V.bl) ∧ H ea = some (.lst (es.map V.int)) ∧ TtL K H kp es acc ∧ es.Nodup ∧ es.length ≤ 10 ∧ Wf es a ∧ a.ht < n ∧ (∀ b ∈ acc, Wf es b) ∧ acc.length + a.sz ≤ 100000 ∧ ∀ H' kp', Same H H' → TtL K H' kp' es (post acc a) → Q (.ref kp') H'
theorem nd_ex {a : Bd} (h : ∀ b, a ≠ .lf b) : ∃ e w t, a = .nd e w t := by
  cases a with
  | lf b => exact absurd rfl (h b)
  | nd e w t => exact ⟨e, w, t, rfl⟩
theorem ht_le {es : List Int} {a : Bd} (h : Wf es a) : a.ht ≤ es.length := by
  induction h with
  | lf => exact Nat.zero_le _
  | here _ _ _ iw it => exact Nat.succ_le_succ (Nat.max_le.mpr ⟨iw, it⟩)
  | skip _ ih => exact Nat.le_succ_of_le ih
section
variable {P : Program} {w : World} {K : PySem.W.Frag} {mg : Str → Option Value} {base : Heap}
theorem ok_ltop {f : Addr} {fd : FuncData} (F : Fun K "_law_top" "_law_top" s__law_top f fd) (M : Mg mg) (c__law_fixed : Cl P w K mg base 1 "_law_fixed" (sp_fixed K)) : FnOk P w K mg base CX0 2 f fd ["truth", "count"] (sp_ltop K) := by
  refine F.ok sc__law_top (fun vs H Q E h => ?_) (fun cdv A outer s H vs Q E hr h => ?_)
  · obtain ⟨p, es, a, rfl, _⟩ := h
    rfl
  · obtain ⟨p, es, a, rfl, hp, wa, hn, hl, q⟩ := h
    refine ⟨_, (pss_cons (ps_for PassesOwn.never rfl (pi_range1 (by rfl) M.range (pa_cons (pv 1) pa_nil)) (pg_name (i := 2) sc__law_top.nd rfl (.inl rfl)) (pss_one (ps_if (pt_cmpR (neDK K hr.units) (pe_u c__law_fixed hr (by first | decide | omega) (by rfl) (pa_cons (pv 0) (pa_cons (pv 2) (pa_cons pe_int pa_nil)))) (pe_u c__law_fixed hr (by first | decide | omega) (by rfl) (pa_cons (pv 0) (pa_cons (pv 2) (pa_cons pe_int pa_nil)))) (nomark _)) (pss_one (ps_ret (pv 2))) pss_nil)))
      (pss_one (ps_ret pe_non))), ?_⟩
    refine ⟨_, rfl, _, rfl, by omega, by omega, ?_⟩
    refine for_range (lo := 0) (n := ((es.length : Nat) : Int).toNat) (fun i σ Hi => Same H Hi ∧ (∃ z, σ = [some (.ref p), some (.int ((es.length : Nat) : Int)), z]) ∧ ∀ e w t, a = .nd e w t → i ≤ es.idxOf e) ⟨fun _ _ h => h, ⟨_, rfl⟩, fun _ _ _ _ => Nat.zero_le _⟩ (fun i σ Hi hi hp' => ?_) (fun σ Hn hp' => ?_)
    · obtain ⟨si, ⟨z, rfl⟩, hx⟩ := hp'
      have hi : i < es.length := by omega
      rw [Int.zero_add]
      refine ⟨_, rfl, _, rfl, p, _, i, false, es.length, rfl, SqT.ext si hp, tt_len es a, hi, hl, fun H1 q1 s1 e1 => ?_⟩
      refine ⟨_, rfl, _, rfl, p, _, i, true, es.length, rfl, SqT.ext (si.trans s1) hp, tt_len es a, hi, hl, fun H2 q2 s2 e2 => ?_⟩
      refine ⟨_, _, dp_tt (.of (s2 _ _ e1)), dp_tt (.of e2), tup_shaped _, tup_shaped _, _, rfl, ?_⟩
      rw [tup_eqv]
      have s02 := (si.trans s1).trans s2
      cases a with
      | lf v =>
        rw [fix_lf hn hi, fix_lf hn hi, decide_eq_true rfl]
        exact iteF ⟨s02, ⟨_, rfl⟩, fun _ _ _ h => nomatch h⟩
      | nd e w t =>
        obtain ⟨t1, t2, t3, t4, t5, t6⟩ := fix_top hn wa
        have hx := hx e w t rfl
        by_cases hie : i = es.idxOf e
        · subst hie
          rw [t1, t2, decide_eq_false t3]
          refine iteT ⟨_, rfl, ?_⟩
          exact q H2 s02
        · have hlt : i < es.idxOf e := by omega
          rw [t6 i hlt, t6 i hlt, decide_eq_true rfl]
          refine iteF ⟨s02, ⟨_, rfl⟩, fun e' w' t' h => ?_⟩
          cases h
          exact hlt
    · obtain ⟨sn, ⟨z, rfl⟩, hx⟩ := hp'
      cases a with
      | lf v => exact q Hn sn
      | nd e w t =>
        have h1 := hx e w t rfl
        obtain ⟨_, _, _, t4, _⟩ := fix_top hn wa
        omega
end

/-! ### all sets of rows -/
theorem subs_sub2 (es : List Int) : ∀ p ∈ subs es, p.Sublist es := by
  have h : ∀ (es pre : List Int) (f : List (List Int)), (∀ p ∈ f, p.Sublist pre) → ∀ p ∈ es.foldl (fun f e => f ++ f.map (· ++ [e])) f, p.Sublist (pre ++ es) := by
    intro es
    induction es with
    | nil => intro pre f h p hp; rw [List.append_nil]; exact h p hp
    | cons x es ih =>
      intro pre f h p hp
      rw [List.foldl_cons] at hp
      have := ih (pre ++ [x]) _ (fun q hq => ?_) p hp
      · rw [List.append_assoc] at this
        exact this
      · rcases List.mem_append.mp hq with hq | hq
        · exact (h q hq).trans (List.sublist_append_left _ _)
        · obtain ⟨r, hr, rfl⟩ := List.mem_map.mp hq
          exact List.Sublist.append (h r hr) (List.Sublist.refl _)
  intro p hp
  exact h es [] [[]] (by intro q hq; rw [List.mem_singleton.mp hq]; exact List.Sublist.refl _) p hp
theorem pw_ext2 : ∀ {a b : List Int}, a.Pairwise (· < ·) → b.Pairwise (· < ·) → (∀ x, x ∈ a ↔ x ∈ b) → a = b
  | [], [], _, _, _ => rfl
  | [], y :: b, _, _, h => absurd ((h y).mpr List.mem_cons_self) List.not_mem_nil
  | x :: a, [], _, _, h => absurd ((h x).mp List.mem_cons_self) List.not_mem_nil
  | x :: a, y :: b, ha, hb, h => by
    rw [List.pairwise_cons] at ha hb
    have e : x = y := by
      rcases List.mem_cons.mp ((h x).mp List.mem_cons_self) with e | m
      · exact e
      · rcases List.mem_cons.mp ((h y).mpr List.mem_cons_self) with e | m2
        · exact e.symm
        · have h1 := hb.1 x m
          have h2 := ha.1 y m2
          omega
    subst e
    refine congrArg (x :: ·) (pw_ext2 ha.2 hb.2 fun z => ⟨fun hz => ?_, fun hz => ?_⟩)
    · rcases List.mem_cons.mp ((h z).mp (List.mem_cons_of_mem _ hz)) with e | m
      · have := ha.1 z hz
        omega
      · exact m
    · rcases List.mem_cons.mp ((h z).mpr (List.mem_cons_of_mem _ hz)) with e | m
      · have := hb.1 z hz
        omega
      · exact m
/-- every part of the entries, in their order, is one of the law's sets -/
theorem subs_mem {es p : List Int} (hs : es.Pairwise (· < ·)) (hp : p.Sublist es) : p ∈ subs es := by
  have hn : es.Nodup := hs.imp fun h => by omega
  obtain ⟨q, hq, h⟩ := subs_all hn fun x => decide (x ∈ p)
  have sq := subs_sub2 es q hq
  have e : q = p := pw_ext2 (hs.sublist sq) (hs.sublist hp) fun x => by
    constructor
    · intro hx
      have := h x (sq.subset hx)
      rw [decide_eq_decide] at this
      exact this.mp hx
    · intro hx
      have := h x (hp.subset hx)
      rw [decide_eq_decide] at this
      exact this.mpr hx
  rw [← e]
  exact hq

/-! ### the laws' sets in lists of their own -/
def LN (H0 H : Hp) (p : Addr) (ls : List (List Int)) : Prop := ∃ as : List Addr, H p = some (.lst (as.map V.ref)) ∧ as.length = ls.length ∧ ∀ (i : Nat) b l, as[i]? = some b → ls[i]? = some l → H0 b = none ∧ H b = some (.lst (l.map V.int))
theorem LN.ext {H0 H H' : Hp} {p : Addr} {ls : List (List Int)} (e : Same H H') (h : LN H0 H p ls) : LN H0 H' p ls := by
  obtain ⟨as, h1, h2, h3⟩ := h
  exact ⟨as, e _ _ h1, h2, fun i b l g1 g2 => ⟨(h3 i b l g1 g2).1, e _ _ (h3 i b l g1 g2).2⟩⟩
theorem LN.get {H0 H : Hp} {p : Addr} {ls : List (List Int)} (h : LN H0 H p ls) : ∃ as : List Addr, H p = some (.lst (as.map V.ref)) ∧ as.length = ls.length ∧ ∀ (i : Nat) v, (as.map V.ref)[i]? = some v → ∃ b l, v = .ref b ∧ ls[i]? = some l ∧ H b = some (.lst (l.map V.int)) := by
  obtain ⟨as, h1, h2, h3⟩ := h
  refine ⟨as, h1, h2, fun i v hv => ?_⟩
  rw [List.getElem?_map] at hv
  obtain ⟨b, hb, rfl⟩ := Option.map_eq_some_iff.mp hv
  have hi : i < ls.length := by rw [← h2]; exact (List.getElem?_eq_some_iff.mp hb).1
  exact ⟨b, ls[i], rfl, List.getElem?_eq_getElem hi, (h3 i b _ hb (List.getElem?_eq_getElem hi)).2⟩
theorem LN.fds {C : Addr} {K : PySem.W.Frag} {sa : SA} {N : Nds} {es : List Int} {L : Nat} {H0 H H' : Hp} {p : Addr} {ls : List (List Int)} (st : Sto C K H0 sa N es L) (n : H0 p = none) (f : FdS sa H H') (h : LN H0 H p ls) : LN H0 H' p ls := by
  obtain ⟨as, h1, h2, h3⟩ := h
  have g := bu_ne st n
  refine ⟨as, f _ _ g.1 g.2.1 g.2.2 h1, h2, fun i b l g1 g2 => ?_⟩
  obtain ⟨k1, k2⟩ := h3 i b l g1 g2
  have g' := bu_ne st k1
  exact ⟨k1, f _ _ g'.1 g'.2.1 g'.2.2 k2⟩
def sp_subsN : Sp := fun vs H Q _ => ∃ a, ∃ es : List Int, vs = [.ref a] ∧ H a = some (.lst (es.map V.int)) ∧ es.length ≤ 10 ∧ ∀ H' p, Same H H' → H p = none → LN H H' p (subs es) → Q (.ref p) H'
theorem LN.app {H0 H : Hp} {p q a b : Addr} {ls ms : List (List Int)} {xs ys : List V} (np : H p = none) (h1 : LN H0 H a ls) (h2 : LN H0 H b ms) (e1 : H a = some (.lst xs)) (e2 : H b = some (.lst ys)) : LN H0 (upd H p (.lst (xs ++ ys))) p (ls ++ ms) := by
  obtain ⟨as, g1, g2, g3⟩ := h1
  obtain ⟨bs, k1, k2, k3⟩ := h2
  have ex : xs = as.map V.ref := by rw [g1] at e1; exact (HO.lst.inj (Option.some.inj e1)).symm
  have ey : ys = bs.map V.ref := by rw [k1] at e2; exact (HO.lst.inj (Option.some.inj e2)).symm
  refine ⟨as ++ bs, by rw [upd_same, ex, ey, List.map_append], by rw [List.length_append, List.length_append, g2, k2], fun i c l hc hl => ?_⟩
  suffices z : H0 c = none ∧ H c = some (.lst (l.map V.int)) from ⟨z.1, same_upd np _ _ z.2⟩
  by_cases hi : i < as.length
  · rw [List.getElem?_append_left hi] at hc
    rw [List.getElem?_append_left (by omega)] at hl
    exact g3 i c l hc hl
  · rw [List.getElem?_append_right (by omega)] at hc
    rw [List.getElem?_append_right (by omega), ← g2] at hl
    exact k3 _ c l hc hl
section
variable {P : Program} {w : World} {K : PySem.W.Frag} {mg : Str → Option Value} {base : Heap}
theorem ok_subsN {f : Addr} {fd : FuncData} (F : Fun K "_law_subsets" "_law_subsets" s__law_subsets f fd) (M : Mg mg) : FnOk P w K mg base CX0 1 f fd ["entries"] sp_subsN := by
  refine F.ok sc__law_subsets (fun vs H Q E h => ?_) (fun cdv A outer s H vs Q E hr h => ?_)
  · obtain ⟨a, es, rfl, _⟩ := h
    rfl
  · obtain ⟨a, es, rfl, ha, hl, q⟩ := h
    refine ⟨_, (pss_cons (ps_set (i := 1) sc__law_subsets.nd rfl (.inl rfl) (pe_lst (pa_cons (pe_lst pa_nil) pa_nil)))
      (pss_cons (ps_for PassesOwn.never rfl (pi_list (pv 0)) (pg_name (i := 2) sc__law_subsets.nd rfl (.inr rfl)) (pss_one (ps_set (i := 1) sc__law_subsets.nd rfl (.inl rfl) (pe_op op_cat (pv 1) (pe_lc (own := [("part", 3)]) (g := gName 3) (tt := tYes) rfl sc__law_subsets.nd (pi_list (pv 1)) (blkOk_by (N := N__law_subsets) (sc := defScope s__law_subsets) (by decide +kernel)) (fun _ _ _ _ _ => (pg_name (i := 3) sc__law_subsets.nd rfl (.inl rfl))) (fun _ _ _ _ _ => pts_nil) (fun _ _ _ _ _ => (pe_op op_cat (pv 3) (pe_lst (pa_cons (pv 2) pa_nil)))))))))
      (pss_one (ps_ret (pv 1))))), ?_⟩
    refine ⟨by show 0 ≤ sizeLine; decide, fun p1 n1 => ?_⟩
    have s1 := same_upd n1 (o := .lst [])
    have e1 : (upd H p1 (.lst [])) p1 = some (.lst (([] : List Int).map V.int)) := upd_same
    generalize upd H p1 (.lst []) = H1 at s1 e1
    refine ⟨by show 1 ≤ sizeLine; decide, fun p2 n2 => ?_⟩
    have s2 := same_upd n2 (o := .lst [.ref p1])
    have e2 : (upd H1 p2 (.lst [.ref p1])) p2 = some (.lst ([p1].map V.ref)) := upd_same
    generalize upd H1 p2 (.lst [.ref p1]) = H2 at s2 e2
    refine ⟨_, rfl, a, rfl, ⟨_, .of ((s1.trans s2) _ _ ha)⟩, ?_⟩
    refine for_list (K := K) (a := a) (xs := es.map V.int) (fun i σ Hi => ∃ (p : Addr) (z y : Option V), σ = [some (.ref a), some (.ref p), z, y] ∧ Same H Hi ∧ H p = none ∧ LN H Hi p (subs (es.take i))) ⟨p2, none, none, rfl, s1.trans s2, s1.free n2, [p1], e2, rfl, fun i b l hb hl => ?_⟩ (fun i σ Hi _ hp => by obtain ⟨p, z, y, rfl, si, _⟩ := hp; exact .of (si _ _ ha)) (fun i x σ Hi hx hp => ?_) (fun σ Hn hp => ?_)
    · match i, hb, hl with
      | 0, hb, hl =>
        cases hb
        cases hl
        exact ⟨n1, s2 _ _ e1⟩
      | i + 1, hb, _ => simp at hb
    · obtain ⟨p, z, y, rfl, si, np, ll⟩ := hp
      rw [List.getElem?_map] at hx
      obtain ⟨e, he, rfl⟩ := Option.map_eq_some_iff.mp hx
      have hi : i < es.length := (List.getElem?_eq_some_iff.mp he).1
      have et : es.take (i + 1) = es.take i ++ [e] := by rw [List.take_add_one, he]; rfl
      have lsub : (subs (es.take i)).length ≤ 1024 := by
        rw [subs_len, List.length_take]
        exact Nat.le_trans (Nat.pow_le_pow_right (by decide) (show min i es.length ≤ 10 by omega)) (by decide)
      obtain ⟨as, g1, g2, g3⟩ := id ll
      obtain ⟨as', k1, k2, k3⟩ := ll.get
      refine ⟨_, rfl, _, rfl, p, rfl, ⟨_, .of k1⟩, fun D nD => ?_⟩
      refine lc_list (K := K) (a := p) (xs := as'.map V.ref) (fun j Hj => Same Hi Hj ∧ LN H Hj D ((subs (es.take i)).take j |>.map (· ++ [e]))) ⟨same_upd nD, [], upd_same, rfl, fun i b l hb _ => by simp at hb⟩ (fun j Hj _ hp => .of (hp.1 _ _ k1)) (fun j x Hj hx hp => ?_) (fun Hn hp => ?_)
      · obtain ⟨sj, cs, c1, c2, c3⟩ := hp
        obtain ⟨b, l, rfl, hl, hb⟩ := k3 j x hx
        have hj : j < (subs (es.take i)).length := (List.getElem?_eq_some_iff.mp hl).1
        refine ⟨rfl, ?_⟩
        refine ⟨_, rfl, _, rfl, by show 1 ≤ sizeLine; decide, fun q1 nq1 => ?_⟩
        have t1 := same_upd nq1 (o := .lst [.int e])
        have eq1 : (upd Hj q1 (.lst [.int e])) q1 = some (.lst [.int e]) := upd_same
        generalize upd Hj q1 (.lst [.int e]) = Hj1 at t1 eq1
        have ll1 : l.length ≤ 10 := by
          have := subs_le _ l (List.mem_of_getElem? hl)
          have h2 := this.1
          rw [List.length_take] at h2
          omega
        refine ⟨b, q1, _, _, rfl, rfl, (sj.trans t1) _ _ hb, eq1, by rw [List.length_map]; exact Nat.le_trans (m := 100) (by show _ + 1 ≤ 100; omega) (by decide), fun q2 nq2 => ?_⟩
        have t2 := same_upd nq2 (o := .lst (l.map V.int ++ [.int e]))
        have eq2 : (upd Hj1 q2 (.lst (l.map V.int ++ [.int e]))) q2 = some (.lst ((l ++ [e]).map V.int)) := by rw [upd_same, List.map_append]; rfl
        generalize upd Hj1 q2 (.lst (l.map V.int ++ [.int e])) = Hj2 at t2 eq2
        have sj2 := (sj.trans t1).trans t2
        have cD := (t1.trans t2) _ _ c1
        refine ⟨_, cD, ?_, ?_, ?_⟩
        · rw [List.length_map, c2, List.length_map, List.length_take]
          exact Nat.lt_of_le_of_lt (m := 1024) (by omega) (by decide)
        · intro x o hx'
          rw [upd_ne (ne_of_none hx' nD)]
          exact sj2 _ _ hx'
        · refine ⟨cs ++ [q2], by rw [upd_same, List.map_append]; rfl, ?_, fun i' b' l' hb' hl' => ?_⟩
          · rw [List.length_append, c2, List.take_add_one, hl, List.map_append, List.length_append]
            rfl
          · have lc : cs.length = j := by rw [c2, List.length_map, List.length_take]; omega
            have nbD : b' ≠ D := by
              by_cases hi' : i' < cs.length
              · rw [List.getElem?_append_left hi'] at hb'
                intro z
                subst z
                -- the new list's own address is not one of its items
                have := (c3 i' b' _ hb' (List.getElem?_eq_getElem (by rw [← c2]; exact hi'))).2
                rw [c1] at this
                have e := HO.lst.inj (Option.some.inj this)
                cases cs with
                | nil => simp at hi'
                | cons c cs =>
                  rw [List.map_cons] at e
                  generalize (List.map (fun x => x ++ [_]) _)[i'] = w at e
                  cases w with
                  | nil => cases e
                  | cons w1 w2 => rw [List.map_cons] at e; exact nomatch (List.cons.inj e).1
              · rw [List.getElem?_append_right (by omega)] at hb'
                have : b' = q2 := by
                  cases h : i' - cs.length with
                  | zero => rw [h] at hb'; exact (Option.some.inj hb').symm
                  | succ k => rw [h] at hb'; simp at hb'
                subst this
                exact (ne_of_none (t1 _ _ c1) nq2).symm
            rw [upd_ne nbD]
            rw [List.take_add_one, hl, List.map_append] at hl'
            by_cases hi' : i' < cs.length
            · rw [List.getElem?_append_left hi'] at hb'
              rw [List.getElem?_append_left (by rw [← c2]; exact hi')] at hl'
              exact ⟨(c3 i' b' l' hb' hl').1, (t1.trans t2) _ _ (c3 i' b' l' hb' hl').2⟩
            · rw [List.getElem?_append_right (by omega)] at hb'
              rw [List.getElem?_append_right (by rw [← c2]; omega), ← c2] at hl'
              cases h : i' - cs.length with
              | zero =>
                rw [h] at hb' hl'
                have e1 : q2 = b' := Option.some.inj hb'
                have e2 : l ++ [e] = l' := Option.some.inj hl'
                subst e1 e2
                exact ⟨((si.trans sj).trans t1).free nq2, eq2⟩
              | succ k => rw [h] at hb'; simp at hb'
      · obtain ⟨sn, ll2⟩ := hp
        have el : (as'.map V.ref).length = (subs (es.take i)).length := by rw [List.length_map, k2]
        rw [el, List.take_of_length_le (Nat.le_refl _)] at ll2
        obtain ⟨bs, b1, b2, b3⟩ := id ll2
        refine ⟨p, D, _, _, rfl, rfl, sn _ _ k1, b1, ?_, fun q' nq' => ?_⟩
        · rw [List.length_map, List.length_map, k2, b2, List.length_map]
          exact Nat.le_trans (m := 2048) (by omega) (by decide)
        · refine ⟨q', _, _, rfl, (si.trans sn).trans (same_upd nq'), (si.trans sn).free nq', ?_⟩
          rw [et, subs_snoc]
          exact LN.app (q := q') nq' (ll.ext sn) ll2 (sn _ _ k1) b1
    · obtain ⟨p, z, y, rfl, si, np, ll⟩ := hp
      rw [List.length_map, List.take_of_length_le (Nat.le_refl _)] at ll
      exact ⟨_, rfl, q Hn p si np ll⟩
end

/-! ### the laws' covers -/
def bnC : Bd → Bd
  | .lf b => .lf !b
  | .nd e w t => .nd e (bnC w) (bnC t)
theorem bnC_ev (r : Int → Bool) : ∀ a : Bd, (bnC a).ev r = !(a.ev r)
  | .lf _ => rfl
  | .nd e w t => by
    have h1 := bnC_ev r w
    have h2 := bnC_ev r t
    show (if r e = true then (bnC t).ev r else (bnC w).ev r) = !(if r e = true then t.ev r else w.ev r)
    rw [h1, h2]
    split <;> rfl
def sp_l2 (f : Bool → Bool → Bool) (K : PySem.W.Frag) : Sp := fun vs H Q _ => ∃ (p q : Addr) (es : List Int) (A B T : Bd), vs = [.ref p, .ref q] ∧ SqT K H p ((tt es A).map V.bl) ∧ SqT K H q ((tt es B).map V.bl) ∧ es.length ≤ 4 ∧ (∀ ρ, T.ev ρ = f (A.ev ρ) (B.ev ρ)) ∧ ∀ H' r, Same H H' → H' r = some (.tup ((tt es T).map V.bl)) → Q (.ref r) H'
def sp_lnot (K : PySem.W.Frag) : Sp := fun vs H Q _ => ∃ (p : Addr) (es : List Int) (A : Bd), vs = [.ref p] ∧ SqT K H p ((tt es A).map V.bl) ∧ es.length ≤ 4 ∧ ∀ H' r T, Same H H' → T = bnC A → H' r = some (.tup ((tt es T).map V.bl)) → Q (.ref r) H'
section
variable {P : Program} {w : World} {K : PySem.W.Frag} {mg : Str → Option Value} {base : Heap}
theorem tt_at {es : List Int} {A : Bd} {j : Nat} {p : List Int} (hp : (subs es)[j]? = some p) : ((tt es A).map V.bl)[j]? = some (.bl (A.ev fun e => decide (e ∈ p))) := by
  unfold tt
  rw [List.getElem?_map, List.getElem?_map, hp]
  rfl
theorem ok_lboth {f : Addr} {fd : FuncData} (F : Fun K "_law_both" "_law_both" s__law_both f fd) (M : Mg mg) : FnOk P w K mg base CX0 1 f fd ["first", "second"] (sp_l2 and K) := by
  refine F.ok sc__law_both (fun vs H Q E h => ?_) (fun cdv A0 outer s H vs Q E hr h => ?_)
  · obtain ⟨p, q', es, A, B, T, rfl, _⟩ := h
    rfl
  · obtain ⟨p, q', es, A, B, T, rfl, hp, hq, hl4, hT, q⟩ := h
    refine ⟨_, (pss_one (ps_ret (pe_callTy (tupleK K) (by rfl) M.tuple (by decide +kernel) (pa_cons (pe_lc (own := [("k", 2)]) (g := gName 2) (tt := tYes) rfl sc__law_both.nd (pi_range1 (by rfl) M.range (pa_cons (pe_callB (len_seqK K) (by rfl) M.len PySem.boot_len (pa_cons (pv 0) pa_nil)) pa_nil)) (blkOk_by (N := N__law_both) (sc := defScope s__law_both) (by decide +kernel)) (fun _ _ _ _ _ => (pg_name (i := 2) sc__law_both.nd rfl (.inl rfl))) (fun _ _ _ _ _ => pts_nil) (fun _ _ _ _ _ => (pe_and (pe_ix (ix_tupK K) (pv 0) (pv 2) (fun _ _ => rfl)) (pe_one (pe_ix (ix_tupK K) (pv 1) (pv 2) (fun _ _ => rfl)))))) pa_nil)))), ?_⟩
    have lsub : (subs es).length ≤ 16 := by
      have hpow : 2 ^ es.length ≤ 2 ^ 4 := Nat.pow_le_pow_right (by decide) hl4
      rw [subs_len]
      omega
    have ltt : (tt es A).length = (subs es).length := List.length_map ..
    refine ⟨_, rfl, p, _, rfl, .inr hp, ?_⟩
    rw [List.length_map, ltt]
    refine ⟨_, rfl, by omega, by omega, fun D nD => ?_⟩
    refine lc_range (lo := 0) (n := (((subs es).length : Nat) : Int).toNat) (fun j Hj => Same H Hj ∧ Hj D = some (.lst ((((subs es).take j).map fun p => T.ev fun e => decide (e ∈ p)).map V.bl))) ⟨same_upd nD, upd_same⟩ (fun j Hj hj hp' => ?_) (fun H2 hp' => ?_)
    · obtain ⟨sj, eD⟩ := hp'
      have hj : j < (subs es).length := by omega
      rw [Int.zero_add]
      have hs := List.getElem?_eq_getElem hj
      generalize (subs es)[j] = l at hs
      refine ⟨rfl, ?_⟩
      have fin : ∀ x, x = (T.ev fun e => decide (e ∈ l)) → ∃ acc, Hj D = some (.lst acc) ∧ acc.length < sizeLine ∧ Same H (upd Hj D (.lst (acc ++ [.bl x]))) ∧ (upd Hj D (.lst (acc ++ [.bl x]))) D = some (.lst ((((subs es).take (j + 1)).map fun p => T.ev fun e => decide (e ∈ p)).map V.bl)) := fun x hx => by
        refine ⟨_, eD, ?_, fun z o hz => ?_, ?_⟩
        · rw [List.length_map, List.length_map, List.length_take]
          exact Nat.lt_of_le_of_lt (m := 32) (by omega) (by decide)
        · rw [upd_ne (ne_of_none hz nD)]
          exact sj _ _ hz
        · rw [upd_same, List.take_add_one, hs, List.map_append, List.map_append, hx]
          rfl
      refine ⟨_, rfl, _, rfl, p, _, _, _, rfl, rfl, SqT.ext sj hp, atI_nat (tt_at hs), _, rfl, ?_⟩
      cases hA : A.ev fun e => decide (e ∈ l) with
      | false => exact iteF (fin false (by rw [hT, hA]; rfl))
      | true => exact iteT ⟨_, rfl, _, rfl, q', _, _, _, rfl, rfl, SqT.ext sj hq, atI_nat (tt_at hs), fin _ (by rw [hT, hA]; rfl)⟩
    obtain ⟨s2, eD⟩ := hp'
    rw [Int.toNat_natCast, List.take_of_length_le (Nat.le_refl _)] at eD
    refine ⟨D, _, rfl, .inl ⟨.of eD, fun r nr => q _ r (s2.trans (same_upd nr)) upd_same⟩⟩
theorem ok_lnot {f : Addr} {fd : FuncData} (F : Fun K "_law_not" "_law_not" s__law_not f fd) (M : Mg mg) : FnOk P w K mg base CX0 1 f fd ["truth"] (sp_lnot K) := by
  refine F.ok sc__law_not (fun vs H Q E h => ?_) (fun cdv A0 outer s H vs Q E hr h => ?_)
  · obtain ⟨p, es, A, rfl, _⟩ := h
    rfl
  · obtain ⟨p, es, A, rfl, hp, hl4, q⟩ := h
    refine ⟨_, (pss_one (ps_ret (pe_callTy (tupleK K) (by rfl) M.tuple (by decide +kernel) (pa_cons (pe_lc (own := [("one", 1)]) (g := gName 1) (tt := tYes) rfl sc__law_not.nd (pi_tup (pv 0)) (blkOk_by (N := N__law_not) (sc := defScope s__law_not) (by decide +kernel)) (fun _ _ _ _ _ => (pg_name (i := 1) sc__law_not.nd rfl (.inl rfl))) (fun _ _ _ _ _ => pts_nil) (fun _ _ _ _ _ => (pe_not (pv 1)))) pa_nil)))), ?_⟩
    have lsub : (subs es).length ≤ 16 := by
      have hpow : 2 ^ es.length ≤ 2 ^ 4 := Nat.pow_le_pow_right (by decide) hl4
      rw [subs_len]
      omega
    have ltt : (tt es A).length = (subs es).length := List.length_map ..
    refine ⟨_, rfl, p, rfl, ⟨_, hp⟩, fun D nD => ?_⟩
    refine lc_tup (K := K) (a := p) (xs := (tt es A).map V.bl) (fun j Hj => Same H Hj ∧ Hj D = some (.lst ((((tt es A).take j).map not).map V.bl))) ⟨same_upd nD, upd_same⟩ (fun j Hj _ hp' => SqT.ext hp'.1 hp) (fun j y Hj hy hp' => ?_) (fun H2 hp' => ?_)
    · obtain ⟨sj, eD⟩ := hp'
      rw [List.getElem?_map] at hy
      obtain ⟨b, hb, rfl⟩ := Option.map_eq_some_iff.mp hy
      have hj : j < (tt es A).length := (List.getElem?_eq_some_iff.mp hb).1
      refine ⟨rfl, _, rfl, b, rfl, _, eD, ?_, fun z o hz => ?_, ?_⟩
      · rw [List.length_map, List.length_map, List.length_take]
        exact Nat.lt_of_le_of_lt (m := 32) (by omega) (by decide)
      · rw [upd_ne (ne_of_none hz nD)]
        exact sj _ _ hz
      · rw [upd_same, List.take_add_one, hb, List.map_append, List.map_append]
        rfl
    obtain ⟨s2, eD⟩ := hp'
    rw [List.length_map, List.take_of_length_le (Nat.le_refl _)] at eD
    refine ⟨D, _, rfl, .inl ⟨.of eD, fun r nr => q _ r _ (s2.trans (same_upd nr)) rfl ?_⟩⟩
    rw [upd_same]
    unfold tt
    rw [List.map_map]
    refine congrArg (fun l => some (HO.tup l)) ?_
    rw [List.map_map, List.map_map]
    refine List.map_congr_left fun l _ => ?_
    show V.bl (!(A.ev fun e => decide (e ∈ l))) = V.bl ((bnC A).ev fun e => decide (e ∈ l))
    rw [bnC_ev]
end

theorem L2E.fds {C : Addr} {K : PySem.W.Frag} {s : SA} {N N0 : Nds} {es : List Int} {L L0 : Nat} {H0 H H' : Hp} {z : V} {c : Cse} (st0 : Sto C K H0 s N0 es L0) (st : Sto C K H s N es L) (f : FdS s H H') (h : L2E H0 H z c) : L2E H0 H' z c := by
  obtain ⟨_, ⟨xs, g2, _⟩, ⟨kvs, g4, _⟩, ⟨cvs, g6, _⟩, _⟩ := st
  obtain ⟨t, p, q, e, h1, h2, h3, h4, h5⟩ := h
  have np := bu_ne st0 h2
  have nq := bu_ne st0 h4
  exact ⟨t, p, q, e, f _ _ (ne_of h1 g2 (fun z => nomatch z)) (ne_of h1 g4 (fun z => nomatch z)) (ne_of h1 g6 (fun z => nomatch z)) h1, h2, f _ _ np.1 np.2.1 np.2.2 h3, h4, f _ _ nq.1 nq.2.1 nq.2.2 h5⟩
theorem L2L.dp {K : PySem.W.Frag} {H0 H : Hp} : ∀ {zs : List V} {cs : List Cse}, L2L H0 H zs cs → DpAll K H zs (cs.map caD)
  | _, _, .nil => .nil
  | _, _, .cons h1 h2 => by
    obtain ⟨t, p, q, rfl, g1, _, g2, _, g3⟩ := h1
    exact .cons (.tup (.of g1) (.cons (dp_ints (.of g2)) (.cons (dp_ints (.of g3)) .nil))) (L2L.dp h2)
theorem sh_cases {cs : List Cse} (h : cs.length ≤ 100) (k : ∀ c ∈ cs, c.1.length ≤ 100 ∧ c.2.1.length ≤ 100) : Sh 4 (.list (cs.map caD)) := by
  refine .lst (by rw [List.length_map]; omega) fun d hd => ?_
  obtain ⟨c, hc, rfl⟩ := List.mem_map.mp hd
  refine .tup (by show 2 ≤ 100000; decide) fun d hd => ?_
  have hk := k c hc
  simp only [List.mem_cons, List.not_mem_nil, or_false] at hd
  rcases hd with rfl | rfl
  · refine .lst (by rw [List.length_map]; omega) fun d hd => ?_
    obtain ⟨x, _, rfl⟩ := List.mem_map.mp hd
    exact .int _
  · refine .lst (by rw [List.length_map]; omega) fun d hd => ?_
    obtain ⟨x, _, rfl⟩ := List.mem_map.mp hd
    exact .int _

/-! ### the laws' covers: whether a case applies, whether one of some does (nothing is counted) -/
theorem dpa_ints {K : PySem.W.Frag} {H : Hp} : ∀ {xs : List V} {l : List Int}, DpAll K H xs (l.map PyData.int) → xs = l.map V.int
  | xs, [], h => by
    cases h
    rfl
  | xs, b :: l, h => by
    rw [List.map_cons] at h
    cases h with
    | cons h1 h2 =>
      cases h1
      rw [List.map_cons, dpa_ints h2]
theorem dp_lstI {K : PySem.W.Frag} {H : Hp} {v : V} {l : List Int} (h : Dp K H v (.list (l.map PyData.int))) : ∃ a, v = .ref a ∧ SqL K H a (l.map V.int) := by
  cases h with
  | lst hs hx => exact ⟨_, rfl, by rw [← dpa_ints hx]; exact hs⟩
theorem sql_sm {K : PySem.W.Frag} {H H' : Hp} {a : Addr} {xs : List V} (e : Same H H') (h : SqL K H a xs) : SqL K H' a xs := by
  rcases h with (h | ⟨o, h⟩) | h
  · exact .inl (.inl (e _ _ h))
  · exact .inl (.inr ⟨o, e _ _ h⟩)
  · exact .inr h
def lapp (c : Cse) (l : List Int) : Bool := (c.1.all fun x => decide (x ∈ l)) && !(c.2.1.any fun x => decide (x ∈ l))
def sp_lapp (K : PySem.W.Frag) : Sp := fun vs H Q _ => ∃ (v : V) (b : Addr) (c : Cse) (l : List Int), vs = [v, .ref b] ∧ Dp K H v (caD c) ∧ H b = some (.lst (l.map V.int)) ∧ c.1.length ≤ 4 ∧ c.2.1.length ≤ 4 ∧ ∀ H', Same H H' → Q (.bl (lapp c l)) H'
def sp_lsomeS (K : PySem.W.Frag) : Sp := fun vs H Q _ => ∃ (fa ea : Addr) (es : List Int) (ys : List V) (cs : List Cse) (T : Bd), vs = [.ref fa, .ref ea] ∧ H fa = some (.lst ys) ∧ DpAll K H ys (cs.map caD) ∧ H ea = some (.lst (es.map V.int)) ∧ es.length ≤ 4 ∧ (∀ c ∈ cs, LitOk es c) ∧ cs.length ≤ 100 ∧ (∀ ρ, T.ev ρ = cs.any fun c => c.2.2.ev ρ) ∧ ∀ H' r, Same H H' → H' r = some (.tup ((tt es T).map V.bl)) → Q (.ref r) H'
section
variable {P : Program} {w : World} {K : PySem.W.Frag} {mg : Str → Option Value} {base : Heap}
theorem ok_lapp {f : Addr} {fd : FuncData} (F : Fun K "_law_applies" "_law_applies" s__law_applies f fd) (M : Mg mg) : FnOk P w K mg base CX0 1 f fd ["case", "part"] (sp_lapp K) := by
  refine F.ok sc__law_applies (fun vs H Q E h => ?_) (fun cdv A0 outer s H vs Q E hr h => ?_)
  · obtain ⟨v, b, c, l, rfl, _⟩ := h
    rfl
  · obtain ⟨v, b, c, l, rfl, hc, hb, l1, l2, q⟩ := h
    refine ⟨_, (pss_cons (ps_asg (pv 0) (pg_tup (by rfl) (pgs_cons (pg_name (i := 2) sc__law_applies.nd rfl (.inl rfl)) (pgs_cons (pg_name (i := 3) sc__law_applies.nd rfl (.inl rfl)) pgs_nil))))
      (pss_one (ps_ret (pe_and (pe_callB (allK K rfl) (by rfl) M.all (by decide +kernel) (pa_cons (pe_lc (own := [("entry", 4)]) (g := gName 4) (tt := tYes) rfl sc__law_applies.nd (pi_list (pv 2)) (blkOk_by (N := N__law_applies) (sc := defScope s__law_applies) (by decide +kernel)) (fun _ _ _ _ _ => (pg_name (i := 4) sc__law_applies.nd rfl (.inl rfl))) (fun _ _ _ _ _ => pts_nil) (fun _ _ _ _ _ => (pe_cmpR (inK K) (pv 4) (pv 1) (by rfl)))) pa_nil)) (pe_one (pe_not (pe_callB (anyK K rfl) (by rfl) M.any (by decide +kernel) (pa_cons (pe_lc (own := [("entry", 4)]) (g := gName 4) (tt := tYes) rfl sc__law_applies.nd (pi_list (pv 3)) (blkOk_by (N := N__law_applies) (sc := defScope s__law_applies) (by decide +kernel)) (fun _ _ _ _ _ => (pg_name (i := 4) sc__law_applies.nd rfl (.inl rfl))) (fun _ _ _ _ _ => pts_nil) (fun _ _ _ _ _ => (pe_cmpR (inK K) (pv 4) (pv 1) (by rfl)))) pa_nil)))))))), ?_⟩
    obtain ⟨t, xs, rfl, hs, hx⟩ := dp_tup hc
    cases hx with
    | cons h1 h2 =>
    cases h2 with
    | cons h2 h3 =>
    cases h3
    obtain ⟨p, rfl, hp⟩ := dp_lstI h1
    obtain ⟨p2, rfl, hp2⟩ := dp_lstI h2
    refine ⟨_, rfl, t, _, rfl, hs, rfl, _, _, rfl, _, _, rfl, rfl, ?_⟩
    refine ⟨_, rfl, p, rfl, ⟨_, hp⟩, fun D nD => ?_⟩
    refine lc_list (K := K) (a := p) (xs := c.1.map V.int) (fun j Hj => Same H Hj ∧ Hj D = some (.lst (((c.1.take j).map fun x => decide (x ∈ l)).map V.bl))) ⟨same_upd nD, upd_same⟩ (fun j Hj _ hp' => sql_sm hp'.1 hp) (fun j y Hj hy hp' => ?_) (fun H6 hp' => ?_)
    · obtain ⟨sj, eD⟩ := hp'
      rw [List.getElem?_map] at hy
      obtain ⟨x, hx, rfl⟩ := Option.map_eq_some_iff.mp hy
      refine ⟨rfl, _, rfl, _, rfl, b, _, rfl, .inl (.of (sj _ _ hb)), rfl, by rw [List.all_map]; exact List.all_eq_true.mpr fun _ _ => rfl, ?_⟩
      rw [if_neg Bool.false_ne_true, inV_int]
      refine ⟨_, eD, ?_, fun z o hz => ?_, ?_⟩
      · rw [List.length_map, List.length_map, List.length_take]
        exact Nat.lt_of_le_of_lt (m := 10) (by omega) (by decide)
      · rw [upd_ne (ne_of_none hz nD)]
        exact sj _ _ hz
      · rw [upd_same, List.take_add_one, hx, List.map_append, List.map_append]
        rfl
    obtain ⟨s6, eD⟩ := hp'
    rw [List.length_map, List.take_of_length_le (Nat.le_refl _)] at eD
    refine ⟨D, _, rfl, .of eD, _, rfl, ?_⟩
    rw [List.all_map, show (c.1.all (id ∘ fun x => decide (x ∈ l))) = c.1.all fun x => decide (x ∈ l) from rfl]
    cases hall : c.1.all fun x => decide (x ∈ l) with
    | false =>
      have e : lapp c l = false := by
        unfold lapp
        rw [hall]
        rfl
      rw [e] at q
      exact iteF (q H6 s6)
    | true =>
      have e : lapp c l = !(c.2.1.any fun x => decide (x ∈ l)) := by
        unfold lapp
        rw [hall]
        rfl
      rw [e] at q
      refine iteT ?_
      have hp2' := sql_sm s6 hp2
      refine ⟨_, rfl, p2, rfl, ⟨_, hp2'⟩, fun D2 nD2 => ?_⟩
      refine lc_list (K := K) (a := p2) (xs := c.2.1.map V.int) (fun j Hj => Same H6 Hj ∧ Hj D2 = some (.lst (((c.2.1.take j).map fun x => decide (x ∈ l)).map V.bl))) ⟨same_upd nD2, upd_same⟩ (fun j Hj _ hp' => sql_sm hp'.1 hp2') (fun j y Hj hy hp' => ?_) (fun H7 hp' => ?_)
      · obtain ⟨sj, eD⟩ := hp'
        rw [List.getElem?_map] at hy
        obtain ⟨x, hx, rfl⟩ := Option.map_eq_some_iff.mp hy
        refine ⟨rfl, _, rfl, _, rfl, b, _, rfl, .inl (.of (sj _ _ (s6 _ _ hb))), rfl, by rw [List.all_map]; exact List.all_eq_true.mpr fun _ _ => rfl, ?_⟩
        rw [if_neg Bool.false_ne_true, inV_int]
        refine ⟨_, eD, ?_, fun z o hz => ?_, ?_⟩
        · rw [List.length_map, List.length_map, List.length_take]
          exact Nat.lt_of_le_of_lt (m := 10) (by omega) (by decide)
        · rw [upd_ne (ne_of_none hz nD2)]
          exact sj _ _ hz
        · rw [upd_same, List.take_add_one, hx, List.map_append, List.map_append]
          rfl
      obtain ⟨s7, eD2⟩ := hp'
      rw [List.length_map, List.take_of_length_le (Nat.le_refl _)] at eD2
      refine ⟨D2, _, rfl, .of eD2, _, rfl, ?_⟩
      rw [List.any_map, show (c.2.1.any (id ∘ fun x => decide (x ∈ l))) = c.2.1.any fun x => decide (x ∈ l) from rfl]
      exact q H7 (s6.trans s7)
theorem ok_lsomeS {f : Addr} {fd : FuncData} (F : Fun K "_law_some" "_law_some" s__law_some f fd) (M : Mg mg) (c__law_subsets : Cl P w K mg base 1 "_law_subsets" sp_subsN) (c__law_applies : Cl P w K mg base 1 "_law_applies" (sp_lapp K)) : FnOk P w K mg base CX0 2 f fd ["found", "entries"] (sp_lsomeS K) := by
  refine F.ok sc__law_some (fun vs H Q E h => ?_) (fun cdv A0 outer s H vs Q E hr h => ?_)
  · obtain ⟨fa, ea, es, ys, cs, T, rfl, _⟩ := h
    rfl
  · obtain ⟨fa, ea, es, ys, cs, T, rfl, efa, hd, eea, hl4, hcs, l100, hT, q⟩ := h
    refine ⟨_, (pss_one (ps_ret (pe_callTy (tupleK K) (by rfl) M.tuple (by decide +kernel) (pa_cons (pe_lc (own := [("part", 2)]) (g := gName 2) (tt := tYes) rfl sc__law_some.nd (pi_list (pe_u c__law_subsets hr (by first | decide | omega) (by rfl) (pa_cons (pv 1) pa_nil))) (blkOk_by (N := N__law_some) (sc := defScope s__law_some) (by decide +kernel)) (fun _ _ _ _ _ => (pg_name (i := 2) sc__law_some.nd rfl (.inr rfl))) (fun _ _ _ _ _ => pts_nil) (fun _ _ _ _ _ => (pe_callB (anyK K rfl) (by rfl) M.any (by decide +kernel) (pa_cons (pe_lc (own := [("case", 3)]) (g := gName 3) (tt := tYes) rfl sc__law_some.nd (pi_listK K (pv 0)) (blkOk_by (N := N__law_some) (sc := relS { kind := PySem.ScopeKind.function, names := [ (PySem.Str.ofString ".0", PySem.NameKind.local), (PySem.Str.ofString "part", PySem.NameKind.cell), (PySem.Str.ofString "any", PySem.NameKind.globalImplicit), (PySem.Str.ofString "found", PySem.NameKind.free)], isGenerator := false, isCoroutine := false, more := [] : PySem.Scope } (defScope s__law_some)) (by decide +kernel)) (fun _ _ _ _ _ => (pg_name (i := 3) sc__law_some.nd rfl (.inl rfl))) (fun _ _ _ _ _ => pts_nil) (fun _ _ _ _ _ => (pe_u c__law_applies hr (by first | decide | omega) (by rfl) (pa_cons (pv 3) (pa_cons (pv 2) pa_nil))))) pa_nil)))) pa_nil)))), ?_⟩
    have lsub : (subs es).length ≤ 16 := by
      have hpow : 2 ^ es.length ≤ 2 ^ 4 := Nat.pow_le_pow_right (by decide) hl4
      rw [subs_len]
      omega
    have lys : ys.length = cs.length := by rw [DpAll.len hd, List.length_map]
    refine ⟨_, rfl, ea, es, rfl, eea, by omega, fun H1 sp0 s1 nsp ll => ?_⟩
    obtain ⟨as0, eS0, las0, g0⟩ := ll
    have efa1 := s1 _ _ efa
    refine ⟨sp0, rfl, ⟨_, .of eS0⟩, fun D nD => ?_⟩
    refine lc_list (K := K) (a := sp0) (xs := as0.map V.ref) (fun j Hj => Same H1 Hj ∧ Hj D = some (.lst ((((subs es).take j).map fun l => T.ev fun e => decide (e ∈ l)).map V.bl))) ⟨same_upd nD, upd_same⟩ (fun j Hj _ hp => .of (hp.1 _ _ eS0)) (fun j y Hj hy hp => ?_) (fun HE hp => ?_)
    · obtain ⟨sj, eD⟩ := hp
      rw [List.getElem?_map] at hy
      obtain ⟨b, hb0, rfl⟩ := Option.map_eq_some_iff.mp hy
      have hj : j < (subs es).length := by rw [← las0]; exact (List.getElem?_eq_some_iff.mp hb0).1
      have hl := List.getElem?_eq_getElem hj
      obtain ⟨_, hbp⟩ := g0 j b _ hb0 hl
      generalize (subs es)[j] = l at hbp hl
      have ebj := sj _ _ hbp
      have efj := sj _ _ efa1
      have hdj := DpAll.ext (s1.trans sj) _ _ hd
      refine ⟨rfl, ?_⟩
      refine ⟨_, rfl, fa, rfl, ⟨_, .of efj⟩, fun D2 nD2 => ?_⟩
      refine lc_list (K := K) (a := fa) (xs := ys) (fun i Hi => Same Hj Hi ∧ Hi D2 = some (.lst (((cs.take i).map fun c => lapp c l).map V.bl))) ⟨same_upd nD2, upd_same⟩ (fun i Hi _ hp => .of (hp.1 _ _ efj)) (fun i y Hi hy hp => ?_) (fun HF hp => ?_)
      · obtain ⟨si, eD2⟩ := hp
        have hi : i < cs.length := by rw [← lys]; exact (List.getElem?_eq_some_iff.mp hy).1
        have hc := List.getElem?_eq_getElem hi
        obtain ⟨z, hz, hE⟩ := DpAll.get (i := i) (d := caD cs[i]) hdj (by rw [List.getElem?_map, hc]; rfl)
        obtain rfl : z = y := Option.some.inj (hz.symm.trans hy)
        have hlit := hcs _ (List.getElem_mem hi)
        generalize cs[i] = c at hc hE hlit
        refine ⟨rfl, _, rfl, _, rfl, z, b, c, l, rfl, Dp.ext si _ _ hE, si _ _ ebj, hlit.2.2.1, hlit.2.2.2, fun H' s' => ?_⟩
        refine ⟨_, s' _ _ eD2, ?_, fun b o hb => ?_, ?_⟩
        · rw [List.length_map, List.length_map, List.length_take]
          exact Nat.lt_of_le_of_lt (m := 200) (by omega) (by decide)
        · rw [upd_ne (ne_of_none hb nD2)]
          exact s' _ _ (si _ _ hb)
        · rw [upd_same, List.take_add_one, hc, List.map_append, List.map_append]
          rfl
      obtain ⟨s6, eD2⟩ := hp
      rw [lys, List.take_of_length_le (Nat.le_refl _)] at eD2
      refine ⟨D2, _, rfl, .of eD2, ?_⟩
      have ev : ((cs.map fun c => lapp c l).any id) = T.ev fun e => decide (e ∈ l) := by
        rw [hT, List.any_map]
        refine Bool.eq_iff_iff.mpr ?_
        rw [List.any_eq_true, List.any_eq_true]
        have each : ∀ c ∈ cs, lapp c l = c.2.2.ev fun e => decide (e ∈ l) := fun c hc => by
          rw [(hcs c hc).2.1]
          unfold lapp
          congr 1
          rw [List.not_any_eq_all_not]
        exact ⟨fun ⟨c, hc, e⟩ => ⟨c, hc, by rw [← each c hc]; exact e⟩, fun ⟨c, hc, e⟩ => ⟨c, hc, by rw [← each c hc] at e; exact e⟩⟩
      rw [ev]
      refine ⟨_, s6 _ _ eD, ?_, fun b o hb => ?_, ?_⟩
      · rw [List.length_map, List.length_map, List.length_take]
        exact Nat.lt_of_le_of_lt (m := 32) (by omega) (by decide)
      · rw [upd_ne (ne_of_none hb nD)]
        exact s6 _ _ (sj _ _ hb)
      · rw [upd_same, List.take_add_one, hl, List.map_append, List.map_append]
        rfl
    obtain ⟨sE, eD⟩ := hp
    rw [List.length_map, las0, List.take_of_length_le (Nat.le_refl _)] at eD
    refine ⟨D, _, rfl, .inl ⟨.of eD, fun r nr => q _ r ((s1.trans sE).trans (same_upd nr)) upd_same⟩⟩
end

/-! ### the laws' covers: the recursion -/
theorem L2E.weak {H0 H1 H : Hp} {z : V} {c : Cse} (f : ∀ b, H1 b = none → H0 b = none) (h : L2E H1 H z c) : L2E H0 H z c := by
  obtain ⟨t, p, q, e, g1, g2, g3, g4, g5⟩ := h
  exact ⟨t, p, q, e, g1, f _ g2, g3, f _ g4, g5⟩
theorem L2E.same {H0 H H' : Hp} {z : V} {c : Cse} (f : Same H H') (h : L2E H0 H z c) : L2E H0 H' z c := by
  obtain ⟨t, p, q, e, g1, g2, g3, g4, g5⟩ := h
  exact ⟨t, p, q, e, f _ _ g1, g2, f _ _ g3, g4, f _ _ g5⟩
theorem L2E.onD {H0 H : Hp} {D : Addr} {o : HO} {z : V} {c : Cse} (hD : H D = none) (h : L2E H0 H z c) : L2E (upd H0 D o) H z c := by
  obtain ⟨t, p, q, e, g1, g2, g3, g4, g5⟩ := h
  exact ⟨t, p, q, e, g1, by rw [upd_ne (ne_of_none g3 hD)]; exact g2, g3, by rw [upd_ne (ne_of_none g5 hD)]; exact g4, g5⟩
theorem L2E.updD {H0 H : Hp} {D : Addr} {o o' : HO} {w0 w : List V} {z : V} {c : Cse} (eD : H D = some (.lst w0)) (h : L2E (upd H0 D o) H z c) : L2E (upd H0 D o') (upd H D (.lst w)) z c := by
  obtain ⟨t, p, q, e, g1, g2, g3, g4, g5⟩ := h
  have np : p ≠ D := fun z => by
    rw [z, upd_same] at g2
    cases g2
  have nq : q ≠ D := fun z => by
    rw [z, upd_same] at g4
    cases g4
  rw [upd_ne np] at g2
  rw [upd_ne nq] at g4
  exact ⟨t, p, q, e, by rw [upd_ne (ne_of g1 eD (fun z => nomatch z))]; exact g1, by rw [upd_ne np]; exact g2, by rw [upd_ne np]; exact g3, by rw [upd_ne nq]; exact g4, by rw [upd_ne nq]; exact g5⟩
theorem upd_none {H : Hp} {D b : Addr} {o : HO} (h : (upd H D o) b = none) : H b = none := by
  by_cases hb : b = D
  · rw [hb, upd_same] at h
    cases h
  · rw [upd_ne hb] at h
    exact h
theorem fd_free {me : Addr} {H H' : Hp} {o : HO} (h : H' me = some o) (f : Fd me H H') : ∀ b, H' b = none → H b = none := fun b hb => by
  cases e : H b with
  | none => rfl
  | some u =>
    rw [f _ _ (ne_of_none h hb).symm e] at hb
    cases hb
theorem tt_any {es : List Int} (hn : es.Nodup) {A : Bd} (w : Wf es A) : (tt es A).any id = !decide (A = .lf false) := by
  unfold tt
  by_cases h : A = .lf false
  · rw [h, decide_eq_true rfl, List.any_map, List.any_eq_false.mpr]
    · rfl
    · intro x _ z
      cases z
  · rw [decide_eq_false h, List.any_map]
    refine Bool.eq_iff_iff.mpr ⟨fun _ => rfl, fun _ => ?_⟩
    by_cases h2 : ∀ ρ, A.ev ρ = (Bd.lf false).ev ρ
    · exact absurd (canon hn w .lf h2) h
    · obtain ⟨ρ, hρ⟩ := Classical.not_forall.mp h2
      obtain ⟨p, hp, hr⟩ := subs_all hn ρ
      refine List.any_eq_true.mpr ⟨p, hp, ?_⟩
      show A.ev (fun e => decide (e ∈ p)) = true
      rw [wf_agree w hr]
      cases e : A.ev ρ with
      | true => rfl
      | false => exact absurd e hρ
theorem tt_all {es : List Int} (hn : es.Nodup) {A : Bd} (w : Wf es A) : (tt es A).all id = decide (A = .lf true) := by
  unfold tt
  by_cases h : A = .lf true
  · rw [h, decide_eq_true rfl, List.all_map, List.all_eq_true.mpr]
    intro x _
    rfl
  · rw [decide_eq_false h, List.all_map]
    refine Bool.eq_false_iff.mpr fun hh => ?_
    have hh := List.all_eq_true.mp hh
    refine h (canon hn w .lf fun ρ => ?_)
    obtain ⟨p, hp, hr⟩ := subs_all hn ρ
    rw [← wf_agree w hr]
    exact hh p hp
theorem tops_min {P3 rest : List Int} {x : Int} {A B : Bd} (hn : (P3 ++ x :: rest).Nodup) (wA : Wf (x :: rest) A) (wB : Wf (x :: rest) B) (nA : ∀ b, A ≠ .lf b) (nB : ∀ b, B ≠ .lf b) (ht : topX A B = x) : ∃ i1 i2 : Nat, topV (P3 ++ x :: rest) A = .int (i1 : Int) ∧ topV (P3 ++ x :: rest) B = .int (i2 : Int) ∧ P3.length ≤ i1 ∧ P3.length ≤ i2 ∧ (i1 = P3.length ∨ i2 = P3.length) := by
  have ge : ∀ {y : Int} {w t : Bd}, Wf (x :: rest) (.nd y w t) → P3.length ≤ (P3 ++ x :: rest).idxOf y := fun hw => by
    rw [List.idxOf_append, if_neg]
    · omega
    · intro h
      rw [List.nodup_append] at hn
      exact hn.2.2 _ h _ hw.none_of rfl
  have ex : (P3 ++ x :: rest).idxOf x = P3.length := top_at hn
  cases A with
  | lf b => exact absurd rfl (nA b)
  | nd y1 w1 t1 =>
    cases B with
    | lf b => exact absurd rfl (nB b)
    | nd y2 w2 t2 =>
      refine ⟨_, _, rfl, rfl, ge wA, ge wB, ?_⟩
      have : min y1 y2 = x := ht
      rcases (by omega : y1 = x ∨ y2 = x) with h | h
      · exact .inl (by rw [h, ex])
      · exact .inr (by rw [h, ex])
theorem gn_eq {g : TG} {v : V} {σ σ' : L2.St} {H : Hp} {Q : L2.St → Hp → Prop} (e : σ' = σ) (h : g v σ H Q) : g v σ' H Q := by
  rw [e]
  exact h

/-! ### the laws' covers, where nothing is counted: the recursion -/
def LvK (es : List Int) (A0 A1 B0 B1 : Bd) (a0 a1 b0 b1 p6 p7 ea : Addr) (H : Hp) : Prop := H a0 = some (.tup ((tt es A0).map V.bl)) ∧ H a1 = some (.tup ((tt es A1).map V.bl)) ∧ H b0 = some (.tup ((tt es B0).map V.bl)) ∧ H b1 = some (.tup ((tt es B1).map V.bl)) ∧ H p6 = some (.lst [.ref a0, .ref a1]) ∧ H p7 = some (.lst [.ref b0, .ref b1]) ∧ H ea = some (.lst (es.map V.int))
theorem LvK.same {es : List Int} {A0 A1 B0 B1 : Bd} {a0 a1 b0 b1 p6 p7 ea : Addr} {H H' : Hp} (f : Same H H') (h : LvK es A0 A1 B0 B1 a0 a1 b0 b1 p6 p7 ea H) : LvK es A0 A1 B0 B1 a0 a1 b0 b1 p6 p7 ea H' :=
  ⟨f _ _ h.1, f _ _ h.2.1, f _ _ h.2.2.1, f _ _ h.2.2.2.1, f _ _ h.2.2.2.2.1, f _ _ h.2.2.2.2.2.1, f _ _ h.2.2.2.2.2.2⟩
theorem sm_free {H H' : Hp} (f : Same H H') : ∀ b, H' b = none → H b = none := fun b hb => by
  cases e : H b with
  | none => rfl
  | some u => rw [f _ _ e] at hb; cases hb
def sp_lcovS (n : Nat) : Sp := fun vs H Q _ => ∃ (lp hp ea : Addr) (pre es : List Int) (A B : Bd), vs = [.ref lp, .ref hp, .ref ea] ∧ H lp = some (.tup ((tt (pre ++ es) A).map V.bl)) ∧ H hp = some (.tup ((tt (pre ++ es) B).map V.bl)) ∧ H ea = some (.lst ((pre ++ es).map V.int)) ∧ (pre ++ es).Pairwise (· < ·) ∧ (pre ++ es).length ≤ 4 ∧ es.length < n ∧ Wf es A ∧ Wf es B ∧ (∀ ρ, A.ev ρ = true → B.ev ρ = true) ∧
  ∀ res, res = cov (pre ++ es) n A B → ∀ H' r ys, Same H H' → H r = none → H' r = some (.lst ys) → L2L H H' ys res.1 → Q (.ref r) H'
section
variable {P : Program} {w : World} {K : PySem.W.Frag} {mg : Str → Option Value} {base : Heap}
set_option maxHeartbeats 4000000 in
theorem ok_lcoverS (n : Nat) {f : Addr} {fd : FuncData} (F : Fun K "_law_cover" "_law_cover" s__law_cover f fd) (M : Mg mg) (c__law_cover : Cl P w K mg base (n + 6) "_law_cover" (sp_lcovS n)) (c__law_both : Cl P w K mg base 1 "_law_both" (sp_l2 and K)) (c__law_not : Cl P w K mg base 1 "_law_not" (sp_lnot K)) (c__law_some : Cl P w K mg base 2 "_law_some" (sp_lsomeS K)) (c__law_top : Cl P w K mg base 2 "_law_top" (sp_ltop K)) (c__law_fixed : Cl P w K mg base 1 "_law_fixed" (sp_fixed K)) : FnOk P w K mg base CX0 (n + 7) f fd ["low", "high", "entries"] (sp_lcovS (n + 1)) := by
  refine F.ok sc__law_cover (fun vs H Q E h => ?_) (fun cdv A0 outer s H vs Q E hr h => ?_)
  · obtain ⟨lp, hp, ea, pre, es, A, B, rfl, _⟩ := h
    rfl
  · obtain ⟨lp, hp, ea, pre, es, A, B, rfl, elp2, ehp2, eea2, hs, hl4, hln, wA, wB, hle, q⟩ := h
    have hn : (pre ++ es).Nodup := hs.imp fun h => by omega
    have wA' : Wf (pre ++ es) A := wA.skips pre
    have wB' : Wf (pre ++ es) B := wB.skips pre
    obtain ⟨H2, s02, hH2⟩ : ∃ H2, Same H H2 ∧ H2 = H := ⟨H, fun _ _ h => h, rfl⟩
    refine ⟨_, (pss_cons (ps_if (pt_not (pt_val (pe_callB (cr_anyT K rfl) (by rfl) M.any (by decide +kernel) (pa_cons (pv 0) pa_nil)))) (pss_one (ps_ret (pe_lst pa_nil))) pss_nil)
      (pss_cons (ps_if (pt_val (pe_callB (cr_allT K rfl) (by rfl) M.all (by decide +kernel) (pa_cons (pv 1) pa_nil))) (pss_one (ps_ret (pe_lst (pa_cons (pe_tup (pa_cons (pe_lst pa_nil) (pa_cons (pe_lst pa_nil) pa_nil))) pa_nil)))) pss_nil)
      (pss_cons (ps_setLc (i := 3) (own := [("truth", 15)]) (g := gName 15) (tt := tYes) rfl sc__law_cover.nd rfl rfl (sw_true rfl rfl rfl (by decide +kernel)) (pi_tup (pe_tup (pa_cons (pv 0) (pa_cons (pv 1) pa_nil)))) (blkOk_by (N := N__law_cover) (sc := defScope s__law_cover) (by decide +kernel)) (fun _ _ _ _ _ => (pg_name (i := 15) sc__law_cover.nd rfl (.inl rfl))) (fun _ _ _ _ _ => pts_nil) (fun _ _ _ _ _ => (pe_u c__law_top hr (by first | decide | omega) (by rfl) (pa_cons (pv 15) (pa_cons (pe_callB (len_seqK K) (by rfl) M.len PySem.boot_len (pa_cons (pv 2) pa_nil)) pa_nil)))))
      (pss_cons (ps_set (i := 4) sc__law_cover.nd rfl (.inl rfl) (pe_callB (cr_min rfl) (by rfl) M.min (by decide +kernel) (pa_cons (pe_lc (own := [("top", 18)]) (g := gName 18) rfl sc__law_cover.nd (pi_list (pv 3)) (blkOk_by (N := N__law_cover) (sc := defScope s__law_cover) (by decide +kernel)) (fun _ _ _ _ _ => (pg_name (i := 18) sc__law_cover.nd rfl (.inl rfl))) (fun _ _ _ _ _ => (pts_one (pt_cmpR op_notN (pv 18) pe_non (nomark _)))) (fun _ _ _ _ _ => (pv 18))) pa_nil)))
      (pss_cons (ps_set (i := 5) sc__law_cover.nd rfl (.inl rfl) (pe_lst (pa_cons (pe_u c__law_fixed hr (by first | decide | omega) (by rfl) (pa_cons (pv 0) (pa_cons (pv 4) (pa_cons pe_int pa_nil)))) (pa_cons (pe_u c__law_fixed hr (by first | decide | omega) (by rfl) (pa_cons (pv 0) (pa_cons (pv 4) (pa_cons pe_int pa_nil)))) pa_nil))))
      (pss_cons (ps_set (i := 6) sc__law_cover.nd rfl (.inl rfl) (pe_lst (pa_cons (pe_u c__law_fixed hr (by first | decide | omega) (by rfl) (pa_cons (pv 1) (pa_cons (pv 4) (pa_cons pe_int pa_nil)))) (pa_cons (pe_u c__law_fixed hr (by first | decide | omega) (by rfl) (pa_cons (pv 1) (pa_cons (pv 4) (pa_cons pe_int pa_nil)))) pa_nil))))
      (pss_cons (ps_set (i := 7) sc__law_cover.nd rfl (.inl rfl) (pe_u c__law_cover hr (by first | decide | omega) (by rfl) (pa_cons (pe_u c__law_both hr (by first | decide | omega) (by rfl) (pa_cons (pe_ix (ix_listK K) (pv 5) pe_int (fun _ _ => rfl)) (pa_cons (pe_u c__law_not hr (by first | decide | omega) (by rfl) (pa_cons (pe_ix (ix_listK K) (pv 6) pe_int (fun _ _ => rfl)) pa_nil)) pa_nil))) (pa_cons (pe_ix (ix_listK K) (pv 6) pe_int (fun _ _ => rfl)) (pa_cons (pv 2) pa_nil)))))
      (pss_cons (ps_set (i := 8) sc__law_cover.nd rfl (.inl rfl) (pe_u c__law_cover hr (by first | decide | omega) (by rfl) (pa_cons (pe_u c__law_both hr (by first | decide | omega) (by rfl) (pa_cons (pe_ix (ix_listK K) (pv 5) pe_int (fun _ _ => rfl)) (pa_cons (pe_u c__law_not hr (by first | decide | omega) (by rfl) (pa_cons (pe_ix (ix_listK K) (pv 6) pe_int (fun _ _ => rfl)) pa_nil)) pa_nil))) (pa_cons (pe_ix (ix_listK K) (pv 6) pe_int (fun _ _ => rfl)) (pa_cons (pv 2) pa_nil)))))
      (pss_cons (ps_set (i := 9) sc__law_cover.nd rfl (.inr rfl) (pe_u c__law_both hr (by first | decide | omega) (by rfl) (pa_cons (pe_ix (ix_listK K) (pv 5) pe_int (fun _ _ => rfl)) (pa_cons (pe_u c__law_not hr (by first | decide | omega) (by rfl) (pa_cons (pe_u c__law_some hr (by first | decide | omega) (by rfl) (pa_cons (pv 7) (pa_cons (pv 2) pa_nil))) pa_nil)) pa_nil))))
      (pss_cons (ps_set (i := 10) sc__law_cover.nd rfl (.inr rfl) (pe_u c__law_both hr (by first | decide | omega) (by rfl) (pa_cons (pe_ix (ix_listK K) (pv 5) pe_int (fun _ _ => rfl)) (pa_cons (pe_u c__law_not hr (by first | decide | omega) (by rfl) (pa_cons (pe_u c__law_some hr (by first | decide | omega) (by rfl) (pa_cons (pv 8) (pa_cons (pv 2) pa_nil))) pa_nil)) pa_nil))))
      (pss_cons (ps_set (i := 11) sc__law_cover.nd rfl (.inl rfl) (pe_callTy (tupleK K) (by rfl) M.tuple (by decide +kernel) (pa_cons (pe_lc (own := [("j", 19)]) (g := gName 19) (tt := tYes) rfl sc__law_cover.nd (pi_range1 (by rfl) M.range (pa_cons (pe_callB (len_seqK K) (by rfl) M.len PySem.boot_len (pa_cons (pv 9) pa_nil)) pa_nil)) (blkOk_by (N := N__law_cover) (sc := defScope s__law_cover) (by decide +kernel)) (fun _ _ _ _ _ => (pg_name (i := 19) sc__law_cover.nd rfl (.inl rfl))) (fun _ _ _ _ _ => pts_nil) (fun _ _ _ _ _ => (pe_or (pe_ix (ix_tupK K) (pv 9) (pv 19) (fun _ _ => rfl)) (pe_one (pe_ix (ix_tupK K) (pv 10) (pv 19) (fun _ _ => rfl)))))) pa_nil)))
      (pss_cons (ps_set (i := 12) sc__law_cover.nd rfl (.inl rfl) (pe_u c__law_cover hr (by first | decide | omega) (by rfl) (pa_cons (pv 11) (pa_cons (pe_u c__law_both hr (by first | decide | omega) (by rfl) (pa_cons (pe_ix (ix_listK K) (pv 6) pe_int (fun _ _ => rfl)) (pa_cons (pe_ix (ix_listK K) (pv 6) pe_int (fun _ _ => rfl)) pa_nil))) (pa_cons (pv 2) pa_nil)))))
      (pss_cons (ps_set (i := 13) sc__law_cover.nd rfl (.inr rfl) (pe_ix (ix_listK K) (pv 2) (pv 4) (fun _ _ => rfl)))
      (pss_cons (ps_setLc (i := 14) (own := [("there", 16), ("missing", 17)]) (g := gTup K 2 (gCons (gName 16) (gCons (gName 17) (gNil)))) (tt := tYes) rfl sc__law_cover.nd rfl rfl (sw_true rfl rfl rfl (by decide +kernel)) (pi_list (pv 7)) (blkOk_by (N := N__law_cover) (sc := defScope s__law_cover) (by decide +kernel)) (fun _ _ _ _ _ => (pg_tup (by rfl) (pgs_cons (pg_name (i := 16) sc__law_cover.nd rfl (.inl rfl)) (pgs_cons (pg_name (i := 17) sc__law_cover.nd rfl (.inl rfl)) pgs_nil)))) (fun _ _ _ _ _ => pts_nil) (fun _ _ _ _ _ => (pe_tup (pa_cons (pv 16) (pa_cons (pe_op op_cat (pe_lst (pa_cons (pv 13) pa_nil)) (pv 17)) pa_nil)))))
      (pss_one (ps_ret (pe_op op_cat (pe_op op_cat (pv 14) (pe_lc (own := [("there", 16), ("missing", 17)]) (g := gTup K 2 (gCons (gName 16) (gCons (gName 17) (gNil)))) (tt := tYes) rfl sc__law_cover.nd (pi_list (pv 8)) (blkOk_by (N := N__law_cover) (sc := defScope s__law_cover) (by decide +kernel)) (fun _ _ _ _ _ => (pg_tup (by rfl) (pgs_cons (pg_name (i := 16) sc__law_cover.nd rfl (.inl rfl)) (pgs_cons (pg_name (i := 17) sc__law_cover.nd rfl (.inl rfl)) pgs_nil)))) (fun _ _ _ _ _ => pts_nil) (fun _ _ _ _ _ => (pe_tup (pa_cons (pe_op op_cat (pe_lst (pa_cons (pv 13) pa_nil)) (pv 16)) (pa_cons (pv 17) pa_nil)))))) (pv 12)))))))))))))))))), ?_⟩
    rw [← hH2] at elp2 ehp2 eea2 ⊢
    clear hH2
    refine ⟨_, rfl, lp, _, rfl, .of elp2, _, rfl, ?_⟩
    rw [tt_any hn wA']
    by_cases h1 : A = .lf false
    · rw [decide_eq_true h1]
      refine iteT ⟨by show 0 ≤ sizeLine; decide, fun r nr => ?_⟩
      refine q _ rfl _ r [] (s02.trans (same_upd nr)) (sm_free s02 r nr) upd_same ?_
      rw [h1, cov_0]
      exact .nil
    rw [decide_eq_false h1]
    refine iteF ⟨_, rfl, hp, _, rfl, .of ehp2, _, rfl, ?_⟩
    rw [tt_all hn wB']
    by_cases h2 : B = .lf true
    · rw [decide_eq_true h2]
      refine iteT ⟨by show 0 ≤ sizeLine; decide, fun p1 n1 => ?_⟩
      have s1 := same_upd n1 (o := .lst [])
      have ep1 : (upd H2 p1 (.lst [])) p1 = some (.lst (([] : List Int).map V.int)) := upd_same
      generalize upd H2 p1 (.lst []) = H3 at s1 ep1 ⊢
      refine ⟨by show 0 ≤ sizeLine; decide, fun p2 n2 => ?_⟩
      have s2 := same_upd n2 (o := .lst [])
      have ep2 : (upd H3 p2 (.lst [])) p2 = some (.lst (([] : List Int).map V.int)) := upd_same
      generalize upd H3 p2 (.lst []) = H4 at s2 ep2 ⊢
      refine ⟨by show 2 ≤ sizeLine; decide, fun t nt => ?_⟩
      have st := same_upd nt (o := .tup [.ref p1, .ref p2])
      have et : (upd H4 t (.tup [.ref p1, .ref p2])) t = some (.tup [.ref p1, .ref p2]) := upd_same
      generalize upd H4 t (.tup [.ref p1, .ref p2]) = H5 at st et ⊢
      refine ⟨by show 1 ≤ sizeLine; decide, fun r nr => ?_⟩
      have sr := same_upd nr (o := .lst [.ref t])
      have s5 := ((s02.trans s1).trans s2).trans st
      refine q _ rfl _ r [.ref t] (s5.trans sr) (sm_free s5 r nr) upd_same ?_
      rw [h2, cov_1 _ _ h1]
      exact .cons ⟨t, p1, p2, rfl, sr _ _ et, sm_free s02 _ n1, sr _ _ (st _ _ (s2 _ _ ep1)), sm_free (s02.trans s1) _ n2, sr _ _ (st _ _ ep2)⟩ .nil
    rw [decide_eq_false h2]
    refine iteF ?_
    obtain ⟨nA, nB⟩ := leaf_of (List.nodup_append.mp hn).2.1 wA wB hle h1 h2
    obtain ⟨pre2, x, rest, hes, w1, w2, ht, hx⟩ := cov_split hs wA wB hle h1 h2
    obtain ⟨P3, hP3⟩ : ∃ P3, P3 = pre ++ pre2 := ⟨_, rfl⟩
    obtain ⟨p3, hp3⟩ : ∃ p3, p3 = P3 ++ [x] := ⟨_, rfl⟩
    have hfu : pre ++ es = p3 ++ rest := by rw [hp3, hP3, hes]; simp
    have hfx : p3 ++ rest = P3 ++ x :: rest := by rw [hp3]; simp
    have hrl : rest.length + 1 ≤ es.length := by
      rw [hes, List.length_append, List.length_cons]
      omega
    rw [cov_s _ _ h1 h2, ht] at q
    rw [hfu] at elp2 ehp2 eea2 hs hl4 hn wA' wB' q
    clear hP3 hes hfu wA wB
    obtain ⟨i1, i2, t1, t2, g1, g2, g3⟩ := tops_min (P3 := P3) (by rw [← hfx]; exact hn) w1 w2 nA nB ht
    rw [← hfx] at t1 t2
    obtain ⟨k, hk⟩ : ∃ k, k = P3.length := ⟨_, rfl⟩
    have hkx : (p3 ++ rest)[k]? = some x := by rw [hfx, hk, List.getElem?_append_right (Nat.le_refl _), Nat.sub_self]; rfl
    have hkl : k < (p3 ++ rest).length := (List.getElem?_eq_some_iff.mp hkx).1
    rw [← hk] at g1 g2 g3
    refine ⟨_, rfl, _, rfl, by show 2 ≤ sizeLine; decide, fun T0 nT0 => ?_⟩
    have sT := same_upd nT0 (o := .tup [.ref lp, .ref hp])
    have eT0 : (upd H2 T0 (.tup [.ref lp, .ref hp])) T0 = some (.tup [.ref lp, .ref hp]) := upd_same
    generalize upd H2 T0 (.tup [.ref lp, .ref hp]) = H3 at sT eT0 ⊢
    refine ⟨T0, rfl, ⟨_, .of eT0⟩, fun D nD => ?_⟩
    refine lc_tup (K := K) (a := T0) (xs := [.ref lp, .ref hp]) (fun j Hj => Same H3 Hj ∧ Hj D = some (.lst ([topV (p3 ++ rest) A, topV (p3 ++ rest) B].take j))) ⟨same_upd nD, upd_same⟩ (fun j Hj _ hpj => .of (hpj.1 _ _ eT0)) (fun j y Hj hy hpj => ?_) (fun H4 hpj => ?_)
    · obtain ⟨sj, eDj⟩ := hpj
      obtain ⟨p, T, rfl, ep, wT, hj⟩ : ∃ p T, y = .ref p ∧ H3 p = some (.tup ((tt (p3 ++ rest) T).map V.bl)) ∧ Wf (p3 ++ rest) T ∧ [topV (p3 ++ rest) A, topV (p3 ++ rest) B][j]? = some (topV (p3 ++ rest) T) := by
        rcases j with _ | _ | j
        · exact ⟨lp, A, (Option.some.inj hy).symm, sT _ _ elp2, wA', rfl⟩
        · exact ⟨hp, B, (Option.some.inj hy).symm, sT _ _ ehp2, wB', rfl⟩
        · cases hy
      refine ⟨rfl, _, rfl, _, rfl, ea, _, rfl, .inl (.of (sj _ _ (sT _ _ eea2))), ?_⟩
      rw [List.length_map]
      refine ⟨p, _, T, rfl, .of (sj _ _ ep), wT, hn, by omega, fun H5 s5 => ?_⟩
      refine ⟨_, s5 _ _ eDj, ?_, fun z o hz => ?_, ?_⟩
      · rw [List.length_take]
        exact Nat.lt_of_le_of_lt (m := 2) (Nat.min_le_right _ _) (by decide)
      · rw [upd_ne (ne_of_none hz nD)]
        exact s5 _ _ (sj _ _ hz)
      · rw [upd_same, List.take_add_one, hj]
        rfl
    obtain ⟨s4, eD⟩ := hpj
    have eD : H4 D = some (.lst [.int (i1 : Int), .int (i2 : Int)]) := by
      rw [← t1, ← t2]
      exact eD
    refine ⟨_, rfl, D, rfl, ⟨_, .of eD⟩, fun D2 nD2 => ?_⟩
    refine lc_list (K := K) (a := D) (xs := [.int (i1 : Int), .int (i2 : Int)]) (fun j Hj => Same H4 Hj ∧ Hj D2 = some (.lst (([.int (i1 : Int), .int (i2 : Int)] : List V).take j))) ⟨same_upd nD2, upd_same⟩ (fun j Hj _ hpj => .of (hpj.1 _ _ eD)) (fun j y Hj hy hpj => ?_) (fun H5 hpj => ?_)
    · obtain ⟨sj, eDj⟩ := hpj
      obtain ⟨i, rfl⟩ : ∃ i, y = V.int i := by
        rcases j with _ | _ | j
        · exact ⟨_, (Option.some.inj hy).symm⟩
        · exact ⟨_, (Option.some.inj hy).symm⟩
        · cases hy
      refine ⟨rfl, _, rfl, rfl, _, rfl, ?_⟩
      rw [show (!decide (V.int i = V.non)) = true by rw [decide_eq_false (fun z => nomatch z)]; rfl]
      refine iteT ⟨_, rfl, _, eDj, ?_, fun z o hz => ?_, ?_⟩
      · rw [List.length_take]
        exact Nat.lt_of_le_of_lt (m := 2) (Nat.min_le_right _ _) (by decide)
      · rw [upd_ne (ne_of_none hz nD2)]
        exact sj _ _ hz
      · rw [upd_same, List.take_add_one, hy]
        rfl
    obtain ⟨s5, eD2⟩ := hpj
    refine ⟨D2, [(i1 : Int), (i2 : Int)], rfl, .of eD2, (show 0 < 2 by decide), fun m hm hmin => ?_⟩
    obtain rfl : m = ((k : Nat) : Int) := by
      have y1 := hmin _ List.mem_cons_self
      have y2 := hmin _ (List.mem_cons_of_mem _ List.mem_cons_self)
      simp only [List.mem_cons, List.not_mem_nil, or_false] at hm
      omega
    have s25 := (sT.trans s4).trans s5
    clear eD eD2 s4 s5 sT eT0 nT0 nD nD2 hmin hm
    have elp5 := s25 _ _ elp2
    have ehp5 := s25 _ _ ehp2
    have eea5 := s25 _ _ eea2
    have s05 := s02.trans s25
    clear elp2 ehp2 eea2 s02 s25
    -- what stands at the first question
    obtain ⟨aw, eaw⟩ := w1.cw hx
    obtain ⟨at', eat⟩ := w1.ct hx
    obtain ⟨bw, ebw⟩ := w2.cw hx
    obtain ⟨bt, ebt⟩ := w2.ct hx
    refine ⟨_, rfl, _, rfl, lp, tt (p3 ++ rest) A, k, false, (p3 ++ rest).length, rfl, .of elp5, tt_len _ _, hkl, by omega, fun H6 a0 s6 ea0 => ?_⟩
    rw [fixL_eq hn wA' hkx (c := A.cw x) (fun r => (eaw r).symm)] at ea0
    refine ⟨_, rfl, _, rfl, lp, tt (p3 ++ rest) A, k, true, (p3 ++ rest).length, rfl, .of (s6 _ _ elp5), tt_len _ _, hkl, by omega, fun H7 a1 s7 ea1 => ?_⟩
    rw [fixL_eq hn wA' hkx (c := A.ct x) (fun r => (eat r).symm)] at ea1
    refine ⟨by show 2 ≤ sizeLine; decide, fun p6 n6 => ?_⟩
    have s8 := same_upd n6 (o := .lst [.ref a0, .ref a1])
    have ep6 : (upd H7 p6 (.lst [.ref a0, .ref a1])) p6 = some (.lst [.ref a0, .ref a1]) := upd_same
    generalize upd H7 p6 (.lst [.ref a0, .ref a1]) = H8 at s8 ep6 ⊢
    have s58 := (s6.trans s7).trans s8
    refine ⟨_, rfl, _, rfl, hp, tt (p3 ++ rest) B, k, false, (p3 ++ rest).length, rfl, .of (s58 _ _ ehp5), tt_len _ _, hkl, by omega, fun H9 b0 s9 eb0 => ?_⟩
    rw [fixL_eq hn wB' hkx (c := B.cw x) (fun r => (ebw r).symm)] at eb0
    refine ⟨_, rfl, _, rfl, hp, tt (p3 ++ rest) B, k, true, (p3 ++ rest).length, rfl, .of (s9 _ _ (s58 _ _ ehp5)), tt_len _ _, hkl, by omega, fun H10 b1 s10 eb1 => ?_⟩
    rw [fixL_eq hn wB' hkx (c := B.ct x) (fun r => (ebt r).symm)] at eb1
    refine ⟨by show 2 ≤ sizeLine; decide, fun p7 n7 => ?_⟩
    have sb := same_upd n7 (o := .lst [.ref b0, .ref b1])
    have ep7 : (upd H10 p7 (.lst [.ref b0, .ref b1])) p7 = some (.lst [.ref b0, .ref b1]) := upd_same
    generalize upd H10 p7 (.lst [.ref b0, .ref b1]) = H11 at sb ep7 ⊢
    have s811 := (s9.trans s10).trans sb
    have s511 := s58.trans s811
    have s11 := s05.trans s511
    have K11 : LvK (p3 ++ rest) (A.cw x) (A.ct x) (B.cw x) (B.ct x) a0 a1 b0 b1 p6 p7 ea H11 := ⟨s811 _ _ (s8 _ _ (s7 _ _ ea0)), s811 _ _ (s8 _ _ ea1), sb _ _ (s10 _ _ eb0), sb _ _ eb1, s811 _ _ ep6, ep7, s511 _ _ eea5⟩
    clear ea0 ea1 eb0 eb1 ep6 ep7 sb s6 s7 s8 s9 s10 s58 s811 s511 s05 eea5 elp5 ehp5 n6 n7
    have lw : ∀ ρ, (A.cw x).ev ρ = true → (B.cw x).ev ρ = true := fun ρ h => by rw [eaw] at h; rw [ebw]; exact hle _ h
    have lt : ∀ ρ, (A.ct x).ev ρ = true → (B.ct x).ev ρ = true := fun ρ h => by rw [eat] at h; rw [ebt]; exact hle _ h
    obtain ⟨v1, u1⟩ := low_bn hn aw bt
    obtain ⟨v2, u2⟩ := low_bn hn at' bw
    have hl' : rest.length < n := by omega
    have le1 : ∀ ρ, (bnB (p3 ++ rest) (A.cw x) (B.ct x)).ev ρ = true → (B.cw x).ev ρ = true := fun ρ h => by rw [u1, Bool.and_eq_true] at h; exact lw ρ h.1
    have le2 : ∀ ρ, (bnB (p3 ++ rest) (A.ct x) (B.cw x)).ev ρ = true → (B.ct x).ev ρ = true := fun ρ h => by rw [u2, Bool.and_eq_true] at h; exact lt ρ h.1
    have k1 := cov_ok n p3 rest _ _ hs v1 bw le1 hl'
    have k2 := cov_ok n p3 rest _ _ hs v2 bt le2 hl'
    have l3 : rest.length ≤ 3 := by
      have h5 : (p3 ++ rest).length ≤ 4 := hl4
      have h6 : p3.length = P3.length + 1 := by rw [hp3, List.length_append]; rfl
      rw [List.length_append] at h5
      omega
    have wff : ∀ {T : Bd}, Wf rest T → Wf (p3 ++ rest) T := fun h => h.skips p3
    -- the first cover
    obtain ⟨xa0, xa1, xb0, xb1, xp6, xp7, xea⟩ := K11
    refine ⟨_, rfl, p6, _, _, .ref a0, rfl, rfl, .of xp6, rfl, _, rfl, p7, _, _, .ref b1, rfl, rfl, .of xp7, rfl, b1, p3 ++ rest, B.ct x, rfl, .of xb1, hl4, fun H12 n1 T12 s12 hT12 en1 => ?_⟩
    refine ⟨a0, n1, p3 ++ rest, A.cw x, T12, bnB (p3 ++ rest) (A.cw x) (B.ct x), rfl, .of (s12 _ _ xa0), .of en1, hl4, fun ρ => by rw [u1, hT12, bnC_ev], fun H13 c1 s13 ec1 => ?_⟩
    have s113 := s12.trans s13
    refine ⟨_, rfl, p7, _, _, .ref b0, rfl, rfl, .of (s113 _ _ xp7), rfl, _, rfl, ?_⟩
    have s013 := s11.trans s113
    refine ⟨c1, b0, ea, p3, rest, _, B.cw x, rfl, ec1, s113 _ _ xb0, s113 _ _ xea, hs, hl4, hl', v1, bw, le1, fun res1 hr1 H14 r1 ys1 s14 nr1 er1 L1 => ?_⟩
    have K14 : LvK (p3 ++ rest) (A.cw x) (A.ct x) (B.cw x) (B.ct x) a0 a1 b0 b1 p6 p7 ea H14 := LvK.same (s113.trans s14) ⟨xa0, xa1, xb0, xb1, xp6, xp7, xea⟩
    clear xa0 xa1 xb0 xb1 xp6 xp7 xea s12 s13 ec1 en1 s113
    have L1 := L2L.imp (fun z c h => h.weak (sm_free s013)) L1
    have s014 := s013.trans s14
    clear s14 s013 s11
    -- the second cover
    obtain ⟨xa0, xa1, xb0, xb1, xp6, xp7, xea⟩ := K14
    refine ⟨_, rfl, p6, _, _, .ref a1, rfl, rfl, .of xp6, rfl, _, rfl, p7, _, _, .ref b0, rfl, rfl, .of xp7, rfl, b0, p3 ++ rest, B.cw x, rfl, .of xb0, hl4, fun H15 n2 T15 s15 hT15 en2 => ?_⟩
    refine ⟨a1, n2, p3 ++ rest, A.ct x, T15, bnB (p3 ++ rest) (A.ct x) (B.cw x), rfl, .of (s15 _ _ xa1), .of en2, hl4, fun ρ => by rw [u2, hT15, bnC_ev], fun H16 c2 s16 ec2 => ?_⟩
    have s146 := s15.trans s16
    refine ⟨_, rfl, p7, _, _, .ref b1, rfl, rfl, .of (s146 _ _ xp7), rfl, _, rfl, ?_⟩
    have s016 := s014.trans s146
    refine ⟨c2, b1, ea, p3, rest, _, B.ct x, rfl, ec2, s146 _ _ xb1, s146 _ _ xea, hs, hl4, hl', v2, bt, le2, fun res2 hr2 H17 r2 ys2 s17 nr2 er2 L2 => ?_⟩
    have s147 := s146.trans s17
    have K17 : LvK (p3 ++ rest) (A.cw x) (A.ct x) (B.cw x) (B.ct x) a0 a1 b0 b1 p6 p7 ea H17 := LvK.same s147 ⟨xa0, xa1, xb0, xb1, xp6, xp7, xea⟩
    clear xa0 xa1 xb0 xb1 xp6 xp7 xea s15 s16 ec2 en2
    have L2 := L2L.imp (fun z c h => h.weak (sm_free s016)) L2
    have s017 := s016.trans s17
    have L1 := L2L.imp (fun z c h => h.same s147) L1
    have er1 := s147 _ _ er1
    clear s17 s016 s147 s146 s014
    rw [← hr1] at k1
    rw [← hr2] at k2
    unfold covS at q
    rw [← hr1, ← hr2] at q
    have hT27 : 3 ^ rest.length ≤ 27 := Nat.pow_le_pow_right (n := 3) (by decide) l3
    have c1l : res1.1.length ≤ 27 := Nat.le_trans k1.len hT27
    have c2l : res2.1.length ≤ 27 := Nat.le_trans k2.len hT27
    have lit : ∀ {A B : Bd} {cs : List Cse}, CovOk rest A B cs → ∀ c ∈ cs, LitOk (p3 ++ rest) c := fun k c hc => ⟨wff (k.wf c hc), k.lit c hc, by have := (k.sub c hc).1.length_le; omega, by have := (k.sub c hc).2.length_le; omega⟩
    obtain ⟨wa1, ua1⟩ := low_ap hn (as := apl res1.1) (fun a ha => by obtain ⟨c, hc, rfl⟩ := List.mem_map.mp ha; exact k1.wf c hc)
    obtain ⟨wa2, ua2⟩ := low_ap hn (as := apl res2.1) (fun a ha => by obtain ⟨c, hc, rfl⟩ := List.mem_map.mp ha; exact k2.wf c hc)
    obtain ⟨wr1, ur1⟩ := low_bn hn aw wa1
    obtain ⟨wr2, ur2⟩ := low_bn hn at' wa2
    obtain ⟨wr, ur⟩ := low_or hn wr1 wr2
    obtain ⟨wb, ub⟩ := low_an hn bw bt
    have le3 : ∀ ρ, (orB (p3 ++ rest) (bnB (p3 ++ rest) (A.cw x) (apB (p3 ++ rest) (apl res1.1))) (bnB (p3 ++ rest) (A.ct x) (apB (p3 ++ rest) (apl res2.1)))).ev ρ = true → (anB (p3 ++ rest) (B.cw x) (B.ct x)).ev ρ = true := fun ρ h => by
      rw [ur, Bool.or_eq_true] at h
      rw [ub, Bool.and_eq_true]
      rcases h with h | h
      · rw [ur1, Bool.and_eq_true] at h
        refine ⟨lw ρ h.1, ?_⟩
        cases e : (B.ct x).ev ρ with
        | true => rfl
        | false =>
          have := k1.up ρ (by rw [u1, h.1, e]; rfl)
          rw [ua1, this] at h
          cases h.2
      · rw [ur2, Bool.and_eq_true] at h
        refine ⟨?_, lt ρ h.1⟩
        cases e : (B.cw x).ev ρ with
        | true => rfl
        | false =>
          have := k2.up ρ (by rw [u2, h.1, e]; rfl)
          rw [ua2, this] at h
          cases h.2
    have k3 := cov_ok n p3 rest _ _ hs wr wb le3 hl'
    -- what is left on the left
    obtain ⟨xa0, xa1, xb0, xb1, xp6, xp7, xea⟩ := K17
    refine ⟨_, rfl, p6, _, _, .ref a0, rfl, rfl, .of xp6, rfl, _, rfl, _, rfl, r1, ea, p3 ++ rest, ys1, res1.1, apB (p3 ++ rest) (apl res1.1), rfl, er1, L2L.dp L1, xea, hl4, lit k1, by omega, fun ρ => by rw [ua1, List.any_map]; rfl, fun H18 g1 s18 eg1 => ?_⟩
    refine ⟨g1, p3 ++ rest, _, rfl, .of eg1, hl4, fun H19 g2 T19 s19 hT19 eg2 => ?_⟩
    refine ⟨a0, g2, p3 ++ rest, A.cw x, T19, bnB (p3 ++ rest) (A.cw x) (apB (p3 ++ rest) (apl res1.1)), rfl, .of (s19 _ _ (s18 _ _ xa0)), .of eg2, hl4, fun ρ => by rw [ur1, hT19, bnC_ev], fun H20 lf s20 elf => ?_⟩
    have s1720 := (s18.trans s19).trans s20
    have K20 := LvK.same s1720 ⟨xa0, xa1, xb0, xb1, xp6, xp7, xea⟩
    have L1 := L2L.imp (fun z c h => h.same s1720) L1
    have L2 := L2L.imp (fun z c h => h.same s1720) L2
    have er1 := s1720 _ _ er1
    have er2 := s1720 _ _ er2
    have s020 := s017.trans s1720
    clear xa0 xa1 xb0 xb1 xp6 xp7 xea s1720 s18 s19 s20 eg1 eg2 s017
    -- what is left on the right
    obtain ⟨xa0, xa1, xb0, xb1, xp6, xp7, xea⟩ := K20
    refine ⟨_, rfl, p6, _, _, .ref a1, rfl, rfl, .of xp6, rfl, _, rfl, _, rfl, r2, ea, p3 ++ rest, ys2, res2.1, apB (p3 ++ rest) (apl res2.1), rfl, er2, L2L.dp L2, xea, hl4, lit k2, by omega, fun ρ => by rw [ua2, List.any_map]; rfl, fun H22 g3 s22 eg3 => ?_⟩
    refine ⟨g3, p3 ++ rest, _, rfl, .of eg3, hl4, fun H23 g4 T23 s23 hT23 eg4 => ?_⟩
    refine ⟨a1, g4, p3 ++ rest, A.ct x, T23, bnB (p3 ++ rest) (A.ct x) (apB (p3 ++ rest) (apl res2.1)), rfl, .of (s23 _ _ (s22 _ _ xa1)), .of eg4, hl4, fun ρ => by rw [ur2, hT23, bnC_ev], fun H24 rf s24 erf => ?_⟩
    have s2024 := (s22.trans s23).trans s24
    have K25 := LvK.same s2024 ⟨xa0, xa1, xb0, xb1, xp6, xp7, xea⟩
    have L1 := L2L.imp (fun z c h => h.same s2024) L1
    have L2 := L2L.imp (fun z c h => h.same s2024) L2
    have er1 := s2024 _ _ er1
    have er2 := s2024 _ _ er2
    have elf := s2024 _ _ elf
    have s024 := s020.trans s2024
    clear xa0 xa1 xb0 xb1 xp6 xp7 xea s2024 s22 s23 s24 eg3 eg4 s020
    -- what is left of both
    obtain ⟨TL, hTL⟩ : ∃ TL, TL = bnB (p3 ++ rest) (A.cw x) (apB (p3 ++ rest) (apl res1.1)) := ⟨_, rfl⟩
    obtain ⟨TR, hTR⟩ : ∃ TR, TR = bnB (p3 ++ rest) (A.ct x) (apB (p3 ++ rest) (apl res2.1)) := ⟨_, rfl⟩
    rw [← hTL, ← hTR] at ur
    rw [← hTL] at elf
    rw [← hTR] at erf
    have lsub : (subs (p3 ++ rest)).length ≤ 16 := by
      have hpow : 2 ^ (p3 ++ rest).length ≤ 2 ^ 4 := Nat.pow_le_pow_right (by decide) hl4
      rw [subs_len]
      omega
    have ltt : (tt (p3 ++ rest) TL).length = (subs (p3 ++ rest)).length := List.length_map ..
    obtain ⟨TO, hTO⟩ : ∃ TO, TO = orB (p3 ++ rest) TL TR := ⟨_, rfl⟩
    rw [← hTO] at ur
    refine ⟨_, rfl, lf, _, rfl, .inr (.of elf), ?_⟩
    rw [List.length_map, ltt]
    refine ⟨_, rfl, by omega, by omega, fun D9 nD9 => ?_⟩
    refine lc_range (lo := 0) (n := (((subs (p3 ++ rest)).length : Nat) : Int).toNat) (fun j Hj => Same H24 Hj ∧ Hj D9 = some (.lst ((((subs (p3 ++ rest)).take j).map fun p => TO.ev fun e => decide (e ∈ p)).map V.bl))) ⟨same_upd nD9, upd_same⟩ (fun j Hj hj hp' => ?_) (fun H25 hp' => ?_)
    · obtain ⟨sj, eD⟩ := hp'
      have hj : j < (subs (p3 ++ rest)).length := by omega
      rw [Int.zero_add]
      have hs := List.getElem?_eq_getElem hj
      generalize (subs (p3 ++ rest))[j] = l at hs
      refine ⟨rfl, ?_⟩
      have fin : ∀ y, y = (TO.ev fun e => decide (e ∈ l)) → ∃ acc, Hj D9 = some (.lst acc) ∧ acc.length < sizeLine ∧ Same H24 (upd Hj D9 (.lst (acc ++ [.bl y]))) ∧ (upd Hj D9 (.lst (acc ++ [.bl y]))) D9 = some (.lst ((((subs (p3 ++ rest)).take (j + 1)).map fun p => TO.ev fun e => decide (e ∈ p)).map V.bl)) := fun y hy => by
        refine ⟨_, eD, ?_, fun z o hz => ?_, ?_⟩
        · rw [List.length_map, List.length_map, List.length_take]
          exact Nat.lt_of_le_of_lt (m := 32) (by omega) (by decide)
        · rw [upd_ne (ne_of_none hz nD9)]
          exact sj _ _ hz
        · rw [upd_same, List.take_add_one, hs, List.map_append, List.map_append, hy]
          rfl
      refine ⟨_, rfl, _, rfl, lf, _, _, _, rfl, rfl, .of (sj _ _ elf), atI_nat (tt_at hs), _, rfl, ?_⟩
      cases hA : TL.ev fun e => decide (e ∈ l) with
      | true => exact iteT (fin true (by rw [ur, hA]; rfl))
      | false => exact iteF ⟨_, rfl, _, rfl, rf, _, _, _, rfl, rfl, .of (sj _ _ erf), atI_nat (tt_at hs), fin _ (by rw [ur, hA]; rfl)⟩
    obtain ⟨s25, eD9⟩ := hp'
    rw [Int.toNat_natCast, List.take_of_length_le (Nat.le_refl _)] at eD9
    refine ⟨D9, _, rfl, .inl ⟨.of eD9, fun lo nlo => ?_⟩⟩
    have slo := same_upd nlo (o := .tup (((subs (p3 ++ rest)).map fun p => TO.ev fun e => decide (e ∈ p)).map V.bl))
    have elo : (upd H25 lo (.tup (((subs (p3 ++ rest)).map fun p => TO.ev fun e => decide (e ∈ p)).map V.bl))) lo = some (.tup ((tt (p3 ++ rest) TO).map V.bl)) := upd_same
    generalize upd H25 lo (.tup (((subs (p3 ++ rest)).map fun p => TO.ev fun e => decide (e ∈ p)).map V.bl)) = H26 at slo elo ⊢
    have s26 := s25.trans slo
    rw [hTO, hTL, hTR] at elo
    -- the third cover
    have xp7 := s26 _ _ K25.2.2.2.2.2.1
    refine ⟨_, rfl, _, rfl, p7, _, _, .ref b0, rfl, rfl, .of xp7, rfl, _, rfl, p7, _, _, .ref b1, rfl, rfl, .of xp7, rfl, b0, b1, p3 ++ rest, _, _, _, rfl, .of (s26 _ _ K25.2.2.1), .of (s26 _ _ K25.2.2.2.1), hl4, ub, fun H27 hi s27 ehi => ?_⟩
    have s2527 := s26.trans s27
    have s027 := s024.trans s2527
    refine ⟨_, rfl, lo, hi, ea, p3, rest, _, _, rfl, s27 _ _ elo, ehi, s2527 _ _ K25.2.2.2.2.2.2, hs, hl4, hl', wr, wb, le3, fun res3 hr3 H28 r3 ys3 s28 nr3 er3 L3 => ?_⟩
    rw [← hr3] at q k3
    have c3l : res3.1.length ≤ 27 := Nat.le_trans k3.len hT27
    have L3 := L2L.imp (fun z c h => h.weak (sm_free s027)) L3
    have s2528 := s2527.trans s28
    have L1 := L2L.imp (fun z c h => h.same s2528) L1
    have L2 := L2L.imp (fun z c h => h.same s2528) L2
    have er1 := s2528 _ _ er1
    have er2 := s2528 _ _ er2
    have xea := s2528 _ _ K25.2.2.2.2.2.2
    have s028 := s027.trans s28
    clear s2528 s28 s2527 s26 s27 elo ehi xp7 K25 s024 s027 elf erf slo s25 eD9 nD9
    -- the cases of both sides
    refine gn_eq (σ := [some (.ref lp), some (.ref hp), some (.ref ea), some (.ref D), some (.int ((k : Nat) : Int)), some (.ref p6), some (.ref p7), some (.ref r1), some (.ref r2), some (.ref lf), some (.ref rf), some (.ref lo), none, none, none, none, none, none, none, none]) rfl ?_
    refine ⟨_, rfl, _, rfl, ea, _, _, .int x, rfl, rfl, .of xea, atI_nat (by rw [List.getElem?_map, hkx]; rfl), ?_⟩
    have l1 := L1.len
    have l2 := L2.len
    have l3' := L3.len
    have stp : ∀ {H0 Hc : Hp} {D : Addr} {ys : List V} {z : V} {c : Cse} {cs : List Cse}, Hc D = some (.lst ys) → L2L (upd H0 D (.lst ys)) Hc ys cs → L2E (upd H0 D (.lst ys)) Hc z c → L2L (upd H0 D (.lst (ys ++ [z]))) (upd Hc D (.lst (ys ++ [z]))) (ys ++ [z]) (cs ++ [c]) := fun eD a b => (L2L.imp (fun z c h => h.updD eD) a).app (.cons (b.updD eD) .nil)
    refine ⟨_, rfl, r1, rfl, ⟨_, .of er1⟩, fun D nD => ?_⟩
    refine lc_list (K := K) (a := r1) (xs := ys1) (fun j Hj => Same H28 Hj ∧ ∃ ys, Hj D = some (.lst ys) ∧ L2L (upd H D (.lst ys)) Hj ys ((res1.1.take j).map (woC (p3 ++ rest) x))) ⟨same_upd nD, [], upd_same, .nil⟩ (fun j Hj _ hpj => .of (hpj.1 _ _ er1)) (fun j y Hj hy hpj => ?_) (fun H29 hpj => ?_)
    · obtain ⟨sj, ys, eDj, Lj⟩ := hpj
      have hj : j < res1.1.length := by rw [← l1]; exact (List.getElem?_eq_some_iff.mp hy).1
      obtain ⟨z, hz, hE⟩ := L1.get (List.getElem?_eq_getElem hj)
      obtain rfl : z = y := Option.some.inj (hz.symm.trans hy)
      have hm := List.getElem?_eq_getElem hj
      have sc := k1.sub _ (List.getElem_mem hj)
      generalize res1.1[j] = c at hE hm sc
      have sc2 := sc.2.length_le
      obtain ⟨t, p, p2, rfl, et, np, ep, np2, ep2⟩ := (hE.onD (o := .lst ys) nD).same sj
      have lj := Lj.len
      rw [List.length_map, List.length_take] at lj
      refine ⟨t, _, rfl, .of et, rfl, _, _, rfl, _, _, rfl, rfl, rfl, _, rfl, _, rfl, by show 1 ≤ sizeLine; decide, fun d1 nd1 => ?_⟩
      have sd1 := same_upd nd1 (o := .lst [.int x])
      have ed1 : (upd Hj d1 (.lst [.int x])) d1 = some (.lst [.int x]) := upd_same
      generalize upd Hj d1 (.lst [.int x]) = Hk at sd1 ed1 ⊢
      refine ⟨_, rfl, d1, p2, _, _, rfl, rfl, ed1, sd1 _ _ ep2, ?_, fun d2 nd2 => ?_⟩
      · rw [List.length_singleton, List.length_map]
        exact Nat.le_trans (m := 10) (by omega) (by decide)
      have sd2 := same_upd nd2 (o := .lst ([.int x] ++ c.2.1.map V.int))
      have ed2 : (upd Hk d2 (.lst ([.int x] ++ c.2.1.map V.int))) d2 = some (.lst ((x :: c.2.1).map V.int)) := upd_same
      generalize upd Hk d2 (.lst ([.int x] ++ c.2.1.map V.int)) = Hl at sd2 ed2 ⊢
      refine ⟨by show 2 ≤ sizeLine; decide, fun d3 nd3 => ?_⟩
      have sd3 := same_upd nd3 (o := .tup [.ref p, .ref d2])
      have ed3 : (upd Hl d3 (.tup [.ref p, .ref d2])) d3 = some (.tup [.ref p, .ref d2]) := upd_same
      generalize upd Hl d3 (.tup [.ref p, .ref d2]) = Hm at sd3 ed3 ⊢
      have sjm := (sd1.trans sd2).trans sd3
      have eDm := sjm _ _ eDj
      have nd2' : (upd H D (.lst ys)) d2 = none := by
        rw [upd_ne (ne_of_none (sd1 _ _ eDj) nd2).symm]
        exact sm_free (s028.trans sj) d2 (by
          cases e : Hj d2 with
          | none => rfl
          | some u => rw [sd1 _ _ e] at nd2; cases nd2)
      refine ⟨ys, eDm, Nat.lt_of_le_of_lt (m := 100) (by omega) (by decide), fun b o hb => ?_, _, upd_same, ?_⟩
      · rw [upd_ne (ne_of_none hb nD)]
        exact sjm _ _ (sj _ _ hb)
      · rw [List.take_add_one, hm, List.map_append]
        exact stp eDm (L2L.imp (fun z c h => h.same sjm) Lj) ⟨d3, p, d2, rfl, ed3, np, sjm _ _ ep, nd2', sd3 _ _ ed2⟩
    obtain ⟨s29, za, eD29, La⟩ := hpj
    rw [l1, List.take_of_length_le (Nat.le_refl _)] at La
    have La := L2L.imp (fun z c h => h.weak fun b hb => upd_none hb) La
    have s029 := s028.trans s29
    refine ⟨_, rfl, _, rfl, r2, rfl, ⟨_, .of (s29 _ _ er2)⟩, fun D2 nD2 => ?_⟩
    have L2 := L2L.imp (fun z c h => h.same s29) L2
    have er2 := s29 _ _ er2
    refine lc_list (K := K) (a := r2) (xs := ys2) (fun j Hj => Same H29 Hj ∧ ∃ ys, Hj D2 = some (.lst ys) ∧ L2L (upd H D2 (.lst ys)) Hj ys ((res2.1.take j).map (wiC (p3 ++ rest) x))) ⟨same_upd nD2, [], upd_same, .nil⟩ (fun j Hj _ hpj => .of (hpj.1 _ _ er2)) (fun j y Hj hy hpj => ?_) (fun H30 hpj => ?_)
    · obtain ⟨sj, ys, eDj, Lj⟩ := hpj
      have hj : j < res2.1.length := by rw [← l2]; exact (List.getElem?_eq_some_iff.mp hy).1
      obtain ⟨z, hz, hE⟩ := L2.get (List.getElem?_eq_getElem hj)
      obtain rfl : z = y := Option.some.inj (hz.symm.trans hy)
      have hm := List.getElem?_eq_getElem hj
      have sc := k2.sub _ (List.getElem_mem hj)
      generalize res2.1[j] = c at hE hm sc
      have sc1 := sc.1.length_le
      obtain ⟨t, p, p2, rfl, et, np, ep, np2, ep2⟩ := (hE.onD (o := .lst ys) nD2).same sj
      have lj := Lj.len
      rw [List.length_map, List.length_take] at lj
      refine ⟨t, _, rfl, .of et, rfl, _, _, rfl, _, _, rfl, rfl, rfl, _, rfl, by show 1 ≤ sizeLine; decide, fun d1 nd1 => ?_⟩
      have sd1 := same_upd nd1 (o := .lst [.int x])
      have ed1 : (upd Hj d1 (.lst [.int x])) d1 = some (.lst [.int x]) := upd_same
      generalize upd Hj d1 (.lst [.int x]) = Hk at sd1 ed1 ⊢
      refine ⟨_, rfl, d1, p, _, _, rfl, rfl, ed1, sd1 _ _ ep, ?_, fun d2 nd2 => ?_⟩
      · rw [List.length_singleton, List.length_map]
        exact Nat.le_trans (m := 10) (by omega) (by decide)
      have sd2 := same_upd nd2 (o := .lst ([.int x] ++ c.1.map V.int))
      have ed2 : (upd Hk d2 (.lst ([.int x] ++ c.1.map V.int))) d2 = some (.lst ((x :: c.1).map V.int)) := upd_same
      generalize upd Hk d2 (.lst ([.int x] ++ c.1.map V.int)) = Hl at sd2 ed2 ⊢
      refine ⟨_, rfl, by show 2 ≤ sizeLine; decide, fun d3 nd3 => ?_⟩
      have sd3 := same_upd nd3 (o := .tup [.ref d2, .ref p2])
      have ed3 : (upd Hl d3 (.tup [.ref d2, .ref p2])) d3 = some (.tup [.ref d2, .ref p2]) := upd_same
      generalize upd Hl d3 (.tup [.ref d2, .ref p2]) = Hm at sd3 ed3 ⊢
      have sjm := (sd1.trans sd2).trans sd3
      have eDm := sjm _ _ eDj
      have nd2' : (upd H D2 (.lst ys)) d2 = none := by
        rw [upd_ne (ne_of_none (sd1 _ _ eDj) nd2).symm]
        exact sm_free (s029.trans sj) d2 (by
          cases e : Hj d2 with
          | none => rfl
          | some u => rw [sd1 _ _ e] at nd2; cases nd2)
      refine ⟨ys, eDm, Nat.lt_of_le_of_lt (m := 100) (by omega) (by decide), fun b o hb => ?_, _, upd_same, ?_⟩
      · rw [upd_ne (ne_of_none hb nD2)]
        exact sjm _ _ (sj _ _ hb)
      · rw [List.take_add_one, hm, List.map_append]
        exact stp eDm (L2L.imp (fun z c h => h.same sjm) Lj) ⟨d3, d2, p2, rfl, ed3, nd2', sd3 _ _ ed2, np2, sjm _ _ ep2⟩
    obtain ⟨s30, zb, eD30, Lb⟩ := hpj
    rw [l2, List.take_of_length_le (Nat.le_refl _)] at Lb
    have Lb := L2L.imp (fun z c h => h.weak fun b hb => upd_none hb) Lb
    have La := L2L.imp (fun z c h => h.same s30) La
    have la := La.len
    have lb := Lb.len
    rw [List.length_map] at la lb
    refine ⟨D, D2, za, zb, rfl, rfl, s30 _ _ eD29, eD30, Nat.le_trans (m := 100) (by omega) (by decide), fun v nv => ?_⟩
    have sv := same_upd nv (o := .lst (za ++ zb))
    have ev : (upd H30 v (.lst (za ++ zb))) v = some (.lst (za ++ zb)) := upd_same
    generalize upd H30 v (.lst (za ++ zb)) = H31 at sv ev ⊢
    have s2831 := (s29.trans s30).trans sv
    have s031 := s028.trans s2831
    refine ⟨_, rfl, v, r3, _, _, rfl, rfl, ev, s2831 _ _ er3, by rw [List.length_append]; exact Nat.le_trans (m := 100) (by omega) (by decide), fun r nr => ?_⟩
    have sr := same_upd nr (o := .lst ((za ++ zb) ++ ys3))
    refine q _ rfl _ r _ (s031.trans sr) (sm_free s031 r nr) upd_same ?_
    exact L2L.imp (fun z c h => h.same sr) (((L2L.imp (fun z c h => h.same sv) La).app (L2L.imp (fun z c h => h.same sv) Lb)).app (L2L.imp (fun z c h => h.same s2831) L3))
theorem cl_lcoverS {f : Addr} {fd : FuncData} (F : Fun K "_law_cover" "_law_cover" s__law_cover f fd) (M : Mg mg) (g : mg "_law_cover" = some (.ref f)) (b : Binds K fd ["low", "high", "entries"] []) (c__law_both : Cl P w K mg base 1 "_law_both" (sp_l2 and K)) (c__law_not : Cl P w K mg base 1 "_law_not" (sp_lnot K)) (c__law_some : Cl P w K mg base 2 "_law_some" (sp_lsomeS K)) (c__law_top : Cl P w K mg base 2 "_law_top" (sp_ltop K)) (c__law_fixed : Cl P w K mg base 1 "_law_fixed" (sp_fixed K)) : ∀ n, Cl P w K mg base (n + 6) "_law_cover" (sp_lcovS n)
  | 0 => FnOk.cl (P := P) (w := w) (base := base) (F.ok sc__law_cover (fun vs H Q E h => by obtain ⟨lp, hp, ea, pre, es, A, B, rfl, _⟩ := h; rfl) (fun cdv A0 outer s H vs Q E hr h => by obtain ⟨lp, hp, ea, pre, es, A, B, rfl, _, _, _, _, _, h0, _⟩ := h; exact absurd h0 (Nat.not_lt_zero _))) F g b
  | n + 1 => FnOk.cl (ok_lcoverS n F M (cl_lcoverS F M g b c__law_both c__law_not c__law_some c__law_top c__law_fixed n) c__law_both c__law_not c__law_some c__law_top c__law_fixed) F g b
end

/-! ### cases of conditions: what is met is of the entries; the law -/
theorem apm_wf {pre es : List Int} (hn : (pre ++ es).Nodup) : ∀ {as : List Bd}, (∀ a ∈ as, Wf es a) → ∀ B ∈ apM (pre ++ es) as, Wf es B
  | [], _, B, hB => by cases hB
  | a :: as, h, B, hB => by
    rcases List.mem_cons.mp hB with rfl | hB
    · exact (low_ap hn h).1
    · exact apm_wf hn (fun x hx => h x (List.mem_cons_of_mem _ hx)) B hB
theorem cov_wf : ∀ (n : Nat) (pre es : List Int) (A B : Bd), (pre ++ es).Pairwise (· < ·) → Wf es A → Wf es B → (∀ ρ, A.ev ρ = true → B.ev ρ = true) → es.length < n → ∀ T ∈ (cov (pre ++ es) n A B).2, Wf (pre ++ es) T
  | 0, _, _, _, _, _, _, _, _, h => absurd h (Nat.not_lt_zero _)
  | n + 1, pre, es, A, B, hs, wA, wB, hle, hl => by
    have two : ∀ T ∈ [A, B], Wf (pre ++ es) T := fun T hT => by
      simp only [List.mem_cons, List.not_mem_nil, or_false] at hT
      rcases hT with rfl | rfl
      · exact wA.skips pre
      · exact wB.skips pre
    by_cases h1 : A = .lf false
    · rw [h1, cov_0, ← h1]
      exact two
    by_cases h2 : B = .lf true
    · rw [h2, cov_1 _ _ h1, ← h2]
      exact two
    rw [cov_s _ _ h1 h2]
    obtain ⟨pre2, x, rest, rfl, w1, w2, ht, hx⟩ := cov_split hs wA wB hle h1 h2
    rw [ht]
    obtain ⟨p3, hp3⟩ : ∃ p3, p3 = pre ++ pre2 ++ [x] := ⟨_, rfl⟩
    have ees : pre ++ (pre2 ++ x :: rest) = p3 ++ rest := by rw [hp3]; simp
    rw [ees] at hs two ⊢
    have hn : (p3 ++ rest).Nodup := hs.imp fun h => by omega
    have hl' : rest.length < n := by
      rw [List.length_append, List.length_cons] at hl
      omega
    obtain ⟨aw, eaw⟩ := w1.cw hx
    obtain ⟨at', eat⟩ := w1.ct hx
    obtain ⟨bw, ebw⟩ := w2.cw hx
    obtain ⟨bt, ebt⟩ := w2.ct hx
    have lw : ∀ ρ, (A.cw x).ev ρ = true → (B.cw x).ev ρ = true := fun ρ h => by rw [eaw] at h; rw [ebw]; exact hle _ h
    have lt : ∀ ρ, (A.ct x).ev ρ = true → (B.ct x).ev ρ = true := fun ρ h => by rw [eat] at h; rw [ebt]; exact hle _ h
    obtain ⟨v1, u1⟩ := low_bn hn aw bt
    obtain ⟨v2, u2⟩ := low_bn hn at' bw
    have k1 := cov_ok n p3 rest _ _ hs v1 bw (fun ρ h => by rw [u1, Bool.and_eq_true] at h; exact lw ρ h.1) hl'
    have k2 := cov_ok n p3 rest _ _ hs v2 bt (fun ρ h => by rw [u2, Bool.and_eq_true] at h; exact lt ρ h.1) hl'
    have m1 := cov_wf n p3 rest _ _ hs v1 bw (fun ρ h => by rw [u1, Bool.and_eq_true] at h; exact lw ρ h.1) hl'
    have m2 := cov_wf n p3 rest _ _ hs v2 bt (fun ρ h => by rw [u2, Bool.and_eq_true] at h; exact lt ρ h.1) hl'
    unfold covS
    generalize (cov (p3 ++ rest) n (bnB (p3 ++ rest) (A.cw x) (B.ct x)) (B.cw x)) = c1 at k1 m1 ⊢
    generalize (cov (p3 ++ rest) n (bnB (p3 ++ rest) (A.ct x) (B.cw x)) (B.ct x)) = c2 at k2 m2 ⊢
    have wc1 : ∀ a ∈ apl c1.1, Wf rest a := fun a ha => by obtain ⟨c, hc, rfl⟩ := List.mem_map.mp ha; exact k1.wf c hc
    have wc2 : ∀ a ∈ apl c2.1, Wf rest a := fun a ha => by obtain ⟨c, hc, rfl⟩ := List.mem_map.mp ha; exact k2.wf c hc
    obtain ⟨wa1, ua1⟩ := low_ap hn wc1
    obtain ⟨wa2, ua2⟩ := low_ap hn wc2
    have q1 := apm_wf hn wc1
    have q2 := apm_wf hn wc2
    obtain ⟨wr1, ur1⟩ := low_bn hn aw wa1
    obtain ⟨wr2, ur2⟩ := low_bn hn at' wa2
    obtain ⟨wr, ur⟩ := low_or hn wr1 wr2
    obtain ⟨wb, ub⟩ := low_an hn bw bt
    have m3 := cov_wf n p3 rest _ _ hs wr wb (fun ρ h => by
      rw [ur, Bool.or_eq_true] at h
      rw [ub, Bool.and_eq_true]
      rcases h with h | h
      · rw [ur1, Bool.and_eq_true] at h
        refine ⟨lw ρ h.1, ?_⟩
        cases e : (B.ct x).ev ρ with
        | true => rfl
        | false =>
          have := k1.up ρ (by rw [u1, h.1, e]; rfl)
          rw [ua1, this] at h
          cases h.2
      · rw [ur2, Bool.and_eq_true] at h
        refine ⟨?_, lt ρ h.1⟩
        cases e : (B.cw x).ev ρ with
        | true => rfl
        | false =>
          have := k2.up ρ (by rw [u2, h.1, e]; rfl)
          rw [ua2, this] at h
          cases h.2) hl'
    have wff : ∀ {T : Bd}, Wf rest T → Wf (p3 ++ rest) T := fun h => h.skips p3
    intro T hT
    simp only [List.mem_append] at hT
    rcases hT with ((((hT | hT) | hT) | (hT | hT)) | (hT | hT)) | hT
    · exact two T hT
    · exact m1 T hT
    · exact m2 T hT
    · exact wff (q1 T hT)
    · rw [List.mem_singleton.mp hT]; exact wff wr1
    · exact wff (q2 T hT)
    · rw [List.mem_singleton.mp hT]; exact wff wr2
    · exact m3 T hT
theorem dpa_bls {K : PySem.W.Frag} {H : Hp} : ∀ (l : List Bool), DpAll K H (l.map V.bl) (l.map PyData.bool)
  | [] => .nil
  | b :: l => .cons (.bl b) (dpa_bls l)
def sp_law (K : PySem.W.Frag) : Sp := fun vs H Q _ => ∃ (a : Addr) (ns : List Int), vs = [.ref a] ∧ SqL K H a (ns.map V.int) ∧ ns.length ≤ 63 ∧ ∀ H', Q (.bl true) H'
section
variable {P : Program} {w : World} {K : PySem.W.Frag} {mg : Str → Option Value} {base : Heap}
set_option maxHeartbeats 16000000 in
theorem ok_law {f C C2 : Addr} {fd : FuncData} (F : Fun K "law" "law" s_law f fd) (M : Mg mg) (c__law_draw : Cl P w K mg base 1 "_law_draw" (sp_draw K)) (c__law_next : Cl P w K mg base 1 "_law_next" sp_next) (c__law_entries : Cl P w K mg base 2 "_law_entries" (sp_ents 4)) (c__law_tree : Cl P w K mg base 7 "_law_tree" (sp_ltr K 6)) (c_Diagrams___init__ : ClC P w K mg base 1 "Diagrams" C (sp_dinit C K))
    (c__law_build : Cl P w K mg base 19 "_law_build" (sp_build C K 6 9)) (c__law_truth : Cl P w K mg base 12 "_law_truth" (sp_truth K 10)) (c__law_cover : Cl P w K mg base 11 "_law_cover" (sp_lcovS 5)) (c__law_some : Cl P w K mg base 2 "_law_some" (sp_lsomeS K)) (cx_cases : ClDX P w K mg base 17 "cases" [.int 200, .int 500] (sp_cases C C2 K)) (cn_cases_most_cases : ClNX P w K mg base 17 "cases" 2 ["most_cases"] (fun us ws => us ++ (ws ++ [.int 500])) (sp_cases C C2 K))
    (c__law_same : Cl P w K mg base 6 "_law_same" (sp_same K 5)) : FnOk P w K mg base CX0 20 f fd ["script"] (sp_law K) := by
  refine F.ok sc_law (fun vs H Q E h => ?_) (fun cdv A0 outer s0 H vs Q E hr h => ?_)
  · obtain ⟨a, ns, rfl, _⟩ := h
    rfl
  obtain ⟨a, ns, rfl, hS, _, q⟩ := h
  refine ⟨_, (pss_cons (ps_set (i := 1) sc_law.nd rfl (.inl rfl) (pe_u c__law_draw hr (by first | decide | omega) (by rfl) (pa_cons (pv 0) pa_nil)))
      (pss_cons (ps_set (i := 2) sc_law.nd rfl (.inl rfl) (pe_u c__law_entries hr (by first | decide | omega) (by rfl) (pa_cons (pv 1) (pa_cons pe_int pa_nil))))
      (pss_cons (ps_set (i := 3) sc_law.nd rfl (.inl rfl) (pe_u c__law_tree hr (by first | decide | omega) (by rfl) (pa_cons (pv 1) (pa_cons (pv 2) (pa_cons (pe_op op_add pe_int (pe_u c__law_next hr (by first | decide | omega) (by rfl) (pa_cons (pv 1) (pa_cons pe_int pa_nil)))) pa_nil)))))
      (pss_cons (ps_set (i := 4) sc_law.nd rfl (.inl rfl) (pe_mk0 c_Diagrams___init__ hr (by first | decide | omega) (by rfl)))
      (pss_cons (ps_set (i := 5) sc_law.nd rfl (.inl rfl) (pe_u c__law_build hr (by first | decide | omega) (by rfl) (pa_cons (pv 4) (pa_cons (pv 3) pa_nil))))
      (pss_cons (ps_set (i := 6) sc_law.nd rfl (.inl rfl) (pe_u c__law_truth hr (by first | decide | omega) (by rfl) (pa_cons (pv 3) (pa_cons (pv 2) pa_nil))))
      (pss_cons (ps_set (i := 7) sc_law.nd rfl (.inl rfl) (pe_u c__law_cover hr (by first | decide | omega) (by rfl) (pa_cons (pv 6) (pa_cons (pv 6) (pa_cons (pv 2) pa_nil)))))
      (pss_cons (ps_set (i := 8) sc_law.nd rfl (.inl rfl) (pe_udx cx_cases hr (by first | decide | omega) (E := E0) passL (by rfl) (pa_cons (pv 4) (pa_cons (pv 5) pa_nil))))
      (pss_cons (ps_if (PW.pt (pw_or (pt_not (pt_val (pe_u c__law_same hr (by first | decide | omega) (by rfl) (pa_cons (pv 8) (pa_cons (pv 7) pa_nil))))) (pw_or1 (pt_not (pt_val (pe_u c__law_same hr (by first | decide | omega) (by rfl) (pa_cons (pe_knx cn_cases_most_cases hr (by first | decide | omega) (E := E0) passL (by rfl) (pa_cons (pv 4) (pa_cons (pv 5) pa_nil)) (pk_cons (pe_callB (len_seqK K) (by rfl) M.len PySem.boot_len (pa_cons (pv 7) pa_nil)) pk_nil)) (pa_cons (pv 7) pa_nil)))))))) (pss_one (ps_ret pe_bl)) pss_nil)
      (pss_one (ps_ret (pe_u c__law_same hr (by first | decide | omega) (by rfl) (pa_cons (pe_callTy (listK K) (by rfl) M.list (by decide +kernel) (pa_cons (pe_u c__law_some hr (by first | decide | omega) (by rfl) (pa_cons (pv 8) (pa_cons (pv 2) pa_nil))) pa_nil)) (pa_cons (pe_callTy (listK K) (by rfl) M.list (by decide +kernel) (pa_cons (pv 6) pa_nil)) pa_nil)))))))))))))), ?_⟩
  refine ⟨_, rfl, a, ns, rfl, hS, fun H1 d c s1 nd dr => ?_⟩
  refine ⟨_, rfl, d, c, rfl, by decide, by decide, dr, fun H2 ea es f2 dr2 na en => ?_⟩
  have hl4 : es.length ≤ 4 := en.2.2.2.2.2.1
  refine ⟨_, rfl, _, rfl, _, rfl, d, c, 4, rfl, dr2, by decide, by decide, fun H3 r f3 _ dr3 r0 r1 => ?_⟩
  obtain ⟨k1, rfl⟩ := Int.eq_ofNat_of_zero_le r0
  have en3 := en.fd f3
  refine ⟨_, _, rfl, rfl, d, c, ea, es, 4, 1 + k1, rfl, by omega, dr3, en3, by decide, fun H4 v1 t1 f4 dr4 ok1 ht1 dp1 => ?_⟩
  have en4 := en3.fd f4
  have hsrt : es.Pairwise (· < ·) := en4.2.2.2.1
  have ee4 := en4.2.2.1
  have lns : ∀ x ∈ es, _ := en4.2.2.2.2.2.2
  refine fun x dx nx ndx nex => ⟨x, dx, rfl, upd_same, fun H7 sa hsp f7 hk hu hm stm => ⟨rfl, ?_⟩⟩
  subst hsp
  have s7 := made_same nx ndx f7
  have hk := made_free hk
  have hu := made_free hu
  have hm := made_free hm
  have st7 := stm es hsrt
  have ek : ea ≠ sa.k ∧ ea ≠ sa.u ∧ ea ≠ sa.m := ⟨ne_of_none ee4 hk, ne_of_none ee4 hu, ne_of_none ee4 hm⟩
  have dk : d ≠ sa.k ∧ d ≠ sa.u ∧ d ≠ sa.m := by
    obtain ⟨zs, hz⟩ := dr4.lst
    exact ⟨ne_of_none hz hk, ne_of_none hz hu, ne_of_none hz hm⟩
  have dp7 := Dp.ext s7 _ _ dp1
  have ee7 := s7 _ _ ee4
  have dr7 := dr4.ext s7
  have hob : opB es ≤ 64 := by
    have hpow : 2 ^ es.length ≤ 2 ^ 4 := Nat.pow_le_pow_right (by decide) hl4
    unfold opB
    omega
  have sl : (500000 : Nat) < sizeLine := by decide
  have b1 : t1.sz * opB es ≤ 33000 := by
    have h1 := tr_sz t1
    have h2 : 2 ^ (t1.ht + 1) ≤ 2 ^ 6 := Nat.pow_le_pow_right (by decide) (by omega)
    have h3 : t1.sz * opB es ≤ 64 * 64 := Nat.mul_le_mul (by omega) hob
    omega
  refine ⟨_, rfl, _, rfl, sa, [], es, 0, v1, t1, rfl, st7, by omega, ok1, by omega, dp7, by rw [List.length_nil]; omega, by omega, fun H8 N nc T f8 l8 st8 aT wT vT => ?_⟩
  rw [List.nil_append] at st8 aT
  have dp8 := st7.dp f8 (tr_only _) dp7
  have ee8 := f8 _ _ ek.1 ek.2.1 ek.2.2 ee7
  have hpow : 2 ^ es.length ≤ 16 := Nat.pow_le_pow_right (n := 2) (by decide) hl4
  have hsz : ∀ B, Wf es B → B.sz ≤ 1000 := fun B hB => by
    have := wf_sz hB
    omega
  have hnd := st8.es_nd
  have dr8 : Dr H8 d c := by
    obtain ⟨n1, ns', pos, rest, seed, h1, h2, h3⟩ := dr7
    have hc : c ≠ sa.k ∧ c ≠ sa.u ∧ c ≠ sa.m := by
      obtain ⟨_, _, _, _, _, _, g2, _⟩ := dr4
      exact ⟨ne_of_none g2 hk, ne_of_none g2 hu, ne_of_none g2 hm⟩
    exact ⟨n1, ns', pos, rest, seed, f8 _ _ dk.1 dk.2.1 dk.2.2 h1, f8 _ _ hc.1 hc.2.1 hc.2.2 h2, h3⟩
  -- its truth, and its cover
  refine ⟨_, rfl, _, rfl, v1, ea, es, t1, rfl, dp8, ee8, by omega, by omega, fun HA ta sA eA => ?_⟩
  have ett : tru es t1 = tt es T := List.map_congr_left fun p _ => (vT _).symm
  rw [ett] at eA
  have eeA := sA _ _ ee8
  have stA := st8.ext sA
  refine ⟨_, rfl, _, rfl, _, rfl, ta, ta, ea, [], es, T, T, rfl, eA, eA, eeA, hsrt, hl4, by omega, wT, wT, fun _ h => h, fun res hres HC r ys sC nr er LC => ?_⟩
  have hres : res = cov es 5 T T := hres
  have stC := stA.ext sC
  have eaC := sC _ _ eA
  have eeC := sC _ _ eeA
  have nrk := bu_ne stA nr
  have k := cov_ok 5 [] es T T hsrt wT wT (fun _ h => h) (by omega)
  have k : CovOk es T T res.1 := by rw [hres]; exact k
  have kw := cov_wf 5 [] es T T hsrt wT wT (fun _ h => h) (by omega)
  have kw : ∀ B ∈ res.2, szN B ≤ 500 := fun B hB => by
    rw [hres] at hB
    have h1 := wf_sz (kw B hB)
    have h2 := post_len B []
    have h3 : ([] ++ es).length = es.length := rfl
    rw [h3] at h1
    unfold szN
    rw [List.length_nil] at h2
    omega
  have lys := LC.len
  have lres : res.1.length ≤ 81 := by
    have h1 := k.len
    have h2 : 3 ^ es.length ≤ 3 ^ 4 := Nat.pow_le_pow_right (by decide) hl4
    exact Nat.le_trans h1 h2
  obtain ⟨wk0, hwk0⟩ : ∃ wk0, wk0 = wk es.length := ⟨_, rfl⟩
  have lwk : wk0 ≤ 44080 := by
    rw [hwk0]
    exact Nat.le_trans (wk_le hl4) (by decide)
  have lN : N.length ≤ 33000 := by
    have := l8
    omega
  have hsh := sh_cases (cs := res.1) (by omega) (fun c hc => by
    have := k.sub c hc
    have h1 := this.1.length_le
    have h2 := this.2.length_le
    omega)
  have kd : ∀ {Hx Hy : Hp} {Nx : Nds} {Lx : Nat}, Sto C K Hx sa Nx es Lx → FdS sa Hx Hy → (Hx r = some (.lst ys) ∧ L2L HA Hx ys res.1 ∧ Hx ta = some (.tup ((tt es T).map V.bl)) ∧ Hx ea = some (.lst (es.map V.int))) → (Hy r = some (.lst ys) ∧ L2L HA Hy ys res.1 ∧ Hy ta = some (.tup ((tt es T).map V.bl)) ∧ Hy ea = some (.lst (es.map V.int))) := fun st f k => by
    refine ⟨f _ _ nrk.1 nrk.2.1 nrk.2.2 k.1, L2L.imp (fun z c h => h.fds stA st f) k.2.1, ?_, f _ _ ek.1 ek.2.1 ek.2.2 k.2.2.2⟩
    obtain ⟨_, ⟨xs, g2, _⟩, ⟨kvs, g4, _⟩, ⟨cvs, g6, _⟩, _⟩ := st
    have h1 := k.2.2.1
    exact f _ _ (ne_of h1 g2 (fun z => nomatch z)) (ne_of h1 g4 (fun z => nomatch z)) (ne_of h1 g6 (fun z => nomatch z)) h1
  have kC := (⟨er, LC, eaC, eeC⟩ : _ ∧ _ ∧ _ ∧ _)
  refine ⟨_, rfl, _, rfl, sa, N, es, _, 200, 500, nc, T, rfl, stC, hl4, aT, wT, by rw [← hwk0]; omega, by rw [← hwk0]; omega, fun res2 hres2 HD M2 f2 l2 st2 => ?_⟩
  obtain rfl : res2 = res := hres2.trans hres.symm
  refine ⟨fun fit r2 zs2 nr2 e2 l2' => ?_, fun nf => absurd ⟨kw, by omega⟩ nf⟩
  have kD := kd stC f2 kC
  have nrk2 := bu_ne stC nr2
  refine ⟨_, rfl, _, rfl, _, _, .list (res2.1.map caD), 4, rfl, rfl, hsh, .lst (.of e2) (L2L.dp l2'), .lst (.of kD.1) (L2L.dp kD.2.1), fun HE sE => ⟨_, rfl, iteF ?_⟩⟩
  obtain ⟨k1, k2, k3, k4⟩ := kD
  have kE : HE r = some (.lst ys) ∧ L2L HA HE ys res2.1 ∧ HE ta = some (.tup ((tt es T).map V.bl)) ∧ HE ea = some (.lst (es.map V.int)) := ⟨sE _ _ k1, L2L.imp (fun z c h => h.same sE) k2, sE _ _ k3, sE _ _ k4⟩
  refine ⟨_, rfl, _, rfl, _, rfl, r, ys, rfl, .inl (.of kE.1), rfl, rfl, sa, N ++ M2, es, _, ys.length, 500, nc, T, rfl, st2.ext sE, hl4, aT.mono, wT, by rw [List.length_append]; omega, by omega, fun res3 hres3 HF M3 f3 l3 st3 => ?_⟩
  obtain rfl : res3 = res2 := hres3.trans hres.symm
  refine ⟨fun fit3 r3 zs3 nr3 e3 l3' => ?_, fun nf => absurd ⟨kw, by omega⟩ nf⟩
  have kF := kd (st2.ext sE) f3 kE
  have e2' := f3 _ _ nrk2.1 nrk2.2.1 nrk2.2.2 (sE _ _ e2)
  have l2F := L2L.imp (fun z c h => (L2E.same sE h).fds stC (st2.ext sE) f3) l2'
  refine ⟨_, rfl, _, _, .list (res3.1.map caD), 4, rfl, rfl, hsh, .lst (.of e3) (L2L.dp l3'), .lst (.of kF.1) (L2L.dp kF.2.1), fun HG sG => ⟨_, rfl, iteF ?_⟩⟩
  -- the last row
  have l2G := L2L.imp (fun z c h => L2E.same sG h) l2F
  refine ⟨_, rfl, _, rfl, r2, ea, es, zs2, res3.1, T, rfl, sG _ _ e2', L2L.dp l2G, sG _ _ kF.2.2.2, hl4, fun c hc => ⟨k.wf c hc, k.lit c hc, by have := (k.sub c hc).1.length_le; omega, by have := (k.sub c hc).2.length_le; omega⟩, by omega, fun ρ => ?_, fun HH rs sH ers => ?_⟩
  · cases e : T.ev ρ with
    | true =>
      have := k.up ρ e
      rw [List.any_map] at this
      exact this.symm
    | false =>
      refine (List.any_eq_false.mpr fun c hc h => ?_).symm
      rw [k.dn c hc ρ h] at e
      cases e
  refine ⟨rs, _, rfl, .inr (.of ers), fun la nla => ?_⟩
  have sla := same_upd nla (o := .lst ((tt es T).map V.bl))
  refine ⟨_, rfl, ta, _, rfl, .inr (.of (sla _ _ (sH _ _ (sG _ _ kF.2.2.1)))), fun lb nlb => ?_⟩
  have slb := same_upd nlb (o := .lst ((tt es T).map V.bl))
  refine ⟨_, _, .list ((tt es T).map PyData.bool), 4, rfl, rfl, ?_, .lst (.of (slb _ _ upd_same)) (dpa_bls _), .lst (.of upd_same) (dpa_bls _), fun Hz sz => q Hz⟩
  refine .lst (by rw [List.length_map, tt_len]; omega) fun d hd => ?_
  obtain ⟨b, _, rfl⟩ := List.mem_map.mp hd
  exact .bl b
end

set_option maxHeartbeats 0 in
theorem all_mk {l : PySem.W.OpenLaw} {w : World} {K : PySem.W.Frag} {h : Heap} {mg : Str → Option Value} {fa : Addr} (X : K.In h) (G : h.Ns mainGlobals mg) (hfa : mg "law" = some (.ref fa))
    {od0 an0 : Option Addr} {sl0 : Array (Option Value)} {oc0 kV0 dc0 pm0 cd0 ct0 : Value} {f0 : Addr}
    {od1 an1 : Option Addr} {sl1 : Array (Option Value)} {oc1 kV1 dc1 pm1 cd1 ct1 : Value} {f1 : Addr}
    {od2 an2 : Option Addr} {sl2 : Array (Option Value)} {oc2 kV2 dc2 pm2 cd2 ct2 : Value} {f2 : Addr}
    {od3 an3 : Option Addr} {sl3 : Array (Option Value)} {oc3 kV3 dc3 pm3 cd3 ct3 : Value} {f3 : Addr}
    {od4 an4 : Option Addr} {sl4 : Array (Option Value)} {oc4 kV4 dc4 pm4 cd4 ct4 : Value} {f4 : Addr}
    {od5 an5 : Option Addr} {sl5 : Array (Option Value)} {oc5 kV5 dc5 pm5 cd5 ct5 : Value} {f5 : Addr}
    {od6 an6 : Option Addr} {sl6 : Array (Option Value)} {oc6 kV6 dc6 pm6 cd6 ct6 : Value} {f6 : Addr}
    {od7 an7 : Option Addr} {sl7 : Array (Option Value)} {oc7 kV7 dc7 pm7 cd7 ct7 : Value} {f7 : Addr}
    {od8 an8 : Option Addr} {sl8 : Array (Option Value)} {oc8 kV8 dc8 pm8 cd8 ct8 : Value} {f8 : Addr}
    {od9 an9 : Option Addr} {sl9 : Array (Option Value)} {oc9 kV9 dc9 pm9 cd9 ct9 : Value} {f9 : Addr}
    {od10 an10 : Option Addr} {sl10 : Array (Option Value)} {oc10 kV10 dc10 pm10 cd10 ct10 : Value} {f10 : Addr}
    {od11 an11 : Option Addr} {sl11 : Array (Option Value)} {oc11 kV11 dc11 pm11 cd11 ct11 : Value} {f11 : Addr}
    {od12 an12 : Option Addr} {sl12 : Array (Option Value)} {oc12 kV12 dc12 pm12 cd12 ct12 : Value} {f12 : Addr}
    {od13 an13 : Option Addr} {sl13 : Array (Option Value)} {oc13 dc13 pm13 cd13 ct13 : Value} {f13 : Addr}
    {kD13 : Addr} {tkd13_most_cases tkd13_most_nodes : Tok}
    {od14 an14 : Option Addr} {sl14 : Array (Option Value)} {oc14 kV14 dc14 pm14 cd14 ct14 : Value} {f14 : Addr}
    {od15 an15 : Option Addr} {sl15 : Array (Option Value)} {oc15 kV15 dc15 pm15 cd15 ct15 : Value} {f15 : Addr}
    {od16 an16 : Option Addr} {sl16 : Array (Option Value)} {oc16 kV16 dc16 pm16 cd16 ct16 : Value} {f16 : Addr}
    {od17 an17 : Option Addr} {sl17 : Array (Option Value)} {oc17 kV17 dc17 pm17 cd17 ct17 : Value} {f17 : Addr}
    {od18 an18 : Option Addr} {sl18 : Array (Option Value)} {oc18 kV18 dc18 pm18 cd18 ct18 : Value} {f18 : Addr}
    {od19 an19 : Option Addr} {sl19 : Array (Option Value)} {oc19 kV19 dc19 pm19 cd19 ct19 : Value} {f19 : Addr}
    {od20 an20 : Option Addr} {sl20 : Array (Option Value)} {oc20 kV20 dc20 pm20 cd20 ct20 : Value} {f20 : Addr}
    {od21 an21 : Option Addr} {sl21 : Array (Option Value)} {oc21 kV21 dc21 pm21 cd21 ct21 : Value} {f21 : Addr}
    {od22 an22 : Option Addr} {sl22 : Array (Option Value)} {oc22 kV22 dc22 pm22 cd22 ct22 : Value} {f22 : Addr}
    {od23 an23 : Option Addr} {sl23 : Array (Option Value)} {oc23 kV23 dc23 pm23 cd23 ct23 : Value} {f23 : Addr}
    {od24 an24 : Option Addr} {sl24 : Array (Option Value)} {oc24 kV24 dc24 pm24 cd24 ct24 : Value} {f24 : Addr}
    {od25 an25 : Option Addr} {sl25 : Array (Option Value)} {oc25 kV25 dc25 pm25 cd25 ct25 : Value} {f25 : Addr}
    {od26 an26 : Option Addr} {sl26 : Array (Option Value)} {oc26 kV26 dc26 pm26 cd26 ct26 : Value} {f26 : Addr}
    {od27 an27 : Option Addr} {sl27 : Array (Option Value)} {oc27 kV27 dc27 pm27 cd27 ct27 : Value} {f27 : Addr}
    {od28 an28 : Option Addr} {sl28 : Array (Option Value)} {oc28 kV28 dc28 pm28 cd28 ct28 : Value} {f28 : Addr}
    {od29 an29 : Option Addr} {sl29 : Array (Option Value)} {oc29 kV29 dc29 pm29 cd29 ct29 : Value} {f29 : Addr}
    {od30 an30 : Option Addr} {sl30 : Array (Option Value)} {oc30 kV30 dc30 pm30 cd30 ct30 : Value} {f30 : Addr}
    {od31 an31 : Option Addr} {sl31 : Array (Option Value)} {oc31 kV31 dc31 pm31 cd31 ct31 : Value} {f31 : Addr}
    {od32 an32 : Option Addr} {sl32 : Array (Option Value)} {oc32 kV32 dc32 pm32 cd32 ct32 : Value} {f32 : Addr}
    {od33 an33 : Option Addr} {sl33 : Array (Option Value)} {oc33 kV33 dc33 pm33 cd33 ct33 : Value} {f33 : Addr}
    {od34 an34 : Option Addr} {sl34 : Array (Option Value)} {oc34 kV34 dc34 pm34 cd34 ct34 : Value} {f34 : Addr}
    {od35 an35 : Option Addr} {sl35 : Array (Option Value)} {oc35 kV35 dc35 pm35 cd35 ct35 : Value} {f35 : Addr}
    {od36 an36 : Option Addr} {sl36 : Array (Option Value)} {oc36 kV36 dc36 pm36 cd36 ct36 : Value} {f36 : Addr}
    {od37 an37 : Option Addr} {sl37 : Array (Option Value)} {oc37 kV37 dc37 pm37 cd37 ct37 : Value} {f37 : Addr}
    {od38 an38 : Option Addr} {sl38 : Array (Option Value)} {oc38 kV38 dc38 pm38 cd38 ct38 : Value} {f38 : Addr}
    {C_Cover : Addr}
    {C_Diagrams : Addr}
    {C_TooManyCases : Addr}
    (a0 : PySem.W.findIn K (.ref C_Diagrams) "__init__" = some (some (.ref f0))) (i0 : PySem.W.isFn K (.ref f0) = true) (l0 : K.lookup f0 = some ⟨oc0, od0, .func (PySem.W.fnOf "__init__" "Diagrams.__init__" (defArgs s_Diagrams___init__) (defBody s_Diagrams___init__) (defScope s_Diagrams___init__) .none kV0 dc0 pm0 an0 cd0 ct0), sl0⟩) (c0 : PySem.W.codeIn K cd0 "Diagrams.__init__" = true) (k0 : PySem.W.keepIn K (.ref f0) = true)
    (a1 : PySem.W.findIn K (.ref C_Diagrams) "there" = some (some (.ref f1))) (i1 : PySem.W.isFn K (.ref f1) = true) (l1 : K.lookup f1 = some ⟨oc1, od1, .func (PySem.W.fnOf "there" "Diagrams.there" (defArgs s_Diagrams_there) (defBody s_Diagrams_there) (defScope s_Diagrams_there) .none kV1 dc1 pm1 an1 cd1 ct1), sl1⟩) (c1 : PySem.W.codeIn K cd1 "Diagrams.there" = true) (k1 : PySem.W.keepIn K (.ref f1) = true)
    (a2 : PySem.W.findIn K (.ref C_Diagrams) "conjunction" = some (some (.ref f2))) (i2 : PySem.W.isFn K (.ref f2) = true) (l2 : K.lookup f2 = some ⟨oc2, od2, .func (PySem.W.fnOf "conjunction" "Diagrams.conjunction" (defArgs s_Diagrams_conjunction) (defBody s_Diagrams_conjunction) (defScope s_Diagrams_conjunction) .none kV2 dc2 pm2 an2 cd2 ct2), sl2⟩) (c2 : PySem.W.codeIn K cd2 "Diagrams.conjunction" = true) (k2 : PySem.W.keepIn K (.ref f2) = true)
    (a3 : PySem.W.findIn K (.ref C_Diagrams) "disjunction" = some (some (.ref f3))) (i3 : PySem.W.isFn K (.ref f3) = true) (l3 : K.lookup f3 = some ⟨oc3, od3, .func (PySem.W.fnOf "disjunction" "Diagrams.disjunction" (defArgs s_Diagrams_disjunction) (defBody s_Diagrams_disjunction) (defScope s_Diagrams_disjunction) .none kV3 dc3 pm3 an3 cd3 ct3), sl3⟩) (c3 : PySem.W.codeIn K cd3 "Diagrams.disjunction" = true) (k3 : PySem.W.keepIn K (.ref f3) = true)
    (a4 : PySem.W.findIn K (.ref C_Diagrams) "negation" = some (some (.ref f4))) (i4 : PySem.W.isFn K (.ref f4) = true) (l4 : K.lookup f4 = some ⟨oc4, od4, .func (PySem.W.fnOf "negation" "Diagrams.negation" (defArgs s_Diagrams_negation) (defBody s_Diagrams_negation) (defScope s_Diagrams_negation) .none kV4 dc4 pm4 an4 cd4 ct4), sl4⟩) (c4 : PySem.W.codeIn K cd4 "Diagrams.negation" = true) (k4 : PySem.W.keepIn K (.ref f4) = true)
    (a5 : PySem.W.findIn K (.ref C_Diagrams) "differs" = some (some (.ref f5))) (i5 : PySem.W.isFn K (.ref f5) = true) (l5 : K.lookup f5 = some ⟨oc5, od5, .func (PySem.W.fnOf "differs" "Diagrams.differs" (defArgs s_Diagrams_differs) (defBody s_Diagrams_differs) (defScope s_Diagrams_differs) .none kV5 dc5 pm5 an5 cd5 ct5), sl5⟩) (c5 : PySem.W.codeIn K cd5 "Diagrams.differs" = true) (k5 : PySem.W.keepIn K (.ref f5) = true)
    (a6 : PySem.W.findIn K (.ref C_Diagrams) "size" = some (some (.ref f6))) (i6 : PySem.W.isFn K (.ref f6) = true) (l6 : K.lookup f6 = some ⟨oc6, od6, .func (PySem.W.fnOf "size" "Diagrams.size" (defArgs s_Diagrams_size) (defBody s_Diagrams_size) (defScope s_Diagrams_size) .none kV6 dc6 pm6 an6 cd6 ct6), sl6⟩) (c6 : PySem.W.codeIn K cd6 "Diagrams.size" = true) (k6 : PySem.W.keepIn K (.ref f6) = true)
    (a7 : PySem.W.findIn K (.ref C_Diagrams) "listed" = some (some (.ref f7))) (i7 : PySem.W.isFn K (.ref f7) = true) (l7 : K.lookup f7 = some ⟨oc7, od7, .func (PySem.W.fnOf "listed" "Diagrams.listed" (defArgs s_Diagrams_listed) (defBody s_Diagrams_listed) (defScope s_Diagrams_listed) .none kV7 dc7 pm7 an7 cd7 ct7), sl7⟩) (c7 : PySem.W.codeIn K cd7 "Diagrams.listed" = true) (k7 : PySem.W.keepIn K (.ref f7) = true)
    (a8 : PySem.W.findIn K (.ref C_Diagrams) "top" = some (some (.ref f8))) (i8 : PySem.W.isFn K (.ref f8) = true) (l8 : K.lookup f8 = some ⟨oc8, od8, .func (PySem.W.fnOf "top" "Diagrams.top" (defArgs s_Diagrams_top) (defBody s_Diagrams_top) (defScope s_Diagrams_top) .none kV8 dc8 pm8 an8 cd8 ct8), sl8⟩) (c8 : PySem.W.codeIn K cd8 "Diagrams.top" = true) (k8 : PySem.W.keepIn K (.ref f8) = true)
    (a9 : PySem.W.findIn K (.ref C_Diagrams) "branches" = some (some (.ref f9))) (i9 : PySem.W.isFn K (.ref f9) = true) (l9 : K.lookup f9 = some ⟨oc9, od9, .func (PySem.W.fnOf "branches" "Diagrams.branches" (defArgs s_Diagrams_branches) (defBody s_Diagrams_branches) (defScope s_Diagrams_branches) .none kV9 dc9 pm9 an9 cd9 ct9), sl9⟩) (c9 : PySem.W.codeIn K cd9 "Diagrams.branches" = true) (k9 : PySem.W.keepIn K (.ref f9) = true)
    (a10 : PySem.W.findIn K (.ref C_Diagrams) "node_of" = some (some (.ref f10))) (i10 : PySem.W.isFn K (.ref f10) = true) (l10 : K.lookup f10 = some ⟨oc10, od10, .func (PySem.W.fnOf "node_of" "Diagrams.node_of" (defArgs s_Diagrams_node_of) (defBody s_Diagrams_node_of) (defScope s_Diagrams_node_of) .none kV10 dc10 pm10 an10 cd10 ct10), sl10⟩) (c10 : PySem.W.codeIn K cd10 "Diagrams.node_of" = true) (k10 : PySem.W.keepIn K (.ref f10) = true)
    (a11 : PySem.W.findIn K (.ref C_Diagrams) "node" = some (some (.ref f11))) (i11 : PySem.W.isFn K (.ref f11) = true) (l11 : K.lookup f11 = some ⟨oc11, od11, .func (PySem.W.fnOf "node" "Diagrams.node" (defArgs s_Diagrams_node) (defBody s_Diagrams_node) (defScope s_Diagrams_node) .none kV11 dc11 pm11 an11 cd11 ct11), sl11⟩) (c11 : PySem.W.codeIn K cd11 "Diagrams.node" = true) (k11 : PySem.W.keepIn K (.ref f11) = true)
    (a12 : PySem.W.findIn K (.ref C_Diagrams) "combine" = some (some (.ref f12))) (i12 : PySem.W.isFn K (.ref f12) = true) (l12 : K.lookup f12 = some ⟨oc12, od12, .func (PySem.W.fnOf "combine" "Diagrams.combine" (defArgs s_Diagrams_combine) (defBody s_Diagrams_combine) (defScope s_Diagrams_combine) .none kV12 dc12 pm12 an12 cd12 ct12), sl12⟩) (c12 : PySem.W.codeIn K cd12 "Diagrams.combine" = true) (k12 : PySem.W.keepIn K (.ref f12) = true)
    (a13 : PySem.W.nsIn K mainGlobals "cases" = some (some (.ref f13))) (l13 : K.lookup f13 = some ⟨oc13, od13, .func (PySem.W.fnOf "cases" "cases" (defArgs s_cases) (defBody s_cases) (defScope s_cases) .none (.ref kD13) dc13 pm13 an13 cd13 ct13), sl13⟩) (c13 : PySem.W.codeIn K cd13 "cases" = true) (k13 : PySem.W.keepIn K (.ref f13) = true)
    (kd13_most_cases : PySem.W.nsIn K kD13 "most_cases" = some (some (.int 200 tkd13_most_cases)))
    (kd13_most_nodes : PySem.W.nsIn K kD13 "most_nodes" = some (some (.int 500 tkd13_most_nodes)))
    (a14 : PySem.W.findIn K (.ref C_Cover) "__init__" = some (some (.ref f14))) (i14 : PySem.W.isFn K (.ref f14) = true) (l14 : K.lookup f14 = some ⟨oc14, od14, .func (PySem.W.fnOf "__init__" "Cover.__init__" (defArgs s_Cover___init__) (defBody s_Cover___init__) (defScope s_Cover___init__) .none kV14 dc14 pm14 an14 cd14 ct14), sl14⟩) (c14 : PySem.W.codeIn K cd14 "Cover.__init__" = true) (k14 : PySem.W.keepIn K (.ref f14) = true)
    (a15 : PySem.W.findIn K (.ref C_Cover) "cover" = some (some (.ref f15))) (i15 : PySem.W.isFn K (.ref f15) = true) (l15 : K.lookup f15 = some ⟨oc15, od15, .func (PySem.W.fnOf "cover" "Cover.cover" (defArgs s_Cover_cover) (defBody s_Cover_cover) (defScope s_Cover_cover) .none kV15 dc15 pm15 an15 cd15 ct15), sl15⟩) (c15 : PySem.W.codeIn K cd15 "Cover.cover" = true) (k15 : PySem.W.keepIn K (.ref f15) = true)
    (a16 : PySem.W.findIn K (.ref C_Cover) "left_over" = some (some (.ref f16))) (i16 : PySem.W.isFn K (.ref f16) = true) (l16 : K.lookup f16 = some ⟨oc16, od16, .func (PySem.W.fnOf "left_over" "Cover.left_over" (defArgs s_Cover_left_over) (defBody s_Cover_left_over) (defScope s_Cover_left_over) .none kV16 dc16 pm16 an16 cd16 ct16), sl16⟩) (c16 : PySem.W.codeIn K cd16 "Cover.left_over" = true) (k16 : PySem.W.keepIn K (.ref f16) = true)
    (a17 : PySem.W.findIn K (.ref C_Cover) "but_not" = some (some (.ref f17))) (i17 : PySem.W.isFn K (.ref f17) = true) (l17 : K.lookup f17 = some ⟨oc17, od17, .func (PySem.W.fnOf "but_not" "Cover.but_not" (defArgs s_Cover_but_not) (defBody s_Cover_but_not) (defScope s_Cover_but_not) .none kV17 dc17 pm17 an17 cd17 ct17), sl17⟩) (c17 : PySem.W.codeIn K cd17 "Cover.but_not" = true) (k17 : PySem.W.keepIn K (.ref f17) = true)
    (a18 : PySem.W.findIn K (.ref C_Cover) "case_without" = some (some (.ref f18))) (i18 : PySem.W.isFn K (.ref f18) = true) (l18 : K.lookup f18 = some ⟨oc18, od18, .func (PySem.W.fnOf "case_without" "Cover.case_without" (defArgs s_Cover_case_without) (defBody s_Cover_case_without) (defScope s_Cover_case_without) .none kV18 dc18 pm18 an18 cd18 ct18), sl18⟩) (c18 : PySem.W.codeIn K cd18 "Cover.case_without" = true) (k18 : PySem.W.keepIn K (.ref f18) = true)
    (a19 : PySem.W.findIn K (.ref C_Cover) "case_with" = some (some (.ref f19))) (i19 : PySem.W.isFn K (.ref f19) = true) (l19 : K.lookup f19 = some ⟨oc19, od19, .func (PySem.W.fnOf "case_with" "Cover.case_with" (defArgs s_Cover_case_with) (defBody s_Cover_case_with) (defScope s_Cover_case_with) .none kV19 dc19 pm19 an19 cd19 ct19), sl19⟩) (c19 : PySem.W.codeIn K cd19 "Cover.case_with" = true) (k19 : PySem.W.keepIn K (.ref f19) = true)
    (a20 : PySem.W.findIn K (.ref C_Cover) "empty_case" = some (some (.ref f20))) (i20 : PySem.W.isFn K (.ref f20) = true) (l20 : K.lookup f20 = some ⟨oc20, od20, .func (PySem.W.fnOf "empty_case" "Cover.empty_case" (defArgs s_Cover_empty_case) (defBody s_Cover_empty_case) (defScope s_Cover_empty_case) .none kV20 dc20 pm20 an20 cd20 ct20), sl20⟩) (c20 : PySem.W.codeIn K cd20 "Cover.empty_case" = true) (k20 : PySem.W.keepIn K (.ref f20) = true)
    (a21 : PySem.W.findIn K (.ref C_Cover) "check_size" = some (some (.ref f21))) (i21 : PySem.W.isFn K (.ref f21) = true) (l21 : K.lookup f21 = some ⟨oc21, od21, .func (PySem.W.fnOf "check_size" "Cover.check_size" (defArgs s_Cover_check_size) (defBody s_Cover_check_size) (defScope s_Cover_check_size) .none kV21 dc21 pm21 an21 cd21 ct21), sl21⟩) (c21 : PySem.W.codeIn K cd21 "Cover.check_size" = true) (k21 : PySem.W.keepIn K (.ref f21) = true)
    (a22 : PySem.W.nsIn K mainGlobals "_law_draw" = some (some (.ref f22))) (l22 : K.lookup f22 = some ⟨oc22, od22, .func (PySem.W.fnOf "_law_draw" "_law_draw" (defArgs s__law_draw) (defBody s__law_draw) (defScope s__law_draw) .none kV22 dc22 pm22 an22 cd22 ct22), sl22⟩) (c22 : PySem.W.codeIn K cd22 "_law_draw" = true) (k22 : PySem.W.keepIn K (.ref f22) = true)
    (a23 : PySem.W.nsIn K mainGlobals "_law_next" = some (some (.ref f23))) (l23 : K.lookup f23 = some ⟨oc23, od23, .func (PySem.W.fnOf "_law_next" "_law_next" (defArgs s__law_next) (defBody s__law_next) (defScope s__law_next) .none kV23 dc23 pm23 an23 cd23 ct23), sl23⟩) (c23 : PySem.W.codeIn K cd23 "_law_next" = true) (k23 : PySem.W.keepIn K (.ref f23) = true)
    (a24 : PySem.W.nsIn K mainGlobals "_law_same" = some (some (.ref f24))) (l24 : K.lookup f24 = some ⟨oc24, od24, .func (PySem.W.fnOf "_law_same" "_law_same" (defArgs s__law_same) (defBody s__law_same) (defScope s__law_same) .none kV24 dc24 pm24 an24 cd24 ct24), sl24⟩) (c24 : PySem.W.codeIn K cd24 "_law_same" = true) (k24 : PySem.W.keepIn K (.ref f24) = true)
    (a25 : PySem.W.nsIn K mainGlobals "_law_entries" = some (some (.ref f25))) (l25 : K.lookup f25 = some ⟨oc25, od25, .func (PySem.W.fnOf "_law_entries" "_law_entries" (defArgs s__law_entries) (defBody s__law_entries) (defScope s__law_entries) .none kV25 dc25 pm25 an25 cd25 ct25), sl25⟩) (c25 : PySem.W.codeIn K cd25 "_law_entries" = true) (k25 : PySem.W.keepIn K (.ref f25) = true)
    (a26 : PySem.W.nsIn K mainGlobals "_law_tree" = some (some (.ref f26))) (l26 : K.lookup f26 = some ⟨oc26, od26, .func (PySem.W.fnOf "_law_tree" "_law_tree" (defArgs s__law_tree) (defBody s__law_tree) (defScope s__law_tree) .none kV26 dc26 pm26 an26 cd26 ct26), sl26⟩) (c26 : PySem.W.codeIn K cd26 "_law_tree" = true) (k26 : PySem.W.keepIn K (.ref f26) = true)
    (a27 : PySem.W.nsIn K mainGlobals "_law_build" = some (some (.ref f27))) (l27 : K.lookup f27 = some ⟨oc27, od27, .func (PySem.W.fnOf "_law_build" "_law_build" (defArgs s__law_build) (defBody s__law_build) (defScope s__law_build) .none kV27 dc27 pm27 an27 cd27 ct27), sl27⟩) (c27 : PySem.W.codeIn K cd27 "_law_build" = true) (k27 : PySem.W.keepIn K (.ref f27) = true)
    (a28 : PySem.W.nsIn K mainGlobals "_law_true" = some (some (.ref f28))) (l28 : K.lookup f28 = some ⟨oc28, od28, .func (PySem.W.fnOf "_law_true" "_law_true" (defArgs s__law_true) (defBody s__law_true) (defScope s__law_true) .none kV28 dc28 pm28 an28 cd28 ct28), sl28⟩) (c28 : PySem.W.codeIn K cd28 "_law_true" = true) (k28 : PySem.W.keepIn K (.ref f28) = true)
    (a29 : PySem.W.nsIn K mainGlobals "_law_subsets" = some (some (.ref f29))) (l29 : K.lookup f29 = some ⟨oc29, od29, .func (PySem.W.fnOf "_law_subsets" "_law_subsets" (defArgs s__law_subsets) (defBody s__law_subsets) (defScope s__law_subsets) .none kV29 dc29 pm29 an29 cd29 ct29), sl29⟩) (c29 : PySem.W.codeIn K cd29 "_law_subsets" = true) (k29 : PySem.W.keepIn K (.ref f29) = true)
    (a30 : PySem.W.nsIn K mainGlobals "_law_truth" = some (some (.ref f30))) (l30 : K.lookup f30 = some ⟨oc30, od30, .func (PySem.W.fnOf "_law_truth" "_law_truth" (defArgs s__law_truth) (defBody s__law_truth) (defScope s__law_truth) .none kV30 dc30 pm30 an30 cd30 ct30), sl30⟩) (c30 : PySem.W.codeIn K cd30 "_law_truth" = true) (k30 : PySem.W.keepIn K (.ref f30) = true)
    (a31 : PySem.W.nsIn K mainGlobals "_law_fixed" = some (some (.ref f31))) (l31 : K.lookup f31 = some ⟨oc31, od31, .func (PySem.W.fnOf "_law_fixed" "_law_fixed" (defArgs s__law_fixed) (defBody s__law_fixed) (defScope s__law_fixed) .none kV31 dc31 pm31 an31 cd31 ct31), sl31⟩) (c31 : PySem.W.codeIn K cd31 "_law_fixed" = true) (k31 : PySem.W.keepIn K (.ref f31) = true)
    (a32 : PySem.W.nsIn K mainGlobals "_law_top" = some (some (.ref f32))) (l32 : K.lookup f32 = some ⟨oc32, od32, .func (PySem.W.fnOf "_law_top" "_law_top" (defArgs s__law_top) (defBody s__law_top) (defScope s__law_top) .none kV32 dc32 pm32 an32 cd32 ct32), sl32⟩) (c32 : PySem.W.codeIn K cd32 "_law_top" = true) (k32 : PySem.W.keepIn K (.ref f32) = true)
    (a33 : PySem.W.nsIn K mainGlobals "_law_both" = some (some (.ref f33))) (l33 : K.lookup f33 = some ⟨oc33, od33, .func (PySem.W.fnOf "_law_both" "_law_both" (defArgs s__law_both) (defBody s__law_both) (defScope s__law_both) .none kV33 dc33 pm33 an33 cd33 ct33), sl33⟩) (c33 : PySem.W.codeIn K cd33 "_law_both" = true) (k33 : PySem.W.keepIn K (.ref f33) = true)
    (a34 : PySem.W.nsIn K mainGlobals "_law_not" = some (some (.ref f34))) (l34 : K.lookup f34 = some ⟨oc34, od34, .func (PySem.W.fnOf "_law_not" "_law_not" (defArgs s__law_not) (defBody s__law_not) (defScope s__law_not) .none kV34 dc34 pm34 an34 cd34 ct34), sl34⟩) (c34 : PySem.W.codeIn K cd34 "_law_not" = true) (k34 : PySem.W.keepIn K (.ref f34) = true)
    (a35 : PySem.W.nsIn K mainGlobals "_law_applies" = some (some (.ref f35))) (l35 : K.lookup f35 = some ⟨oc35, od35, .func (PySem.W.fnOf "_law_applies" "_law_applies" (defArgs s__law_applies) (defBody s__law_applies) (defScope s__law_applies) .none kV35 dc35 pm35 an35 cd35 ct35), sl35⟩) (c35 : PySem.W.codeIn K cd35 "_law_applies" = true) (k35 : PySem.W.keepIn K (.ref f35) = true)
    (a36 : PySem.W.nsIn K mainGlobals "_law_some" = some (some (.ref f36))) (l36 : K.lookup f36 = some ⟨oc36, od36, .func (PySem.W.fnOf "_law_some" "_law_some" (defArgs s__law_some) (defBody s__law_some) (defScope s__law_some) .none kV36 dc36 pm36 an36 cd36 ct36), sl36⟩) (c36 : PySem.W.codeIn K cd36 "_law_some" = true) (k36 : PySem.W.keepIn K (.ref f36) = true)
    (a37 : PySem.W.nsIn K mainGlobals "_law_cover" = some (some (.ref f37))) (l37 : K.lookup f37 = some ⟨oc37, od37, .func (PySem.W.fnOf "_law_cover" "_law_cover" (defArgs s__law_cover) (defBody s__law_cover) (defScope s__law_cover) .none kV37 dc37 pm37 an37 cd37 ct37), sl37⟩) (c37 : PySem.W.codeIn K cd37 "_law_cover" = true) (k37 : PySem.W.keepIn K (.ref f37) = true)
    (a38 : PySem.W.nsIn K mainGlobals "law" = some (some (.ref f38))) (l38 : K.lookup f38 = some ⟨oc38, od38, .func (PySem.W.fnOf "law" "law" (defArgs s_law) (defBody s_law) (defScope s_law) .none kV38 dc38 pm38 an38 cd38 ct38), sl38⟩) (c38 : PySem.W.codeIn K cd38 "law" = true) (k38 : PySem.W.keepIn K (.ref f38) = true)
    {tk_NEVER : Tok} (w_NEVER : PySem.W.nsIn K mainGlobals "NEVER" = some (some (.int 0 tk_NEVER))) {tk_ALWAYS : Tok} (w_ALWAYS : PySem.W.nsIn K mainGlobals "ALWAYS" = some (some (.int 1 tk_ALWAYS))) {tk_FIRST_NODE : Tok} (w_FIRST_NODE : PySem.W.nsIn K mainGlobals "FIRST_NODE" = some (some (.int 2 tk_FIRST_NODE))) (aC_Cover : PySem.W.nsIn K mainGlobals "Cover" = some (some (.ref C_Cover))) (pg_Cover : PySem.W.plainGet K C_Cover Str.empty = true) (hd_Cover : PySem.W.hasDictIn K C_Cover = true) (po_Cover : PySem.W.plainOver K C_Cover = true) (sa_Cover : PySem.W.findIn K (.ref C_Cover) "__setattr__" = some (some (.builtin "object.__setattr__"))) (mk_Cover : PySem.W.makesIn K C_Cover = true) (kc_Cover : PySem.W.keepIn K (.ref C_Cover) = true) (nf_Cover_most_cases : PySem.W.findIn K (.ref C_Cover) "most_cases" = some none) (nf_Cover_most_nodes : PySem.W.findIn K (.ref C_Cover) "most_nodes" = some none) (nf_Cover_number : PySem.W.findIn K (.ref C_Cover) "number" = some none) (nf_Cover_store : PySem.W.findIn K (.ref C_Cover) "store" = some none) (aC_Diagrams : PySem.W.nsIn K mainGlobals "Diagrams" = some (some (.ref C_Diagrams))) (pg_Diagrams : PySem.W.plainGet K C_Diagrams Str.empty = true) (hd_Diagrams : PySem.W.hasDictIn K C_Diagrams = true) (po_Diagrams : PySem.W.plainOver K C_Diagrams = true) (sa_Diagrams : PySem.W.findIn K (.ref C_Diagrams) "__setattr__" = some (some (.builtin "object.__setattr__"))) (mk_Diagrams : PySem.W.makesIn K C_Diagrams = true) (kc_Diagrams : PySem.W.keepIn K (.ref C_Diagrams) = true) (nf_Diagrams_combined : PySem.W.findIn K (.ref C_Diagrams) "combined" = some none) (nf_Diagrams_kept : PySem.W.findIn K (.ref C_Diagrams) "kept" = some none) (nf_Diagrams_numbers : PySem.W.findIn K (.ref C_Diagrams) "numbers" = some none) (z_abs : PySem.W.nsIn K mainGlobals "abs" = some none) (z_all : PySem.W.nsIn K mainGlobals "all" = some none) (z_any : PySem.W.nsIn K mainGlobals "any" = some none) (z_bool : PySem.W.nsIn K mainGlobals "bool" = some none) (z_int : PySem.W.nsIn K mainGlobals "int" = some none) (z_isinstance : PySem.W.nsIn K mainGlobals "isinstance" = some none) (z_len : PySem.W.nsIn K mainGlobals "len" = some none) (z_list : PySem.W.nsIn K mainGlobals "list" = some none) (z_min : PySem.W.nsIn K mainGlobals "min" = some none) (z_range : PySem.W.nsIn K mainGlobals "range" = some none) (z_reversed : PySem.W.nsIn K mainGlobals "reversed" = some none) (z_str : PySem.W.nsIn K mainGlobals "str" = some none) (z_tuple : PySem.W.nsIn K mainGlobals "tuple" = some none) (epa_TooManyCases : PySem.W.nsIn K mainGlobals "TooManyCases" = some (some (.ref C_TooManyCases))) (epq_TooManyCases : PySem.W.excIn K C_TooManyCases [.type "ValueError", .type "Exception", .type "BaseException", .type "object"] "ValueError.__new__" = true) (epk_TooManyCases : PySem.W.keepIn K (.ref C_TooManyCases) = true) (eps_TooManyCases : PySem.W.subIn K (.ref C_TooManyCases) (.type "BaseException") = some true) (ept_TooManyCases : PySem.W.typeIn K (.ref C_TooManyCases) = some (.type "type")) :
    ∃ fd : FuncData, (∀ (s : Shared) (v : Value), BindsTo s fd ⟨[v], []⟩ [("script", v)]) ∧ ∀ base : Heap, K.In base → base.Ns mainGlobals mg → FnOk l.prog w K mg base CX0 20 fa fd ["script"] (sp_law K) := by
  have e := hfa.symm.trans (PySem.W.mg_of X G a38)
  cases e
  have F_Diagrams___init__ := fun_mk (st := s_Diagrams___init__) l0 c0 k0
  have b_Diagrams___init__ := F_Diagrams___init__.binds (ps := ["self"]) fun _ _ _ _ _ _ us hl => match us, hl with | [_], _ => rfl
  have mk0_Diagrams : Mk K C_Diagrams f0 := ⟨mk_Diagrams, a0, i0, kc_Diagrams⟩
  have F_Diagrams_there := fun_mk (st := s_Diagrams_there) l1 c1 k1
  have b_Diagrams_there := F_Diagrams_there.binds (ps := ["self", "entry"]) fun _ _ _ _ _ _ us hl => match us, hl with | [_, _], _ => rfl
  have m_Diagrams_there : Meth K C_Diagrams "there" f1 := ⟨a1, i1, k1⟩
  have F_Diagrams_conjunction := fun_mk (st := s_Diagrams_conjunction) l2 c2 k2
  have b_Diagrams_conjunction := F_Diagrams_conjunction.binds (ps := ["self", "first", "second"]) fun _ _ _ _ _ _ us hl => match us, hl with | [_, _, _], _ => rfl
  have m_Diagrams_conjunction : Meth K C_Diagrams "conjunction" f2 := ⟨a2, i2, k2⟩
  have F_Diagrams_disjunction := fun_mk (st := s_Diagrams_disjunction) l3 c3 k3
  have b_Diagrams_disjunction := F_Diagrams_disjunction.binds (ps := ["self", "first", "second"]) fun _ _ _ _ _ _ us hl => match us, hl with | [_, _, _], _ => rfl
  have m_Diagrams_disjunction : Meth K C_Diagrams "disjunction" f3 := ⟨a3, i3, k3⟩
  have F_Diagrams_negation := fun_mk (st := s_Diagrams_negation) l4 c4 k4
  have b_Diagrams_negation := F_Diagrams_negation.binds (ps := ["self", "condition"]) fun _ _ _ _ _ _ us hl => match us, hl with | [_, _], _ => rfl
  have m_Diagrams_negation : Meth K C_Diagrams "negation" f4 := ⟨a4, i4, k4⟩
  have F_Diagrams_differs := fun_mk (st := s_Diagrams_differs) l5 c5 k5
  have b_Diagrams_differs := F_Diagrams_differs.binds (ps := ["self", "first", "second"]) fun _ _ _ _ _ _ us hl => match us, hl with | [_, _, _], _ => rfl
  have m_Diagrams_differs : Meth K C_Diagrams "differs" f5 := ⟨a5, i5, k5⟩
  have F_Diagrams_size := fun_mk (st := s_Diagrams_size) l6 c6 k6
  have b_Diagrams_size := F_Diagrams_size.binds (ps := ["self", "conditions"]) fun _ _ _ _ _ _ us hl => match us, hl with | [_, _], _ => rfl
  have m_Diagrams_size : Meth K C_Diagrams "size" f6 := ⟨a6, i6, k6⟩
  have F_Diagrams_listed := fun_mk (st := s_Diagrams_listed) l7 c7 k7
  have b_Diagrams_listed := F_Diagrams_listed.binds (ps := ["self", "conditions"]) fun _ _ _ _ _ _ us hl => match us, hl with | [_, _], _ => rfl
  have m_Diagrams_listed : Meth K C_Diagrams "listed" f7 := ⟨a7, i7, k7⟩
  have F_Diagrams_top := fun_mk (st := s_Diagrams_top) l8 c8 k8
  have b_Diagrams_top := F_Diagrams_top.binds (ps := ["self", "conditions"]) fun _ _ _ _ _ _ us hl => match us, hl with | [_, _], _ => rfl
  have m_Diagrams_top : Meth K C_Diagrams "top" f8 := ⟨a8, i8, k8⟩
  have F_Diagrams_branches := fun_mk (st := s_Diagrams_branches) l9 c9 k9
  have b_Diagrams_branches := F_Diagrams_branches.binds (ps := ["self", "condition", "entry"]) fun _ _ _ _ _ _ us hl => match us, hl with | [_, _, _], _ => rfl
  have m_Diagrams_branches : Meth K C_Diagrams "branches" f9 := ⟨a9, i9, k9⟩
  have F_Diagrams_node_of := fun_mk (st := s_Diagrams_node_of) l10 c10 k10
  have b_Diagrams_node_of := F_Diagrams_node_of.binds (ps := ["self", "condition"]) fun _ _ _ _ _ _ us hl => match us, hl with | [_, _], _ => rfl
  have m_Diagrams_node_of : Meth K C_Diagrams "node_of" f10 := ⟨a10, i10, k10⟩
  have F_Diagrams_node := fun_mk (st := s_Diagrams_node) l11 c11 k11
  have b_Diagrams_node := F_Diagrams_node.binds (ps := ["self", "entry", "without", "there"]) fun _ _ _ _ _ _ us hl => match us, hl with | [_, _, _, _], _ => rfl
  have m_Diagrams_node : Meth K C_Diagrams "node" f11 := ⟨a11, i11, k11⟩
  have F_Diagrams_combine := fun_mk (st := s_Diagrams_combine) l12 c12 k12
  have b_Diagrams_combine := F_Diagrams_combine.binds (ps := ["self", "condition", "first", "second"]) fun _ _ _ _ _ _ us hl => match us, hl with | [_, _, _, _], _ => rfl
  have m_Diagrams_combine : Meth K C_Diagrams "combine" f12 := ⟨a12, i12, k12⟩
  have F_cases := fun_mk (st := s_cases) l13 c13 k13
  have FD_cases := fund_mk (st := s_cases) (kws := [("most_cases", V.int 200), ("most_nodes", V.int 500)]) l13 c13 k13 (fun q hq => by simp only [List.mem_cons, List.not_mem_nil, or_false] at hq; rcases hq with rfl | rfl <;> first | exact ⟨_, kd13_most_cases, ⟨_, rfl⟩⟩ | exact ⟨_, kd13_most_nodes, ⟨_, rfl⟩⟩)
  obtain ⟨ds_cases, vd_cases, bd_cases⟩ := FD_cases.binds0 (ps := ["store", "condition", "most_cases", "most_nodes"]) 2 (by simp) rfl (fun D doc pm an cdv ct us ks hl hk => match us, ks, hl, hk with | [_, _], [_, _], _, _ => ⟨_, _, _, _, _, _, rfl, rfl, ⟨_, _, _, _, _, _, rfl, rfl, rfl⟩⟩)
  obtain ⟨_, bn_cases⟩ := FD_cases.kbinds0 (ps := ["store", "condition", "most_cases", "most_nodes"]) 2 ["most_cases", "most_nodes"] [] (fun us _ ws => us ++ ws) (by simp) (fun q hq => by cases hq) (fun a _ c => a.append c) (fun D doc pm an cdv ct us mv ws hl _ hw => match us, ws, hl, hw with | [_, _], [_, _], _, _ => rfl)
  have g_cases := PySem.W.mg_of X G a13
  have F_Cover___init__ := fun_mk (st := s_Cover___init__) l14 c14 k14
  have b_Cover___init__ := F_Cover___init__.binds (ps := ["self", "store", "most_cases", "most_nodes"]) fun _ _ _ _ _ _ us hl => match us, hl with | [_, _, _, _], _ => rfl
  have mk0_Cover : Mk K C_Cover f14 := ⟨mk_Cover, a14, i14, kc_Cover⟩
  have F_Cover_cover := fun_mk (st := s_Cover_cover) l15 c15 k15
  have b_Cover_cover := F_Cover_cover.binds (ps := ["self", "low", "high"]) fun _ _ _ _ _ _ us hl => match us, hl with | [_, _, _], _ => rfl
  have m_Cover_cover : Meth K C_Cover "cover" f15 := ⟨a15, i15, k15⟩
  have F_Cover_left_over := fun_mk (st := s_Cover_left_over) l16 c16 k16
  have b_Cover_left_over := F_Cover_left_over.binds (ps := ["self", "low", "found"]) fun _ _ _ _ _ _ us hl => match us, hl with | [_, _, _], _ => rfl
  have m_Cover_left_over : Meth K C_Cover "left_over" f16 := ⟨a16, i16, k16⟩
  have F_Cover_but_not := fun_mk (st := s_Cover_but_not) l17 c17 k17
  have b_Cover_but_not := F_Cover_but_not.binds (ps := ["self", "first", "second"]) fun _ _ _ _ _ _ us hl => match us, hl with | [_, _, _], _ => rfl
  have m_Cover_but_not : Meth K C_Cover "but_not" f17 := ⟨a17, i17, k17⟩
  have F_Cover_case_without := fun_mk (st := s_Cover_case_without) l18 c18 k18
  have b_Cover_case_without := F_Cover_case_without.binds (ps := ["self", "entry", "case"]) fun _ _ _ _ _ _ us hl => match us, hl with | [_, _, _], _ => rfl
  have m_Cover_case_without : Meth K C_Cover "case_without" f18 := ⟨a18, i18, k18⟩
  have F_Cover_case_with := fun_mk (st := s_Cover_case_with) l19 c19 k19
  have b_Cover_case_with := F_Cover_case_with.binds (ps := ["self", "entry", "case"]) fun _ _ _ _ _ _ us hl => match us, hl with | [_, _, _], _ => rfl
  have m_Cover_case_with : Meth K C_Cover "case_with" f19 := ⟨a19, i19, k19⟩
  have F_Cover_empty_case := fun_mk (st := s_Cover_empty_case) l20 c20 k20
  have b_Cover_empty_case := F_Cover_empty_case.binds (ps := ["self"]) fun _ _ _ _ _ _ us hl => match us, hl with | [_], _ => rfl
  have m_Cover_empty_case : Meth K C_Cover "empty_case" f20 := ⟨a20, i20, k20⟩
  have F_Cover_check_size := fun_mk (st := s_Cover_check_size) l21 c21 k21
  have b_Cover_check_size := F_Cover_check_size.binds (ps := ["self", "condition"]) fun _ _ _ _ _ _ us hl => match us, hl with | [_, _], _ => rfl
  have m_Cover_check_size : Meth K C_Cover "check_size" f21 := ⟨a21, i21, k21⟩
  have F__law_draw := fun_mk (st := s__law_draw) l22 c22 k22
  have b__law_draw := F__law_draw.binds (ps := ["script"]) fun _ _ _ _ _ _ us hl => match us, hl with | [_], _ => rfl
  have g__law_draw := PySem.W.mg_of X G a22
  have F__law_next := fun_mk (st := s__law_next) l23 c23 k23
  have b__law_next := F__law_next.binds (ps := ["draw", "many"]) fun _ _ _ _ _ _ us hl => match us, hl with | [_, _], _ => rfl
  have g__law_next := PySem.W.mg_of X G a23
  have F__law_same := fun_mk (st := s__law_same) l24 c24 k24
  have b__law_same := F__law_same.binds (ps := ["actual", "due"]) fun _ _ _ _ _ _ us hl => match us, hl with | [_, _], _ => rfl
  have g__law_same := PySem.W.mg_of X G a24
  have F__law_entries := fun_mk (st := s__law_entries) l25 c25 k25
  have b__law_entries := F__law_entries.binds (ps := ["draw", "most"]) fun _ _ _ _ _ _ us hl => match us, hl with | [_, _], _ => rfl
  have g__law_entries := PySem.W.mg_of X G a25
  have F__law_tree := fun_mk (st := s__law_tree) l26 c26 k26
  have b__law_tree := F__law_tree.binds (ps := ["draw", "entries", "depth"]) fun _ _ _ _ _ _ us hl => match us, hl with | [_, _, _], _ => rfl
  have g__law_tree := PySem.W.mg_of X G a26
  have F__law_build := fun_mk (st := s__law_build) l27 c27 k27
  have b__law_build := F__law_build.binds (ps := ["store", "tree"]) fun _ _ _ _ _ _ us hl => match us, hl with | [_, _], _ => rfl
  have g__law_build := PySem.W.mg_of X G a27
  have F__law_true := fun_mk (st := s__law_true) l28 c28 k28
  have b__law_true := F__law_true.binds (ps := ["tree", "present"]) fun _ _ _ _ _ _ us hl => match us, hl with | [_, _], _ => rfl
  have g__law_true := PySem.W.mg_of X G a28
  have F__law_subsets := fun_mk (st := s__law_subsets) l29 c29 k29
  have b__law_subsets := F__law_subsets.binds (ps := ["entries"]) fun _ _ _ _ _ _ us hl => match us, hl with | [_], _ => rfl
  have g__law_subsets := PySem.W.mg_of X G a29
  have F__law_truth := fun_mk (st := s__law_truth) l30 c30 k30
  have b__law_truth := F__law_truth.binds (ps := ["tree", "entries"]) fun _ _ _ _ _ _ us hl => match us, hl with | [_, _], _ => rfl
  have g__law_truth := PySem.W.mg_of X G a30
  have F__law_fixed := fun_mk (st := s__law_fixed) l31 c31 k31
  have b__law_fixed := F__law_fixed.binds (ps := ["truth", "k", "there"]) fun _ _ _ _ _ _ us hl => match us, hl with | [_, _, _], _ => rfl
  have g__law_fixed := PySem.W.mg_of X G a31
  have F__law_top := fun_mk (st := s__law_top) l32 c32 k32
  have b__law_top := F__law_top.binds (ps := ["truth", "count"]) fun _ _ _ _ _ _ us hl => match us, hl with | [_, _], _ => rfl
  have g__law_top := PySem.W.mg_of X G a32
  have F__law_both := fun_mk (st := s__law_both) l33 c33 k33
  have b__law_both := F__law_both.binds (ps := ["first", "second"]) fun _ _ _ _ _ _ us hl => match us, hl with | [_, _], _ => rfl
  have g__law_both := PySem.W.mg_of X G a33
  have F__law_not := fun_mk (st := s__law_not) l34 c34 k34
  have b__law_not := F__law_not.binds (ps := ["truth"]) fun _ _ _ _ _ _ us hl => match us, hl with | [_], _ => rfl
  have g__law_not := PySem.W.mg_of X G a34
  have F__law_applies := fun_mk (st := s__law_applies) l35 c35 k35
  have b__law_applies := F__law_applies.binds (ps := ["case", "part"]) fun _ _ _ _ _ _ us hl => match us, hl with | [_, _], _ => rfl
  have g__law_applies := PySem.W.mg_of X G a35
  have F__law_some := fun_mk (st := s__law_some) l36 c36 k36
  have b__law_some := F__law_some.binds (ps := ["found", "entries"]) fun _ _ _ _ _ _ us hl => match us, hl with | [_, _], _ => rfl
  have g__law_some := PySem.W.mg_of X G a36
  have F__law_cover := fun_mk (st := s__law_cover) l37 c37 k37
  have b__law_cover := F__law_cover.binds (ps := ["low", "high", "entries"]) fun _ _ _ _ _ _ us hl => match us, hl with | [_, _, _], _ => rfl
  have g__law_cover := PySem.W.mg_of X G a37
  have F_law := fun_mk (st := s_law) l38 c38 k38
  have cl_Cover : Cls K C_Cover := ⟨pg_Cover, hd_Cover, po_Cover, sa_Cover⟩
  have g_Cover := PySem.W.mg_of X G aC_Cover
  have cl_Diagrams : Cls K C_Diagrams := ⟨pg_Diagrams, hd_Diagrams, po_Diagrams, sa_Diagrams⟩
  have g_Diagrams := PySem.W.mg_of X G aC_Diagrams
  have M : Mg mg := ⟨PySem.W.mg_none_of X G z_abs, PySem.W.mg_none_of X G z_all, PySem.W.mg_none_of X G z_any, PySem.W.mg_none_of X G z_bool, PySem.W.mg_none_of X G z_int, PySem.W.mg_none_of X G z_isinstance, PySem.W.mg_none_of X G z_len, PySem.W.mg_none_of X G z_list, PySem.W.mg_none_of X G z_min, PySem.W.mg_none_of X G z_range, PySem.W.mg_none_of X G z_reversed, PySem.W.mg_none_of X G z_str, PySem.W.mg_none_of X G z_tuple⟩
  exact ⟨PySem.W.fnOf "law" "law" (defArgs s_law) (defBody s_law) (defScope s_law) .none kV38 dc38 pm38 an38 cd38 ct38, fun s v => .of_eq rfl, fun base _ _ => by
  have GD : DgC K C_Diagrams mg := ⟨cl_Diagrams, nf_Diagrams_kept, nf_Diagrams_numbers, nf_Diagrams_combined, ⟨_, PySem.W.mg_of X G w_NEVER, _, rfl⟩, ⟨_, PySem.W.mg_of X G w_ALWAYS, _, rfl⟩, ⟨_, PySem.W.mg_of X G w_FIRST_NODE, _, rfl⟩⟩
  have NOF := FnOk.clm (P := l.prog) (w := w) (base := base) (ok_nof F_Diagrams_node_of M GD) m_Diagrams_node_of cl_Diagrams b_Diagrams_node_of
  have NDE := FnOk.clm (P := l.prog) (w := w) (base := base) (ok_node F_Diagrams_node M GD) m_Diagrams_node cl_Diagrams b_Diagrams_node
  have TOP := FnOk.clm (ok_top F_Diagrams_top M GD NOF) m_Diagrams_top cl_Diagrams b_Diagrams_top
  have BRA := FnOk.clm (ok_bra F_Diagrams_branches M GD NOF) m_Diagrams_branches cl_Diagrams b_Diagrams_branches
  have CMB := cl_comb F_Diagrams_combine M GD m_Diagrams_combine b_Diagrams_combine NDE TOP BRA 6
  have THE := FnOk.clm (ok_there F_Diagrams_there M GD NDE) m_Diagrams_there cl_Diagrams b_Diagrams_there
  have CON := FnOk.clm (ok_conj F_Diagrams_conjunction M GD CMB) m_Diagrams_conjunction cl_Diagrams b_Diagrams_conjunction
  have DIS := FnOk.clm (ok_disj F_Diagrams_disjunction M GD CMB) m_Diagrams_disjunction cl_Diagrams b_Diagrams_disjunction
  have NEG := FnOk.clm (ok_neg F_Diagrams_negation M GD CMB) m_Diagrams_negation cl_Diagrams b_Diagrams_negation
  have DIF := FnOk.clm (ok_diff F_Diagrams_differs M GD CMB NEG) m_Diagrams_differs cl_Diagrams b_Diagrams_differs
  have DIN : ClC l.prog w K mg base 1 "Diagrams" C_Diagrams (sp_dinit C_Diagrams K) := ⟨_, _, _, ok_dinit F_Diagrams___init__ GD, mk0_Diagrams, g_Diagrams, b_Diagrams___init__⟩
  have N := FnOk.cl (P := l.prog) (w := w) (base := base) (ok_next F__law_next M) F__law_next g__law_next b__law_next
  have DR := FnOk.cl (P := l.prog) (w := w) (base := base) (ok_draw F__law_draw M) F__law_draw g__law_draw b__law_draw
  have LTR := cl_ltr F__law_tree M g__law_tree b__law_tree N
  have LBU := cl_build 6 F__law_build M g__law_build b__law_build THE CON DIS NEG DIF
  have LTU := cl_true (P := l.prog) (w := w) (base := base) F__law_true M g__law_true b__law_true
  have LSU := FnOk.cl (P := l.prog) (w := w) (base := base) (ok_subs F__law_subsets M) F__law_subsets g__law_subsets b__law_subsets

  have PE_C : PlE K mg C_TooManyCases "TooManyCases" := ⟨epq_TooManyCases, PySem.W.mg_of X G epa_TooManyCases, epk_TooManyCases, eps_TooManyCases, ept_TooManyCases⟩
  have GC : CvG K C_Cover := ⟨cl_Cover, nf_Cover_store, nf_Cover_most_cases, nf_Cover_most_nodes, nf_Cover_number⟩
  have TOPL := FnOk.clm (ok_topL F_Diagrams_top M GD NOF) m_Diagrams_top cl_Diagrams b_Diagrams_top
  have LIS := FnOk.clm (ok_listed F_Diagrams_listed M GD NOF) m_Diagrams_listed cl_Diagrams b_Diagrams_listed
  have SIZ := FnOk.clm (ok_size F_Diagrams_size M GD LIS) m_Diagrams_size cl_Diagrams b_Diagrams_size
  have CIN : ClC l.prog w K mg base 1 "Cover" C_Cover (sp_cinit C_Cover) := ⟨_, _, _, ok_cinit F_Cover___init__ M GC, mk0_Cover, g_Cover, b_Cover___init__⟩
  have CHK := FnOk.clmx (ok_chk F_Cover_check_size M GC PE_C SIZ) m_Cover_check_size cl_Cover b_Cover_check_size
  have EMP := FnOk.clmx (P := l.prog) (w := w) (base := base) (ok_emp F_Cover_empty_case M GC GD PE_C) m_Cover_empty_case cl_Cover b_Cover_empty_case
  have BN := FnOk.clm (ok_bnP (n0 := 6) F_Cover_but_not M GC CON NEG) m_Cover_but_not cl_Cover b_Cover_but_not
  have WO := FnOk.clm (ok_wo (n0 := 6) F_Cover_case_without M GC BN THE) m_Cover_case_without cl_Cover b_Cover_case_without
  have WI := FnOk.clm (ok_wi (n0 := 6) F_Cover_case_with M GC CON THE) m_Cover_case_with cl_Cover b_Cover_case_with
  have LO := FnOk.clmx (ok_lo (n0 := 6) F_Cover_left_over M GC GD (by decide) DIS BN CHK) m_Cover_left_over cl_Cover b_Cover_left_over
  have COV := cl_cover F_Cover_cover M GC GD m_Cover_cover b_Cover_cover TOPL BRA DIS CON BN WO WI CHK EMP LO 5
  have OCA := ok_cases (P := l.prog) (w := w) (base := base) F_cases M CIN COV
  have CAD : ClDX l.prog w K mg base 17 "cases" [.int 200, .int 500] (sp_cases C_Diagrams C_TooManyCases K) := ⟨_, _, _, _, OCA, g_cases, F_cases.kp, bd_cases, vd_cases⟩
  obtain ⟨_, bn1⟩ := FD_cases.kbinds0 (ps := ["store", "condition", "most_cases", "most_nodes"]) 2 ["most_cases"] [("most_nodes", V.int 500)] (fun us mv ws => us ++ (ws ++ mv)) (by simp) (fun q hq => by rw [List.mem_singleton.mp hq]; exact List.mem_cons_of_mem _ List.mem_cons_self) (fun a b c => a.append (c.append b)) (fun D doc pm an cdv ct us mv ws hl hm hw => match us, mv, ws, hl, hm, hw with | [_, _], [_], [_], _, _, _ => ⟨_, _, _, _, _, _, rfl, rfl, rfl⟩)
  have CAN : ClNX l.prog w K mg base 17 "cases" 2 ["most_cases"] (fun us ws => us ++ (ws ++ [.int 500])) (sp_cases C_Diagrams C_TooManyCases K) := ⟨_, _, _, _, OCA, g_cases, F_cases.kp, bn1⟩
  have SM := cl_same (P := l.prog) (w := w) (base := base) F__law_same M g__law_same b__law_same
  have LEN := FnOk.cl (ok_ents 4 F__law_entries M N) F__law_entries g__law_entries b__law_entries
  have LSN := FnOk.cl (P := l.prog) (w := w) (base := base) (ok_subsN F__law_subsets M) F__law_subsets g__law_subsets b__law_subsets
  have LTT := FnOk.cl (ok_truth 10 F__law_truth M LSU (LTU 10)) F__law_truth g__law_truth b__law_truth
  have LFX := FnOk.cl (P := l.prog) (w := w) (base := base) (ok_fixed F__law_fixed M) F__law_fixed g__law_fixed b__law_fixed
  have LTP := FnOk.cl (ok_ltop F__law_top M LFX) F__law_top g__law_top b__law_top
  have LBO := FnOk.cl (P := l.prog) (w := w) (base := base) (ok_lboth F__law_both M) F__law_both g__law_both b__law_both
  have LNO := FnOk.cl (P := l.prog) (w := w) (base := base) (ok_lnot F__law_not M) F__law_not g__law_not b__law_not
  have LAP := FnOk.cl (P := l.prog) (w := w) (base := base) (ok_lapp F__law_applies M) F__law_applies g__law_applies b__law_applies
  have LSO := FnOk.cl (ok_lsomeS F__law_some M LSN LAP) F__law_some g__law_some b__law_some
  have LCO := cl_lcoverS F__law_cover M g__law_cover b__law_cover LBO LNO LSO LTP LFX 5
  exact ok_law F_law M DR N LEN (LTR 6) DIN (LBU 9) LTT LCO LSO CAD CAN (SM 5)⟩
end Lw
open PySem PySem.W PyProof.Rows
set_option maxHeartbeats 0 in
theorem PySem.Challenge.cw_lineworks_k60_cases_of_conditions_holds : PySem.Challenge.rw_lineworks_k60_cases_of_conditions.Holds := by
  w_on; o_law; k_head; (case hw => w_witness2)
  k_fill
  refine L2.walk_of (l := PySem.Challenge.rw_lineworks_k60_cases_of_conditions) (n := 63) (k := 20) (x := "script") (CX := fun _ => L2.CX0) (sp := fun w => Lw.sp_law _) rfl (by decide) rfl ⟨rfl, by decide, by decide⟩ (fun w h Y => PySem.W.kIn_of Y) ?F (fun _ _ a ns hl _ hS => ⟨a, ns, rfl, hS, hl, fun _ => rfl⟩) (fun _ _ _ _ _ h => h)
  case F =>
    intro w mg fa h KX G hmg
    refine' Lw.all_mk KX G hmg ?a0 ?i0 ?l0 ?c0 ?k0 ?a1 ?i1 ?l1 ?c1 ?k1 ?a2 ?i2 ?l2 ?c2 ?k2 ?a3 ?i3 ?l3 ?c3 ?k3 ?a4 ?i4 ?l4 ?c4 ?k4 ?a5 ?i5 ?l5 ?c5 ?k5 ?a6 ?i6 ?l6 ?c6 ?k6 ?a7 ?i7 ?l7 ?c7 ?k7 ?a8 ?i8 ?l8 ?c8 ?k8 ?a9 ?i9 ?l9 ?c9 ?k9 ?a10 ?i10 ?l10 ?c10 ?k10 ?a11 ?i11 ?l11 ?c11 ?k11 ?a12 ?i12 ?l12 ?c12 ?k12 ?a13 ?l13 ?c13 ?k13 ?kd13_most_cases ?kd13_most_nodes ?a14 ?i14 ?l14 ?c14 ?k14 ?a15 ?i15 ?l15 ?c15 ?k15 ?a16 ?i16 ?l16 ?c16 ?k16 ?a17 ?i17 ?l17 ?c17 ?k17 ?a18 ?i18 ?l18 ?c18 ?k18 ?a19 ?i19 ?l19 ?c19 ?k19 ?a20 ?i20 ?l20 ?c20 ?k20 ?a21 ?i21 ?l21 ?c21 ?k21 ?a22 ?l22 ?c22 ?k22 ?a23 ?l23 ?c23 ?k23 ?a24 ?l24 ?c24 ?k24 ?a25 ?l25 ?c25 ?k25 ?a26 ?l26 ?c26 ?k26 ?a27 ?l27 ?c27 ?k27 ?a28 ?l28 ?c28 ?k28 ?a29 ?l29 ?c29 ?k29 ?a30 ?l30 ?c30 ?k30 ?a31 ?l31 ?c31 ?k31 ?a32 ?l32 ?c32 ?k32 ?a33 ?l33 ?c33 ?k33 ?a34 ?l34 ?c34 ?k34 ?a35 ?l35 ?c35 ?k35 ?a36 ?l36 ?c36 ?k36 ?a37 ?l37 ?c37 ?k37 ?a38 ?l38 ?c38 ?k38 ?w_NEVER ?w_ALWAYS ?w_FIRST_NODE ?aC_Cover ?pg_Cover ?hd_Cover ?po_Cover ?sa_Cover ?mk_Cover ?kc_Cover ?nf_Cover_most_cases ?nf_Cover_most_nodes ?nf_Cover_number ?nf_Cover_store ?aC_Diagrams ?pg_Diagrams ?hd_Diagrams ?po_Diagrams ?sa_Diagrams ?mk_Diagrams ?kc_Diagrams ?nf_Diagrams_combined ?nf_Diagrams_kept ?nf_Diagrams_numbers ?z_abs ?z_all ?z_any ?z_bool ?z_int ?z_isinstance ?z_len ?z_list ?z_min ?z_range ?z_reversed ?z_str ?z_tuple ?epa_TooManyCases ?epq_TooManyCases ?epk_TooManyCases ?eps_TooManyCases ?ept_TooManyCases
    (case aC_Cover => k_is)
    (case pg_Cover => k_is)
    (case hd_Cover => k_is)
    (case po_Cover => k_is)
    (case sa_Cover => k_is)
    (case mk_Cover => k_is)
    (case kc_Cover => k_is)
    (case nf_Cover_most_cases => k_is)
    (case nf_Cover_most_nodes => k_is)
    (case nf_Cover_number => k_is)
    (case nf_Cover_store => k_is)
    (case aC_Diagrams => k_is)
    (case pg_Diagrams => k_is)
    (case hd_Diagrams => k_is)
    (case po_Diagrams => k_is)
    (case sa_Diagrams => k_is)
    (case mk_Diagrams => k_is)
    (case kc_Diagrams => k_is)
    (case nf_Diagrams_combined => k_is)
    (case nf_Diagrams_kept => k_is)
    (case nf_Diagrams_numbers => k_is)
    (case a0 => k_is); (case i0 => k_is); (case l0 => k_is); (case c0 => k_is); (case k0 => k_is)
    (case a1 => k_is); (case i1 => k_is); (case l1 => k_is); (case c1 => k_is); (case k1 => k_is)
    (case a2 => k_is); (case i2 => k_is); (case l2 => k_is); (case c2 => k_is); (case k2 => k_is)
    (case a3 => k_is); (case i3 => k_is); (case l3 => k_is); (case c3 => k_is); (case k3 => k_is)
    (case a4 => k_is); (case i4 => k_is); (case l4 => k_is); (case c4 => k_is); (case k4 => k_is)
    (case a5 => k_is); (case i5 => k_is); (case l5 => k_is); (case c5 => k_is); (case k5 => k_is)
    (case a6 => k_is); (case i6 => k_is); (case l6 => k_is); (case c6 => k_is); (case k6 => k_is)
    (case a7 => k_is); (case i7 => k_is); (case l7 => k_is); (case c7 => k_is); (case k7 => k_is)
    (case a8 => k_is); (case i8 => k_is); (case l8 => k_is); (case c8 => k_is); (case k8 => k_is)
    (case a9 => k_is); (case i9 => k_is); (case l9 => k_is); (case c9 => k_is); (case k9 => k_is)
    (case a10 => k_is); (case i10 => k_is); (case l10 => k_is); (case c10 => k_is); (case k10 => k_is)
    (case a11 => k_is); (case i11 => k_is); (case l11 => k_is); (case c11 => k_is); (case k11 => k_is)
    (case a12 => k_is); (case i12 => k_is); (case l12 => k_is); (case c12 => k_is); (case k12 => k_is)
    (case a13 => k_is); (case l13 => k_is); (case c13 => k_is); (case k13 => k_is)
    (case kd13_most_cases => k_is)
    (case kd13_most_nodes => k_is)
    (case a14 => k_is); (case i14 => k_is); (case l14 => k_is); (case c14 => k_is); (case k14 => k_is)
    (case a15 => k_is); (case i15 => k_is); (case l15 => k_is); (case c15 => k_is); (case k15 => k_is)
    (case a16 => k_is); (case i16 => k_is); (case l16 => k_is); (case c16 => k_is); (case k16 => k_is)
    (case a17 => k_is); (case i17 => k_is); (case l17 => k_is); (case c17 => k_is); (case k17 => k_is)
    (case a18 => k_is); (case i18 => k_is); (case l18 => k_is); (case c18 => k_is); (case k18 => k_is)
    (case a19 => k_is); (case i19 => k_is); (case l19 => k_is); (case c19 => k_is); (case k19 => k_is)
    (case a20 => k_is); (case i20 => k_is); (case l20 => k_is); (case c20 => k_is); (case k20 => k_is)
    (case a21 => k_is); (case i21 => k_is); (case l21 => k_is); (case c21 => k_is); (case k21 => k_is)
    (case a22 => k_is); (case l22 => k_is); (case c22 => k_is); (case k22 => k_is)
    (case a23 => k_is); (case l23 => k_is); (case c23 => k_is); (case k23 => k_is)
    (case a24 => k_is); (case l24 => k_is); (case c24 => k_is); (case k24 => k_is)
    (case a25 => k_is); (case l25 => k_is); (case c25 => k_is); (case k25 => k_is)
    (case a26 => k_is); (case l26 => k_is); (case c26 => k_is); (case k26 => k_is)
    (case a27 => k_is); (case l27 => k_is); (case c27 => k_is); (case k27 => k_is)
    (case a28 => k_is); (case l28 => k_is); (case c28 => k_is); (case k28 => k_is)
    (case a29 => k_is); (case l29 => k_is); (case c29 => k_is); (case k29 => k_is)
    (case a30 => k_is); (case l30 => k_is); (case c30 => k_is); (case k30 => k_is)
    (case a31 => k_is); (case l31 => k_is); (case c31 => k_is); (case k31 => k_is)
    (case a32 => k_is); (case l32 => k_is); (case c32 => k_is); (case k32 => k_is)
    (case a33 => k_is); (case l33 => k_is); (case c33 => k_is); (case k33 => k_is)
    (case a34 => k_is); (case l34 => k_is); (case c34 => k_is); (case k34 => k_is)
    (case a35 => k_is); (case l35 => k_is); (case c35 => k_is); (case k35 => k_is)
    (case a36 => k_is); (case l36 => k_is); (case c36 => k_is); (case k36 => k_is)
    (case a37 => k_is); (case l37 => k_is); (case c37 => k_is); (case k37 => k_is)
    (case a38 => k_is); (case l38 => k_is); (case c38 => k_is); (case k38 => k_is)
    (case w_NEVER => k_is)
    (case w_ALWAYS => k_is)
    (case w_FIRST_NODE => k_is)
    (case z_abs => k_is); (case z_all => k_is); (case z_any => k_is); (case z_bool => k_is); (case z_int => k_is); (case z_isinstance => k_is); (case z_len => k_is); (case z_list => k_is); (case z_min => k_is); (case z_range => k_is); (case z_reversed => k_is); (case z_str => k_is); (case z_tuple => k_is)
    (case epa_TooManyCases => k_is)
    (case epq_TooManyCases => k_exc)
    (case epk_TooManyCases => k_is)
    (case eps_TooManyCases => k_is)
    (case ept_TooManyCases => k_is)

