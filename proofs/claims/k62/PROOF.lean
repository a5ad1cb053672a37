import PyProof.Rows.All
import Wide.All
import OpenK.AllK
import Wide.FinOn
import HandS.ForMost
import HandS.Wide
import HandS.IsInst
import HandS.Codes
import HandS.More
import HandS.DictComp
import HandS.Star
import HandS.CallLocal
import HandS.SortKw
import HandS.Set
import HandS.SetBool
import HandS.SetKeys
import HandS.Deep
import HandS.Iter
import HandS.SortInts
import HandS.Zip
import HandS.Rev
import HandS.RevRange
import HandS.Strs
import HandS.SetFor
import HandS.WideBits
import HandS.Exc
import HandS.ExcOwn
import HandS.ExcIs
import HandS.WordsExc
import HandS.Defaults
import HandS.MakeKwOnly
import HandS.Evl
import HandS.Gcd
import KE.KMathGC
import KE.LtSeq
import KE.LtData
import KE.KSortTup
import KE.DataCmp
import KE.KMinKey
import KE.DataMinKey
import KE.DataMinMax
import PySem.Challenge.RW_lineworks_k62_reasons_of_conditions
set_option Elab.async false
set_option linter.all false
set_option maxRecDepth 100000
namespace Lw
open PySem PySem.Spec PyProof.Rows L2
def topS (i : Nat) : Stmt := PySem.Challenge.pw_lineworks_k62_reasons_of_conditions.main.body.getD i (.Pass ⟨0, 0, 0, 0⟩)
abbrev s__wall : Stmt := topS 0
abbrev s_SourceError___init__ : Stmt := inClass (topS 3) 0
abbrev s_set_key : Stmt := topS 6
abbrev N_set_key : List Str := ["numbers"]
theorem sc_set_key : FnScope N_set_key ["numbers"] (defScope s_set_key) := ⟨rfl, rfl, rfl, by decide +kernel, rfl, by decide +kernel, by decide +kernel⟩
abbrev s_members : Stmt := topS 7
abbrev N_members : List Str := ["mask", "entries", "at", "entry"]
theorem sc_members : FnScope N_members ["mask", "entries"] (defScope s_members) := ⟨rfl, rfl, rfl, by decide +kernel, rfl, by decide +kernel, by decide +kernel⟩
abbrev s_least_masks : Stmt := topS 8
abbrev N_least_masks : List Str := ["masks", "most", "least", "mask"]
theorem sc_least_masks : FnScope N_least_masks ["masks", "most"] (defScope s_least_masks) := ⟨rfl, rfl, rfl, by decide +kernel, rfl, by decide +kernel, by decide +kernel⟩
abbrev s_has_part : Stmt := topS 9
abbrev N_has_part : List Str := ["mask", "others", "other"]
theorem sc_has_part : FnScope N_has_part ["mask", "others"] (defScope s_has_part) := ⟨rfl, rfl, rfl, by decide +kernel, rfl, by decide +kernel, by decide +kernel⟩
abbrev s_reasons : Stmt := topS 11
abbrev N_reasons : List Str := ["store", "condition", "present", "most", "forced", "nodes", "root", "entries", "entry", "bits", "forcing", "without", "there", "now", "other", "at", "mask"]
theorem sc_reasons : FnScope N_reasons ["store", "condition", "present", "most"] (defScope s_reasons) := ⟨rfl, rfl, rfl, by decide +kernel, rfl, by decide +kernel, by decide +kernel⟩
abbrev s_forcing_node : Stmt := topS 12
abbrev N_forcing_node : List Str := ["bit", "now", "other", "most", "both", "enough", "found", "mask", "first", "second"]
theorem sc_forcing_node : FnScope N_forcing_node ["bit", "now", "other", "most"] (defScope s_forcing_node) := ⟨rfl, rfl, rfl, by decide +kernel, rfl, by decide +kernel, by decide +kernel⟩
abbrev s_Diagrams___init__ : Stmt := inClass (topS 17) 0
abbrev N_Diagrams___init__ : List Str := ["self"]
theorem sc_Diagrams___init__ : FnScope N_Diagrams___init__ ["self"] (defScope s_Diagrams___init__) := ⟨rfl, rfl, rfl, by decide +kernel, rfl, by decide +kernel, by decide +kernel⟩
abbrev s_Diagrams_there : Stmt := inClass (topS 17) 1
abbrev N_Diagrams_there : List Str := ["self", "entry"]
theorem sc_Diagrams_there : FnScope N_Diagrams_there ["self", "entry"] (defScope s_Diagrams_there) := ⟨rfl, rfl, rfl, by decide +kernel, rfl, by decide +kernel, by decide +kernel⟩
abbrev s_Diagrams_conjunction : Stmt := inClass (topS 17) 2
abbrev N_Diagrams_conjunction : List Str := ["self", "first", "second"]
theorem sc_Diagrams_conjunction : FnScope N_Diagrams_conjunction ["self", "first", "second"] (defScope s_Diagrams_conjunction) := ⟨rfl, rfl, rfl, by decide +kernel, rfl, by decide +kernel, by decide +kernel⟩
abbrev s_Diagrams_disjunction : Stmt := inClass (topS 17) 3
abbrev N_Diagrams_disjunction : List Str := ["self", "first", "second"]
theorem sc_Diagrams_disjunction : FnScope N_Diagrams_disjunction ["self", "first", "second"] (defScope s_Diagrams_disjunction) := ⟨rfl, rfl, rfl, by decide +kernel, rfl, by decide +kernel, by decide +kernel⟩
abbrev s_Diagrams_negation : Stmt := inClass (topS 17) 4
abbrev N_Diagrams_negation : List Str := ["self", "condition"]
theorem sc_Diagrams_negation : FnScope N_Diagrams_negation ["self", "condition"] (defScope s_Diagrams_negation) := ⟨rfl, rfl, rfl, by decide +kernel, rfl, by decide +kernel, by decide +kernel⟩
abbrev s_Diagrams_differs : Stmt := inClass (topS 17) 5
abbrev N_Diagrams_differs : List Str := ["self", "first", "second"]
theorem sc_Diagrams_differs : FnScope N_Diagrams_differs ["self", "first", "second"] (defScope s_Diagrams_differs) := ⟨rfl, rfl, rfl, by decide +kernel, rfl, by decide +kernel, by decide +kernel⟩
abbrev s_Diagrams_restrict : Stmt := inClass (topS 17) 6
abbrev s_Diagrams_holds : Stmt := inClass (topS 17) 7
abbrev N_Diagrams_holds : List Str := ["self", "condition", "present", "left", "entry", "without", "there"]
theorem sc_Diagrams_holds : FnScope N_Diagrams_holds ["self", "condition", "present"] (defScope s_Diagrams_holds) := ⟨rfl, rfl, rfl, by decide +kernel, rfl, by decide +kernel, by decide +kernel⟩
abbrev s_Diagrams_depends : Stmt := inClass (topS 17) 8
abbrev N_Diagrams_depends : List Str := ["self", "condition", "nodes", "_", "entry"]
theorem sc_Diagrams_depends : FnScope N_Diagrams_depends ["self", "condition"] (defScope s_Diagrams_depends) := ⟨rfl, rfl, rfl, by decide +kernel, rfl, by decide +kernel, by decide +kernel⟩
abbrev s_Diagrams_size : Stmt := inClass (topS 17) 9
abbrev s_Diagrams_implies : Stmt := inClass (topS 17) 10
abbrev s_Diagrams_helps : Stmt := inClass (topS 17) 11
abbrev s_Diagrams_hurts : Stmt := inClass (topS 17) 12
abbrev s_Diagrams_ways : Stmt := inClass (topS 17) 13
abbrev s_Diagrams_first_set : Stmt := inClass (topS 17) 14
abbrev s_Diagrams_table : Stmt := inClass (topS 17) 15
abbrev N_Diagrams_table : List Str := ["self", "condition", "nodes", "numbers"]
theorem sc_Diagrams_table : FnScope N_Diagrams_table ["self", "condition"] (defScope s_Diagrams_table) := ⟨rfl, rfl, rfl, by decide +kernel, rfl, by decide +kernel, by decide +kernel⟩
abbrev s_Diagrams_listed : Stmt := inClass (topS 17) 16
abbrev N_Diagrams_listed : List Str := ["self", "conditions", "nodes", "numbers", "left", "condition", "entry", "without", "there", "waiting", "part"]
theorem sc_Diagrams_listed : FnScope N_Diagrams_listed ["self", "conditions"] (defScope s_Diagrams_listed) := ⟨rfl, rfl, rfl, by decide +kernel, rfl, by decide +kernel, by decide +kernel⟩
abbrev s_Diagrams_top : Stmt := inClass (topS 17) 17
abbrev N_Diagrams_top : List Str := ["self", "conditions", "condition"]
theorem sc_Diagrams_top : FnScope N_Diagrams_top ["self", "conditions"] (defScope s_Diagrams_top) := ⟨rfl, rfl, rfl, by decide +kernel, rfl, by decide +kernel, by decide +kernel⟩
abbrev s_Diagrams_branches : Stmt := inClass (topS 17) 18
abbrev N_Diagrams_branches : List Str := ["self", "condition", "entry", "asked", "without", "there"]
theorem sc_Diagrams_branches : FnScope N_Diagrams_branches ["self", "condition", "entry"] (defScope s_Diagrams_branches) := ⟨rfl, rfl, rfl, by decide +kernel, rfl, by decide +kernel, by decide +kernel⟩
abbrev s_Diagrams_node_of : Stmt := inClass (topS 17) 19
abbrev N_Diagrams_node_of : List Str := ["self", "condition"]
theorem sc_Diagrams_node_of : FnScope N_Diagrams_node_of ["self", "condition"] (defScope s_Diagrams_node_of) := ⟨rfl, rfl, rfl, by decide +kernel, rfl, by decide +kernel, by decide +kernel⟩
abbrev s_Diagrams_node : Stmt := inClass (topS 17) 20
abbrev N_Diagrams_node : List Str := ["self", "entry", "without", "there", "made"]
theorem sc_Diagrams_node : FnScope N_Diagrams_node ["self", "entry", "without", "there"] (defScope s_Diagrams_node) := ⟨rfl, rfl, rfl, by decide +kernel, rfl, by decide +kernel, by decide +kernel⟩
abbrev s_Diagrams_combine : Stmt := inClass (topS 17) 21
abbrev N_Diagrams_combine : List Str := ["self", "condition", "first", "second", "asked", "entry", "without", "there", "first_without", "first_there", "second_without", "second_there"]
theorem sc_Diagrams_combine : FnScope N_Diagrams_combine ["self", "condition", "first", "second"] (defScope s_Diagrams_combine) := ⟨rfl, rfl, rfl, by decide +kernel, rfl, by decide +kernel, by decide +kernel⟩
abbrev s__law_draw : Stmt := topS 19
abbrev N__law_draw : List Str := ["script"]
theorem sc__law_draw : FnScope N__law_draw ["script"] (defScope s__law_draw) := ⟨rfl, rfl, rfl, by decide +kernel, rfl, by decide +kernel, by decide +kernel⟩
abbrev s__law_next : Stmt := topS 20
abbrev N__law_next : List Str := ["draw", "many", "found", "cell"]
theorem sc__law_next : FnScope N__law_next ["draw", "many"] (defScope s__law_next) := ⟨rfl, rfl, rfl, by decide +kernel, rfl, by decide +kernel, by decide +kernel⟩
abbrev s__law_same : Stmt := topS 21
abbrev N__law_same : List Str := ["actual", "due", "k"]
theorem sc__law_same : FnScope N__law_same ["actual", "due"] (defScope s__law_same) := ⟨rfl, rfl, rfl, by decide +kernel, rfl, by decide +kernel, by decide +kernel⟩
abbrev s__law_entries : Stmt := topS 22
abbrev N__law_entries : List Str := ["draw", "most", "entries", "last", "k"]
theorem sc__law_entries : FnScope N__law_entries ["draw", "most"] (defScope s__law_entries) := ⟨rfl, rfl, rfl, by decide +kernel, rfl, by decide +kernel, by decide +kernel⟩
abbrev s__law_tree : Stmt := topS 23
abbrev N__law_tree : List Str := ["draw", "entries", "depth", "form", "first"]
theorem sc__law_tree : FnScope N__law_tree ["draw", "entries", "depth"] (defScope s__law_tree) := ⟨rfl, rfl, rfl, by decide +kernel, rfl, by decide +kernel, by decide +kernel⟩
abbrev s__law_build : Stmt := topS 24
abbrev N__law_build : List Str := ["store", "tree", "first", "second"]
theorem sc__law_build : FnScope N__law_build ["store", "tree"] (defScope s__law_build) := ⟨rfl, rfl, rfl, by decide +kernel, rfl, by decide +kernel, by decide +kernel⟩
abbrev s__law_true : Stmt := topS 25
abbrev N__law_true : List Str := ["tree", "present", "first", "second"]
theorem sc__law_true : FnScope N__law_true ["tree", "present"] (defScope s__law_true) := ⟨rfl, rfl, rfl, by decide +kernel, rfl, by decide +kernel, by decide +kernel⟩
abbrev s__law_subsets : Stmt := topS 26
abbrev N__law_subsets : List Str := ["entries", "found", "entry", "part"]
theorem sc__law_subsets : FnScope N__law_subsets ["entries"] (defScope s__law_subsets) := ⟨rfl, rfl, rfl, by decide +kernel, rfl, by decide +kernel, by decide +kernel⟩
abbrev s__law_truth : Stmt := topS 27
abbrev N__law_truth : List Str := ["tree", "entries", "part"]
theorem sc__law_truth : FnScope N__law_truth ["tree", "entries"] (defScope s__law_truth) := ⟨rfl, rfl, rfl, by decide +kernel, rfl, by decide +kernel, by decide +kernel⟩
abbrev s__law_fixed : Stmt := topS 28
abbrev N__law_fixed : List Str := ["truth", "k", "there", "step", "j", "found", "at", "base"]
theorem sc__law_fixed : FnScope N__law_fixed ["truth", "k", "there"] (defScope s__law_fixed) := ⟨rfl, rfl, rfl, by decide +kernel, rfl, by decide +kernel, by decide +kernel⟩
abbrev s__law_top : Stmt := topS 29
abbrev N__law_top : List Str := ["truth", "count", "k"]
theorem sc__law_top : FnScope N__law_top ["truth", "count"] (defScope s__law_top) := ⟨rfl, rfl, rfl, by decide +kernel, rfl, by decide +kernel, by decide +kernel⟩
abbrev s__law_diagrams : Stmt := topS 30
abbrev N__law_diagrams : List Str := ["truths", "count", "found", "waiting", "truth", "k"]
theorem sc__law_diagrams : FnScope N__law_diagrams ["truths", "count"] (defScope s__law_diagrams) := ⟨rfl, rfl, rfl, by decide +kernel, rfl, by decide +kernel, by decide +kernel⟩
abbrev s__law_set_key : Stmt := topS 31
abbrev N__law_set_key : List Str := ["members_v"]
theorem sc__law_set_key : FnScope N__law_set_key ["members_v"] (defScope s__law_set_key) := ⟨rfl, rfl, rfl, by decide +kernel, rfl, by decide +kernel, by decide +kernel⟩
abbrev s__law_within : Stmt := topS 32
abbrev N__law_within : List Str := ["part", "whole", "member"]
theorem sc__law_within : FnScope N__law_within ["part", "whole"] (defScope s__law_within) := ⟨rfl, rfl, rfl, by decide +kernel, rfl, by decide +kernel, by decide +kernel⟩
abbrev s__law_least : Stmt := topS 33
abbrev N__law_least : List Str := ["sets", "ordered", "found", "members_v", "known"]
theorem sc__law_least : FnScope N__law_least ["sets"] (defScope s__law_least) := ⟨rfl, rfl, rfl, by decide +kernel, rfl, by decide +kernel, by decide +kernel⟩
abbrev s__law_turned : Stmt := topS 34
abbrev s__law_forces : Stmt := topS 35
abbrev N__law_forces : List Str := ["truth", "subsets", "present", "part", "k", "entry"]
theorem sc__law_forces : FnScope N__law_forces ["truth", "subsets", "present", "part"] (defScope s__law_forces) := ⟨rfl, rfl, rfl, by decide +kernel, rfl, by decide +kernel, by decide +kernel⟩
abbrev s__law_forcing : Stmt := topS 36
abbrev N__law_forcing : List Str := ["truth", "entries", "present", "subsets", "part"]
theorem sc__law_forcing : FnScope N__law_forcing ["truth", "entries", "present"] (defScope s__law_forcing) := ⟨rfl, rfl, rfl, by decide +kernel, rfl, by decide +kernel, by decide +kernel⟩
abbrev s_law : Stmt := topS 37
abbrev N_law : List Str := ["script", "draw", "entries", "tree", "present", "store", "condition", "truth", "due", "counts", "most", "handed", "refused", "e", "entry", "one"]
theorem sc_law : FnScope N_law ["script"] (defScope s_law) := ⟨rfl, rfl, rfl, by decide +kernel, rfl, by decide +kernel, by decide +kernel⟩
/-! ### heaps and calls -/
theorem same_upd {H : Hp} {p : Addr} {o : HO} (h : H p = none) : Same H (upd H p o) := fun b x e => by
  rw [upd_ne (ne_of_none e h)]
  exact e
/-- what stood stands, but for the object at d -/
def Fd (d : Addr) (H H' : Hp) : Prop := ∀ b o, b ≠ d → H b = some o → H' b = some o
theorem Fd.refl (d : Addr) (H : Hp) : Fd d H H := fun _ _ _ e => e
theorem Fd.trans {d : Addr} {H H1 H2 : Hp} (a : Fd d H H1) (b : Fd d H1 H2) : Fd d H H2 := fun c o n e => b c o n (a c o n e)
theorem Fd.of {d : Addr} {H H' : Hp} (a : Same H H') : Fd d H H' := fun b o _ e => a b o e
theorem Fd.new {d : Addr} {H : Hp} {p : Addr} {o : HO} (h : H p = none) : Fd d H (upd H p o) := Fd.of (same_upd h)
theorem Fd.at {d : Addr} {H : Hp} {o : HO} : Fd d H (upd H d o) := fun b x n e => by
  rw [upd_ne n]
  exact e
/-- a def that may be called by its name -/
structure Cl (P : Program) (w : World) (K : PySem.W.Frag) (mg : Str → Option Value) (base : Heap) (k : Nat) (x : Str) (sp : Sp) : Prop where
  ex : ∃ (f : Addr) (fd : FuncData) (ps : List Str), FnOk P w K mg base CX0 k f fd ps sp ∧ mg x = some (.ref f) ∧ PySem.W.keepIn K (.ref f) = true ∧ Binds K fd ps []
section
variable {X : Cx} {k j : Nat} {x : Str} {sp : Sp} {p pos : Pos} {e : Expr} {es : List Expr} {t : TA}
theorem pe_u (c : Cl X.prog X.w X.K X.mg X.base k x sp) (hr : Room j X.A) (hk : k ≤ j) (hg : Gl X x) (ha : PA X (e :: es) t)
    (hdb : (x == ("__debug__" : Str)) = false := by decide) (he : starEach (e :: es) X.env = (false, eval e X.env) :: starEach es X.env := by rfl) (hpl : (backTo pos (starEach es X.env)).any (·.1) = false := by rfl) :
    PE X (.Call (.Name x p) (e :: es) [] pos) (tCall sp [] E0 t) := by
  obtain ⟨f, fd, ps, F, hm, kp, b⟩ := c.ex
  exact pe_call F (hr.mono hk) hg hm kp b .nil pass0 ha hdb he hpl
theorem pe_u0 (c : Cl X.prog X.w X.K X.mg X.base k x sp) (hr : Room j X.A) (hk : k ≤ j) (hg : Gl X x) (hdb : (x == ("__debug__" : Str)) = false := by decide) : PE X (.Call (.Name x p) [] [] pos) (tCall sp [] E0 tNil) := by
  obtain ⟨f, fd, ps, F, hm, kp, b⟩ := c.ex
  exact pe_call0 F (hr.mono hk) hg hm kp b .nil pass0 hdb
end
theorem FnOk.cl {P : Program} {w : World} {K : PySem.W.Frag} {mg : Str → Option Value} {base : Heap} {k : Nat} {x q : Str} {st : Stmt} {f : Addr} {fd : FuncData} {ps : List Str} {sp : Sp} (h : FnOk P w K mg base CX0 k f fd ps sp) (F : Fun K x q st f fd) (g : mg x = some (.ref f)) (b : Binds K fd ps []) : Cl P w K mg base k x sp := ⟨f, fd, ps, h, g, F.kp, b⟩
/-! ### rules with the written part named (within a comprehension) -/
section
variable {X : Cx} (K : PySem.W.Frag)
theorem ix_listK (h : X.K = K := by rfl) : IxR X (rIxL K) := by subst h; exact ix_list
theorem ix_tupK (h : X.K = K := by rfl) : IxR X (rIxT K) := by subst h; exact ix_tup
theorem ix_seqK (h : X.K = K := by rfl) : IxR X (rIx K) := by subst h; exact ix_seq
theorem len_seqK (h : X.K = K := by rfl) : CallR X (.builtin "len") (fun xs H Q => ∃ p ys, xs = [.ref p] ∧ (SqL K H p ys ∨ SqT K H p ys) ∧ Q (.int ys.length) H) := by subst h; exact call_len_seq
theorem isiK (h : X.K = K := by rfl) : CallR X (.builtin "isinstance") (rIsi K) := by subst h; exact call_isi
theorem isiTK (h : X.K = K := by rfl) : CallR X (.builtin "isinstance") (rIsiT K) := by subst h; exact call_isiT
theorem allK (hc : X.calm = true) (h : X.K = K := by rfl) : CallR X (.builtin "all") (rAll K) := by subst h; exact cr_all hc
theorem listK (h : X.K = K := by rfl) : CallR X (.type "list") (fun xs H Q => ∃ p ys, xs = [.ref p] ∧ (SqL K H p ys ∨ SqT K H p ys) ∧ ∀ l, H l = none → Q (.ref l) (upd H l (.lst ys))) := by subst h; exact call_list_of
theorem tupleK (h : X.K = K := by rfl) : CallR X (.type "tuple") (fun xs H Q => ∃ p ys, xs = [.ref p] ∧ ((SqL K H p ys ∧ ∀ l, H l = none → Q (.ref l) (upd H l (.tup ys))) ∨ (SqT K H p ys ∧ Q (.ref p) H))) := by subst h; exact call_tuple_of
theorem inK (h : X.K = K := by rfl) : OpR X (compareOp .In) (rIn K false) := by subst h; exact op_in_seq
theorem notInK (h : X.K = K := by rfl) : OpR X (compareOp .NotIn) (rIn K true) := by subst h; exact op_notIn_seq
theorem pe_bmK {T : String} {name : Str} {id : String} {r : V → List V → Hp → VK → Prop} {o e : Expr} {es : List Expr} {to : TE} {t : TA} {apos cpos : Pos} (pa : PlainAttrs T) (slot : Slot T name id) (hty : typeOf (.builtin id) = pure (.type "method_descriptor")) (hm : MtR X id r) (ho : PE X o to) (ha : PA X (e :: es) t) (hK : X.K = K := by rfl)
    (hbase : attributeBase o name X.env (eval o X.env) = eval o X.env := by rfl)
    (hfew : ((backTo cpos (starEach (e :: es) X.env)).all (fun x => !x.1) && (backToKw cpos (keywordEach [] X.env)).all (fun x => x.1.isSome)
      && decide ((e :: es).length + ([] : List Keyword).length + (if ([] : List Keyword).isEmpty then 0 else 1) < 30)) = true := by rfl)
    (hline : (apos.endLine == cpos.line) = true := by rfl) (hs : starEach (e :: es) X.env = (false, eval e X.env) :: starEach es X.env := by rfl) (hplain : (backTo cpos (starEach es X.env)).any (·.1) = false := by rfl) :
    PE X (.Call (.Attribute o name apos) (e :: es) [] cpos) (tBM K T r to t) := by subst hK; exact pe_bm pa slot hty hm ho ha hbase hfew hline hs hplain
theorem pt_truthK {a : Expr} {ta : TE} (ha : PE X a ta) (he : ∀ whole, isTrue a X.env whole = (do let v ← whole; standAt a.pos; holding [v] (truthy v))) (h : X.K = K := by rfl) : PT X a (fun σ H Q => ta σ H fun x H' => ∃ k, TruV K x H' k ∧ Q k H') := by subst h; exact pt_truth ha he
theorem eqDK (hu : X.A.units + 64 < cLine) (h : X.K = K := by rfl) : OpR X (compareOp .Eq) (rEqD K) := by subst h; exact op_eqD hu
theorem neDK (hu : X.A.units + 64 < cLine) (h : X.K = K := by rfl) : OpR X (compareOp .NotEq) (rNeD K) := by subst h; exact op_neD hu
end
/-- over the signs of a text -/
theorem for_strs {x : Str} {g : TG} {tb : TS} {D : Ends} {σ : L2.St} {H : Hp} (Pv : Nat → L2.St → Hp → Prop) (h0 : Pv 0 σ H)
    (hs : ∀ i c σ H, x.cps.toList[i]? = some c → Pv i σ H → g (.str ⟨#[c]⟩) σ H fun σ2 H2 => tb { D with nx := Pv (i + 1), ct := Pv (i + 1), bk := D.nx } σ2 H2) (hd : ∀ σ H, Pv x.cps.toList.length σ H → D.nx σ H) :
    ∃ W : Nat → Nat → L2.St → Hp → Prop, (∃ m, W 0 m σ H) ∧ ∀ i m σ H, W i m σ H →
      ((Its x).stop i H ∧ D.nx σ H) ∨ ((Its x).go i H ∧ ∃ N : L2.St → Hp → Prop, (∀ σ' H', N σ' H' → ∃ m', m' < m ∧ W (i + 1) m' σ' H') ∧ ∀ v H', (Its x).yld i H v H' → g v σ H' fun σ2 H2 => tb { D with nx := N, ct := N, bk := D.nx } σ2 H2) := by
  have es : x.cps.toList.length = x.cps.size := by simp
  refine ⟨fun i m σ H => m = x.cps.size - i ∧ i ≤ x.cps.size ∧ Pv i σ H, ⟨x.cps.size, by simp, Nat.zero_le _, h0⟩, ?_⟩
  rintro i m σ H ⟨rfl, hi, p⟩
  by_cases hlt : i < x.cps.size
  · refine .inr ⟨hlt, Pv (i + 1), fun σ' H' p' => ⟨x.cps.size - (i + 1), by omega, rfl, hlt, p'⟩, fun v H' y => ?_⟩
    obtain ⟨e, c, hc, rfl⟩ := y
    subst e
    exact hs i c σ _ (by rw [Array.getElem?_toList]; exact hc) p
  · have e : i = x.cps.size := by omega
    subst e
    exact .inl ⟨Nat.le_refl _, hd σ H (by rw [es]; exact p)⟩
theorem joinL0 : ∀ ps : List (List Nat), TL.joinL [] ps = ps.flatten
  | [] => rfl
  | [p] => by
    show p = p ++ []
    rw [List.append_nil]
  | p :: q :: r => by
    show p ++ ([] ++ TL.joinL [] (q :: r)) = p ++ (q :: r).flatten
    rw [joinL0 (q :: r), List.nil_append]
theorem join0 (ys : List Str) : Txt.join ⟨#[]⟩ ys = ⟨((ys.map TL.tl).flatten).toArray⟩ := by
  refine TL.ext_tl ?_
  rw [TL.join_eq, TL.tl_join]
  show TL.joinL [] _ = _
  rw [joinL0]
theorem flat_len : ∀ ys : List Str, ((ys.map TL.tl).flatten).length = (ys.map (·.length)).sum
  | [] => rfl
  | y :: ys => by
    rw [List.map_cons, List.flatten_cons, List.length_append, flat_len ys, List.map_cons, List.sum_cons]
    show y.cps.toList.length + _ = _
    rw [Array.length_toList]
    rfl
theorem S_len' (l : List Nat) : (⟨l.toArray⟩ : Str).length = l.length := by simp [Str.length]
theorem cut_to (l : List Nat) {o : Nat} (h : o ≤ l.length) : cutS ⟨l.toArray⟩ none (some (o : Int)) = ⟨(l.take o).toArray⟩ := by
  unfold cutS
  rw [HT.sIx_none, HT.sIx_nat, S_len', Nat.sub_zero, Nat.min_eq_left h]
  show (⟨((l.drop 0).take o).toArray⟩ : Str) = _
  rw [List.drop_zero]
theorem str1 (c : Nat) (d : Nat) : decide (V.str ⟨#[c]⟩ = V.str ⟨#[d]⟩) = decide (c = d) := by
  by_cases h : c = d
  · subst h
    rw [decide_eq_true rfl, decide_eq_true rfl]
  · rw [decide_eq_false h, decide_eq_false]
    intro e
    have e1 := V.str.inj e
    have e2 := Array.toList_inj.mpr (Str.mk.inj e1)
    exact h (by simpa using e2)
def tx (l : List Nat) : V := .str ⟨l.toArray⟩
/-- a comprehension's scope within another scope -/
def relS (scope sc : Scope) : Scope := { scope with names := scope.names.map fun (n, k) => if (k == .free && sc.kind == .function && sc.names.lookup n == some .cell) then (n, .cell) else (n, k) }
theorem anyK {X : Cx} (K : PySem.W.Frag) (hc : X.calm = true) (h : X.K = K := by rfl) : CallR X (.builtin "any") (rAny K) := by subst h; exact cr_any hc
theorem pi_listK {X : Cx} (K : PySem.W.Frag) {l tg : Expr} {tl : TE} (hl : PE X l tl) (h : X.K = K := by rfl) : PI X tg l (iList K tl) := by subst h; exact pi_list hl
theorem pi_tupK {X : Cx} (K : PySem.W.Frag) {l tg : Expr} {tl : TE} (hl : PE X l tl) (h : X.K = K := by rfl) : PI X tg l (iTup K tl) := by subst h; exact pi_tup hl

structure Mg (mg : Str → Option Value) : Prop where
  abs : mg "abs" = none
  all : mg "all" = none
  any : mg "any" = none
  bool : mg "bool" = none
  enumerate : mg "enumerate" = none
  int : mg "int" = none
  isinstance : mg "isinstance" = none
  len : mg "len" = none
  list : mg "list" = none
  max : mg "max" = none
  min : mg "min" = none
  range : mg "range" = none
  set : mg "set" = none
  sorted : mg "sorted" = none
  str : mg "str" = none
  tuple : mg "tuple" = none
/-! ### the law's draws: a list of the script's copy, a place in it, what is left of a great number, a seed -/
def Dr (H : Hp) (d c : Addr) : Prop := c ≠ d ∧ ∃ (ns : List Int) (pos rest seed : Int), H d = some (.lst [.ref c, .int pos, .int rest, .int seed]) ∧ H c = some (.lst (ns.map V.int)) ∧ 0 ≤ pos ∧ 0 ≤ rest ∧ 0 ≤ seed ∧ seed < 2147483647
theorem Dr.ext {H H' : Hp} {d c : Addr} (h : Dr H d c) (e : Same H H') : Dr H' d c := by
  obtain ⟨n, ns, pos, rest, seed, h1, h2, r⟩ := h
  exact ⟨n, ns, pos, rest, seed, e _ _ h1, e _ _ h2, r⟩
theorem Dr.upd {H : Hp} {d c p : Addr} {o : HO} (h : Dr H d c) (n1 : p ≠ d) (n2 : p ≠ c) : Dr (upd H p o) d c := by
  obtain ⟨n, ns, pos, rest, seed, h1, h2, r⟩ := h
  exact ⟨n, ns, pos, rest, seed, by rw [upd_ne n1.symm]; exact h1, by rw [upd_ne n2.symm]; exact h2, r⟩
theorem Dr.nd {H : Hp} {d c p : Addr} (h : Dr H d c) (n : H p = none) : p ≠ d := by
  obtain ⟨_, ns, pos, rest, seed, h1, _⟩ := h
  exact (ne_of_none h1 n).symm
theorem Dr.nc {H : Hp} {d c p : Addr} (h : Dr H d c) (n : H p = none) : p ≠ c := by
  obtain ⟨_, ns, pos, rest, seed, _, h2, _⟩ := h
  exact (ne_of_none h2 n).symm
theorem Dr.lst {H : Hp} {d c : Addr} (h : Dr H d c) : ∃ zs, H d = some (.lst zs) := by
  obtain ⟨_, ns, pos, rest, seed, h1, _⟩ := h
  exact ⟨_, h1⟩
theorem Dr.lift {H H' : Hp} {d c d' c' : Addr} (_h : Dr H d c) (h' : Dr H' d' c') : Dr H' d' c' := h'
def sp_draw (K : PySem.W.Frag) : Sp := fun vs H Q _ => ∃ (a : Addr) (ns : List Int), vs = [.ref a] ∧ SqL K H a (ns.map V.int) ∧ ∀ H' d c, Same H H' → H d = none → Dr H' d c → Q (.ref d) H'
/-- a draw: some number below many -/
def sp_next : Sp := fun vs H Q _ => ∃ (d c : Addr) (many : Int), vs = [.ref d, .int many] ∧ Dr H d c ∧ 1 ≤ many ∧ many < 2 ^ 64 ∧ ∀ H' r, Fd d H H' → (∀ p, p ≠ d → H' p = H p) → Dr H' d c → 0 ≤ r → r < many → Q (.int r) H'
section
variable {P : Program} {w : World} {K : PySem.W.Frag} {mg : Str → Option Value} {base : Heap}
theorem ok_draw {f : Addr} {fd : FuncData} (F : Fun K "_law_draw" "_law_draw" s__law_draw f fd) (M : Mg mg) : FnOk P w K mg base CX0 1 f fd ["script"] (sp_draw K) := by
  refine F.ok sc__law_draw (fun vs H Q E h => ?_) (fun cdv A outer s H vs Q E hr h => ?_)
  · obtain ⟨a, ns, rfl, _⟩ := h
    rfl
  · obtain ⟨a, ns, rfl, hS, q⟩ := h
    refine ⟨_, (pss_one (ps_ret (pe_lst (pa_cons (pe_callTy (listK K) (by rfl) M.list (by decide +kernel) (pa_cons (pv 0) pa_nil)) (pa_cons pe_int (pa_cons pe_int (pa_cons pe_int pa_nil))))))), ?_⟩
    refine ⟨_, rfl, a, _, rfl, .inl hS, fun c nc => ?_⟩
    refine ⟨by show 4 ≤ sizeLine; decide, fun d nd => ?_⟩
    have hc : (upd H c (.lst (ns.map V.int))) c = some (.lst (ns.map V.int)) := upd_same
    have ncd : c ≠ d := ne_of_none hc nd
    have s1 := (same_upd nc (o := .lst (ns.map V.int))).trans (same_upd nd (o := .lst [.ref c, .int 0, .int 0, .int 17]))
    refine q _ d c s1 ((same_upd nc).free nd) ⟨ncd, ns, 0, 0, 17, upd_same, ?_, by decide, by decide, by decide, by decide⟩
    rw [upd_ne ncd]
    exact hc
theorem next_aux {H : Hp} {d c : Addr} {xs' : List V} {pos rest seed : Int} {ns : List Int} (hn : c ≠ d) (h2 : H c = some (.lst (ns.map V.int))) (hx : xs' = [.ref c, .int pos, .int rest, .int seed]) (h0 : 0 ≤ pos) (h1 : 0 ≤ rest) (h3 : 0 ≤ seed) (h4 : seed < 2147483647) : Dr (upd H d (.lst xs')) d c := by
  subst hx
  refine ⟨hn, ns, pos, rest, seed, upd_same, ?_, h0, h1, h3, h4⟩
  rw [upd_ne hn]
  exact h2
theorem ok_next {f : Addr} {fd : FuncData} (F : Fun K "_law_next" "_law_next" s__law_next f fd) (M : Mg mg) : FnOk P w K mg base CX0 1 f fd ["draw", "many"] sp_next := by
  refine F.ok sc__law_next (fun vs H Q E h => ?_) (fun cdv A outer s H vs Q E hr h => ?_)
  · obtain ⟨d, c, many, rfl, _⟩ := h
    rfl
  · obtain ⟨d, c, many, rfl, ⟨ncd, ns, pos, rest, seed, h1, h2, h0, h3, h4, h5⟩, hm1, hm2, q⟩ := h
    have hdv : ∀ x : Int, CDivW x many := fun x => wide_div (b := 64) (by omega) (by omega) (by decide) (by decide)
    have hcd : d ≠ c := ncd.symm
    have L0 : SqL K H d [.ref c, .int pos, .int rest, .int seed] := .of h1
    have at0 : ∀ (a b e g : V), atI [a, b, e, g] (0 : Int) = some a := fun a b e g => atI_nat (j := 0) rfl
    have at1 : ∀ (a b e g : V), atI [a, b, e, g] (1 : Int) = some b := fun a b e g => atI_nat (j := 1) rfl
    have at2 : ∀ (a b e g : V), atI [a, b, e, g] (2 : Int) = some e := fun a b e g => atI_nat (j := 2) rfl
    have at3 : ∀ (a b e g : V), atI [a, b, e, g] (3 : Int) = some g := fun a b e g => atI_nat (j := 3) rfl
    have fr : ∀ (H0 : Hp) (o : HO), (∀ p, p ≠ d → H0 p = H p) → (∀ p, p ≠ d → (upd H0 d o) p = H p) := fun H0 o e p n => by rw [upd_ne n]; exact e p n
    have fF : ∀ (H0 : Hp), (∀ p, p ≠ d → H0 p = H p) → Fd d H H0 := fun H0 e b o n h => by rw [e b n]; exact h
    -- the last row's value
    have last : ∀ (seed' : Int), 0 ≤ seed' → seed' < 2147483647 → ∀ H0 : Hp, (∀ p, p ≠ d → H0 p = H p) → (∃ pos rest, H0 d = some (.lst [.ref c, .int pos, .int rest, .int seed']) ∧ 0 ≤ pos ∧ 0 ≤ rest) → Q (.int ((seed' * 69621 % 2147483629 / 7) % many)) H0 := by
      intro seed' g0 g1 H0 e ⟨pos', rest', g2, g3, g4⟩
      exact q H0 _ (fF _ e) e ⟨ncd, ns, pos', rest', seed', g2, by rw [e c ncd]; exact h2, g3, g4, g0, g1⟩ (Int.emod_nonneg _ (by omega)) (Int.emod_lt_of_pos _ (by omega))
    refine ⟨_, (pss_cons (ps_if (pt_cmpR op_gt (pe_ix (ix_listK K) (pv 0) pe_int (fun _ _ => rfl)) pe_int (nomark _)) (pss_cons (ps_set (i := 2) sc__law_next.nd rfl (.inl rfl) (pe_op op_mod (pe_callTy call_int1 (by rfl) M.int (by decide +kernel) (pa_cons (pe_ix (ix_listK K) (pv 0) pe_int (fun _ _ => rfl)) pa_nil)) (pv 1)))
      (pss_cons (ps_asg (pe_op op_fdivW (pe_ix (ix_listK K) (pv 0) pe_int (fun _ _ => rfl)) (pv 1)) (pg_sub (pv 0) pe_int set_list))
      (pss_one (ps_ret (pv 2))))) pss_nil)
      (pss_cons (ps_if (pt_cmpR op_lt (pe_ix (ix_listK K) (pv 0) pe_int (fun _ _ => rfl)) (pe_callB (len_seqK K) (by rfl) M.len PySem.boot_len (pa_cons (pe_ix (ix_listK K) (pv 0) pe_int (fun _ _ => rfl)) pa_nil)) (nomark _)) (pss_cons (ps_set (i := 3) sc__law_next.nd rfl (.inl rfl) (pe_callB call_abs (by rfl) M.abs (by decide +kernel) (pa_cons (pe_ix (ix_listK K) (pe_ix (ix_listK K) (pv 0) pe_int (fun _ _ => rfl)) (pe_ix (ix_listK K) (pv 0) pe_int (fun _ _ => rfl)) (fun _ _ => rfl)) pa_nil)))
      (pss_cons (ps_asg (pe_op op_add (pe_ix (ix_listK K) (pv 0) pe_int (fun _ _ => rfl)) pe_int) (pg_sub (pv 0) pe_int set_list))
      (pss_cons (ps_if (pt_cmpR op_ge (pv 3) (pe_op op_pow pe_int pe_int) (nomark _)) (pss_cons (ps_asg (pe_op op_fdivW (pv 3) (pv 1)) (pg_sub (pv 0) pe_int set_list))
      (pss_one (ps_ret (pe_op op_mod (pe_callTy call_int1 (by rfl) M.int (by decide +kernel) (pa_cons (pv 3) pa_nil)) (pv 1))))) pss_nil)
      (pss_one (ps_asg (pe_op op_mod (pe_callTy call_int1 (by rfl) M.int (by decide +kernel) (pa_cons (pe_op op_add (pe_op op_add (pe_op op_mul (pe_ix (ix_listK K) (pv 0) pe_int (fun _ _ => rfl)) pe_int) (pv 3)) pe_int) pa_nil)) pe_int) (pg_sub (pv 0) pe_int set_list)))))) (pss_one (ps_asg (pe_op op_mod (pe_callTy call_int1 (by rfl) M.int (by decide +kernel) (pa_cons (pe_op op_add (pe_op op_mul (pe_ix (ix_listK K) (pv 0) pe_int (fun _ _ => rfl)) pe_int) pe_int) pa_nil)) pe_int) (pg_sub (pv 0) pe_int set_list))))
      (pss_one (ps_ret (pe_op op_mod (pe_op op_fdivW (pe_callTy call_int1 (by rfl) M.int (by decide +kernel) (pa_cons (pe_op op_mod (pe_op op_mul (pe_ix (ix_listK K) (pv 0) pe_int (fun _ _ => rfl)) pe_int) pe_int) pa_nil)) pe_int) (pv 1)))))), ?_⟩
    refine ⟨_, rfl, d, _, 2, .int rest, rfl, rfl, L0, at2 .., ?_⟩
    refine ⟨_, _, rfl, rfl, _, rfl, ite2 (fun e => ?_) (fun e => ?_)⟩
    · -- draw[2] > 0
      have hr0 : 0 < rest := of_decide_eq_true e
      refine ⟨_, rfl, d, _, 2, .int rest, rfl, rfl, L0, at2 .., .inl ⟨_, rfl, ?_⟩⟩
      refine ⟨_, rfl, _, _, rfl, rfl, by omega, ?_⟩
      refine ⟨_, rfl, d, _, 2, .int rest, rfl, rfl, L0, at2 .., ?_⟩
      refine ⟨_, rfl, _, _, rfl, rfl, hdv _, ?_⟩
      refine ⟨_, rfl, d, _, 2, 2, rfl, rfl, h1, rfl, ?_⟩
      refine ⟨_, rfl, ?_⟩
      have e1 := fr H (.lst ([.ref c, .int pos, .int rest, .int seed].set 2 (.int (rest / many)))) (fun _ _ => rfl)
      exact q _ _ (fF _ e1) e1 (next_aux ncd h2 rfl h0 (Int.ediv_nonneg h3 (by omega)) h4 h5) (Int.emod_nonneg _ (by omega)) (Int.emod_lt_of_pos _ (by omega))
    · refine ⟨_, rfl, d, _, 1, .int pos, rfl, rfl, L0, at1 .., ?_⟩
      refine ⟨_, rfl, d, _, 0, .ref c, rfl, rfl, L0, at0 .., ?_⟩
      refine ⟨c, _, rfl, .inl (.of h2), ?_⟩
      refine ⟨_, _, rfl, rfl, _, rfl, ite2 (fun e2 => ?_) (fun e2 => ?_)⟩
      · have hp : pos < ((ns.map V.int).length : Int) := of_decide_eq_true e2
        rw [List.length_map] at hp
        obtain ⟨i, rfl⟩ := Int.eq_ofNat_of_zero_le h0
        have hi : i < ns.length := by omega
        have hat : atI (ns.map V.int) ((i : Nat) : Int) = some (.int ns[i]) := atI_nat (by rw [List.getElem?_map, List.getElem?_eq_getElem hi]; rfl)
        -- cell = abs(..)
        refine ⟨_, rfl, d, _, 0, .ref c, rfl, rfl, L0, at0 .., ?_⟩
        refine ⟨_, rfl, d, _, 1, _, rfl, rfl, L0, at1 .., ?_⟩
        refine ⟨c, _, _, _, rfl, rfl, .of h2, hat, ?_⟩
        refine ⟨_, rfl, ?_⟩
        have hcell : (0 : Int) ≤ (if ns[i] < 0 then -ns[i] else ns[i]) := by split <;> omega
        generalize (if ns[i] < 0 then -ns[i] else ns[i]) = cell at hcell
        -- draw[1] = draw[1] + 1
        refine ⟨_, rfl, d, _, 1, _, rfl, rfl, L0, at1 .., ?_⟩
        refine ⟨_, _, rfl, rfl, ?_⟩
        refine ⟨_, rfl, d, _, 1, 1, rfl, rfl, h1, rfl, ?_⟩
        have hd1 : (upd H d (.lst ([.ref c, .int ((i : Nat) : Int), .int rest, .int seed].set 1 (.int ((i : Nat) + 1))))) d = some (.lst [.ref c, .int ((i : Nat) + 1), .int rest, .int seed]) := upd_same
        have e1 := fr H (.lst ([.ref c, .int ((i : Nat) : Int), .int rest, .int seed].set 1 (.int ((i : Nat) + 1)))) (fun _ _ => rfl)
        generalize upd H d (.lst ([.ref c, .int ((i : Nat) : Int), .int rest, .int seed].set 1 (.int ((i : Nat) + 1)))) = H1 at hd1 e1
        have h2' : H1 c = some (.lst (ns.map V.int)) := by rw [e1 c ncd]; exact h2
        -- cell >= 10 ** 18
        refine ⟨_, rfl, _, _, rfl, rfl, ⟨by decide, by decide, by decide⟩, ?_⟩
        refine ⟨_, _, rfl, rfl, _, rfl, ite2 (fun e3 => ?_) (fun e3 => ?_)⟩
        · refine ⟨_, rfl, _, rfl, _, _, rfl, rfl, hdv _, ?_⟩
          refine ⟨_, rfl, d, _, 2, 2, rfl, rfl, hd1, rfl, ?_⟩
          refine ⟨_, rfl, .inl ⟨_, rfl, ?_⟩⟩
          refine ⟨_, rfl, _, _, rfl, rfl, by omega, ?_⟩
          have e5 := fr H1 (.lst ([.ref c, .int ((i : Nat) + 1), .int rest, .int seed].set 2 (.int (cell / many)))) e1
          exact q _ _ (fF _ e5) e5 (next_aux ncd h2' rfl (by omega) (Int.ediv_nonneg hcell (by omega)) h4 h5) (Int.emod_nonneg _ (by omega)) (Int.emod_lt_of_pos _ (by omega))
        · -- draw[3] = ..
          refine ⟨_, rfl, d, _, 3, .int seed, rfl, rfl, .of hd1, at3 .., ?_⟩
          refine ⟨_, _, rfl, rfl, .inl ⟨by omega, by omega⟩, ?_⟩
          refine ⟨_, rfl, _, _, rfl, rfl, ?_⟩
          refine ⟨_, _, rfl, rfl, .inl ⟨_, rfl, ?_⟩⟩
          refine ⟨_, _, rfl, rfl, by show (0 : Int) < 2147483647; decide, ?_⟩
          refine ⟨_, rfl, d, _, 3, 3, rfl, rfl, hd1, rfl, ?_⟩
          have hs0 : 0 ≤ (seed * 48271 + cell + 11) % 2147483647 := Int.emod_nonneg _ (by decide)
          have hs1 : (seed * 48271 + cell + 11) % 2147483647 < 2147483647 := Int.emod_lt_of_pos _ (by decide)
          have e5 := fr H1 (.lst ([.ref c, .int ((i : Nat) + 1), .int rest, .int seed].set 3 (.int ((seed * 48271 + cell + 11) % 2147483647)))) e1
          have hd5 : (upd H1 d (.lst ([.ref c, .int ((i : Nat) + 1), .int rest, .int seed].set 3 (.int ((seed * 48271 + cell + 11) % 2147483647))))) d = some (.lst [.ref c, .int ((i : Nat) + 1), .int rest, .int ((seed * 48271 + cell + 11) % 2147483647)]) := upd_same
          dsimp only
          generalize (seed * 48271 + cell + 11) % 2147483647 = seed' at hs0 hs1 e5 hd5 ⊢
          refine ⟨_, rfl, d, _, 3, .int seed', rfl, rfl, .of hd5, at3 .., ?_⟩
          refine ⟨_, _, rfl, rfl, .inl ⟨by omega, by omega⟩, ?_⟩
          refine ⟨_, _, rfl, rfl, by show (0 : Int) < 2147483629; decide, .inl ⟨_, rfl, ?_⟩⟩
          refine ⟨_, _, rfl, rfl, ⟨by decide, by decide⟩, ?_⟩
          refine ⟨_, rfl, _, _, rfl, rfl, by omega, ?_⟩
          exact last seed' hs0 hs1 _ e5 ⟨_, _, hd5, by omega, h3⟩
      · -- draw[3] = ..
        refine ⟨_, rfl, d, _, 3, .int seed, rfl, rfl, L0, at3 .., ?_⟩
        refine ⟨_, _, rfl, rfl, .inl ⟨by omega, by omega⟩, ?_⟩
        refine ⟨_, _, rfl, rfl, .inl ⟨_, rfl, ?_⟩⟩
        refine ⟨_, _, rfl, rfl, by show (0 : Int) < 2147483647; decide, ?_⟩
        refine ⟨_, rfl, d, _, 3, 3, rfl, rfl, h1, rfl, ?_⟩
        have hs0 : 0 ≤ (seed * 48271 + 12345) % 2147483647 := Int.emod_nonneg _ (by decide)
        have hs1 : (seed * 48271 + 12345) % 2147483647 < 2147483647 := Int.emod_lt_of_pos _ (by decide)
        have e5 := fr H (.lst ([.ref c, .int pos, .int rest, .int seed].set 3 (.int ((seed * 48271 + 12345) % 2147483647)))) (fun _ _ => rfl)
        have hd5 : (upd H d (.lst ([.ref c, .int pos, .int rest, .int seed].set 3 (.int ((seed * 48271 + 12345) % 2147483647))))) d = some (.lst [.ref c, .int pos, .int rest, .int ((seed * 48271 + 12345) % 2147483647)]) := upd_same
        dsimp only
        generalize (seed * 48271 + 12345) % 2147483647 = seed' at hs0 hs1 e5 hd5 ⊢
        refine ⟨_, rfl, d, _, 3, .int seed', rfl, rfl, .of hd5, at3 .., ?_⟩
        refine ⟨_, _, rfl, rfl, .inl ⟨by omega, by omega⟩, ?_⟩
        refine ⟨_, _, rfl, rfl, by show (0 : Int) < 2147483629; decide, .inl ⟨_, rfl, ?_⟩⟩
        refine ⟨_, _, rfl, rfl, ⟨by decide, by decide⟩, ?_⟩
        refine ⟨_, rfl, _, _, rfl, rfl, by omega, ?_⟩
        exact last seed' hs0 hs1 _ e5 ⟨_, _, hd5, h0, h3⟩
end

/-! ### data in the heap -/
theorem SqT.ext {K : PySem.W.Frag} {H H' : Hp} {a : Addr} {xs : List V} (e : Same H H') (h : SqT K H a xs) : SqT K H' a xs := by
  rcases h with (h | ⟨o, h⟩) | h
  · exact .inl (.inl (e _ _ h))
  · exact .inl (.inr ⟨o, e _ _ h⟩)
  · exact .inr h
mutual
theorem Dp.ext {K : PySem.W.Frag} {H H' : Hp} (e : Same H H') : ∀ (d : PyData) (v : V), Dp K H v d → Dp K H' v d
  | .none, _, h => by cases h; exact .non
  | .bool b, _, h => by cases h; exact .bl b
  | .int i, _, h => by cases h; exact .int i
  | .str x, _, h => by cases h; exact .str x
  | .list ds, _, h => by
    cases h with
    | lst hs ha => exact .lst (e.seq hs) (DpAll.ext e ds _ ha)
  | .tuple ds, _, h => by
    cases h with
    | tup hs ha => exact .tup (SqT.ext e hs) (DpAll.ext e ds _ ha)
  | .dict _, _, h => by cases h
theorem DpAll.ext {K : PySem.W.Frag} {H H' : Hp} (e : Same H H') : ∀ (ds : List PyData) (vs : List V), DpAll K H vs ds → DpAll K H' vs ds
  | [], _, h => by cases h; exact .nil
  | d :: ds, _, h => by
    cases h with
    | cons h1 h2 => exact .cons (Dp.ext e d _ h1) (DpAll.ext e ds _ h2)
end
theorem DpAll.len {K : PySem.W.Frag} {H : Hp} : ∀ {ds : List PyData} {vs : List V}, DpAll K H vs ds → vs.length = ds.length
  | [], _, h => by cases h; rfl
  | d :: ds, _, h => by
    cases h with
    | cons h1 h2 => exact congrArg (· + 1) (DpAll.len h2)
theorem DpAll.get {K : PySem.W.Frag} {H : Hp} : ∀ {ds : List PyData} {vs : List V} {i : Nat} {d : PyData}, DpAll K H vs ds → ds[i]? = some d → ∃ v, vs[i]? = some v ∧ Dp K H v d
  | [], _, _, _, _, e => by simp at e
  | x :: ds, _, 0, d, h, e => by
    cases h with
    | cons h1 h2 =>
      have e1 : x = d := Option.some.inj e
      subst e1
      exact ⟨_, rfl, h1⟩
  | x :: ds, _, i + 1, d, h, e => by
    cases h with
    | cons h1 h2 =>
      obtain ⟨v, hv, hd⟩ := DpAll.get (i := i) h2 (by simpa using e)
      exact ⟨v, by simpa using hv, hd⟩
theorem tyL {K : PySem.W.Frag} {H : Hp} {a : Addr} {xs : List V} (h : SqL K H a xs) : TyX K H (.ref a) (.type "list") := by
  rcases h with (h | ⟨o, h⟩) | ⟨o, its, n, h, c, _⟩
  · exact .base (.lst h)
  · exact .base (.frz h)
  · exact .kList h c
theorem tyT {K : PySem.W.Frag} {H : Hp} {a : Addr} {xs : List V} (h : SqT K H a xs) : TyX K H (.ref a) (.type "tuple") := by
  rcases h with (h | ⟨o, h⟩) | ⟨o, its, n, h, c, _⟩
  · exact .base (.tup h)
  · exact .fTuple h
  · exact .kTuple h c
mutual
/-- no list within -/
def tupOnly : PyData → Bool
  | .list _ => false
  | .dict _ => false
  | .tuple ds => tupOnlys ds
  | _ => true
def tupOnlys : List PyData → Bool
  | [] => true
  | d :: ds => tupOnly d && tupOnlys ds
end
mutual
theorem Dp.away {K : PySem.W.Frag} {H : Hp} {D : Addr} {zs : List V} {o : HO} (hD : H D = some (.lst zs)) : ∀ (d : PyData) (v : V), tupOnly d = true → Dp K H v d → Dp K (upd H D o) v d
  | .none, _, _, h => by cases h; exact .non
  | .bool b, _, _, h => by cases h; exact .bl b
  | .int i, _, _, h => by cases h; exact .int i
  | .str x, _, _, h => by cases h; exact .str x
  | .list ds, _, e, _ => by unfold tupOnly at e; cases e
  | .tuple ds, _, e, h => by
    unfold tupOnly at e
    cases h with
    | @tup a _ _ hs ha =>
      refine .tup ?_ (DpAll.away hD ds _ e ha)
      rcases hs with (hs | ⟨o', hs⟩) | hs
      · exact .inl (.inl (by rw [upd_ne (ne_of hs hD (fun z => nomatch z))]; exact hs))
      · exact .inl (.inr ⟨o', by rw [upd_ne (ne_of hs hD (fun z => nomatch z))]; exact hs⟩)
      · exact .inr hs
  | .dict _, _, _, h => by cases h
theorem DpAll.away {K : PySem.W.Frag} {H : Hp} {D : Addr} {zs : List V} {o : HO} (hD : H D = some (.lst zs)) : ∀ (ds : List PyData) (vs : List V), tupOnlys ds = true → DpAll K H vs ds → DpAll K (upd H D o) vs ds
  | [], _, _, h => by cases h; exact .nil
  | d :: ds, _, e, h => by
    unfold tupOnlys at e
    rw [Bool.and_eq_true] at e
    cases h with
    | cons h1 h2 => exact .cons (Dp.away hD d _ e.1 h1) (DpAll.away hD ds _ e.2 h2)
end
theorem DpAll.snoc {K : PySem.W.Frag} {H : Hp} : ∀ {ds : List PyData} {xs : List V} {v : V} {d : PyData}, DpAll K H xs ds → Dp K H v d → DpAll K H (xs ++ [v]) (ds ++ [d])
  | [], _, _, _, h, h2 => by cases h; exact .cons h2 .nil
  | _ :: ds, _, _, _, h, h2 => by
    cases h with
    | cons a b => exact .cons a (DpAll.snoc b h2)
theorem at_0 {α : Type} {xs : List α} {i : Nat} {v : α} (h : xs[i]? = some v) : atI xs (0 + (i : Int)) = some v := by
  rw [Int.zero_add]
  exact atI_nat h
mutual
/-- what is made of tuples stands when another list is changed -/
theorem Dp.fd {K : PySem.W.Frag} {H H' : Hp} {D : Addr} (hD : ∃ zs, H D = some (.lst zs)) (e : Fd D H H') : ∀ (d : PyData) (v : V), tupOnly d = true → Dp K H v d → Dp K H' v d
  | .none, _, _, h => by cases h; exact .non
  | .bool b, _, _, h => by cases h; exact .bl b
  | .int i, _, _, h => by cases h; exact .int i
  | .str x, _, _, h => by cases h; exact .str x
  | .list ds, _, e, _ => by unfold tupOnly at e; cases e
  | .tuple ds, _, e', h => by
    unfold tupOnly at e'
    obtain ⟨zs, hz⟩ := hD
    cases h with
    | @tup a _ _ hs ha =>
      refine .tup ?_ (DpAll.fd ⟨zs, hz⟩ e ds _ e' ha)
      rcases hs with (hs | ⟨o', hs⟩) | hs
      · exact .inl (.inl (e _ _ (ne_of hs hz (fun z => nomatch z)) hs))
      · exact .inl (.inr ⟨o', e _ _ (ne_of hs hz (fun z => nomatch z)) hs⟩)
      · exact .inr hs
  | .dict _, _, _, h => by cases h
theorem DpAll.fd {K : PySem.W.Frag} {H H' : Hp} {D : Addr} (hD : ∃ zs, H D = some (.lst zs)) (e : Fd D H H') : ∀ (ds : List PyData) (vs : List V), tupOnlys ds = true → DpAll K H vs ds → DpAll K H' vs ds
  | [], _, _, h => by cases h; exact .nil
  | d :: ds, _, e', h => by
    unfold tupOnlys at e'
    rw [Bool.and_eq_true] at e'
    cases h with
    | cons h1 h2 => exact .cons (Dp.fd hD e d _ e'.1 h1) (DpAll.fd hD e ds _ e'.2 h2)
end

/-! ### diagrams as trees -/
inductive Bd where
  | lf (b : Bool)
  | nd (e : Int) (w t : Bd)
deriving DecidableEq
def Bd.ev : Bd → (Int → Bool) → Bool
  | .lf b, _ => b
  | .nd e w t, r => if r e = true then t.ev r else w.ev r
/-- its questions ascend, they are all of the list; both sides of a node differ -/
inductive Wf : List Int → Bd → Prop
  | lf {es b} : Wf es (.lf b)
  | here {x es w t} : Wf es w → Wf es t → w ≠ t → Wf (x :: es) (.nd x w t)
  | skip {x es a} : Wf es a → Wf (x :: es) a
def setR (r : Int → Bool) (x : Int) (b : Bool) : Int → Bool := fun y => if y = x then b else r y
theorem setR_same (r : Int → Bool) (x : Int) (b : Bool) : setR r x b x = b := if_pos rfl
theorem setR_ne {r : Int → Bool} {x y : Int} {b : Bool} (h : y ≠ x) : setR r x b y = r y := if_neg h
theorem Wf.away {es : List Int} {a : Bd} (h : Wf es a) : ∀ {x : Int} {b : Bool} {r : Int → Bool}, x ∉ es → a.ev (setR r x b) = a.ev r := by
  induction h with
  | lf => intros; rfl
  | @here y es w t _ _ _ iw it =>
    intro x b r hx
    rw [List.mem_cons, not_or] at hx
    show (if setR r x b y = true then t.ev (setR r x b) else w.ev (setR r x b)) = if r y = true then t.ev r else w.ev r
    rw [setR_ne (Ne.symm hx.1), iw hx.2, it hx.2]
  | @skip y es a _ ih =>
    intro x b r hx
    rw [List.mem_cons, not_or] at hx
    exact ih hx.2
/-- both sides at the question x, which no other one comes ahead of -/
def Bd.cw (x : Int) : Bd → Bd
  | .nd e w t => if e = x then w else .nd e w t
  | a => a
def Bd.ct (x : Int) : Bd → Bd
  | .nd e w t => if e = x then t else .nd e w t
  | a => a
theorem Wf.none_of {es : List Int} {x : Int} {w t : Bd} (h : Wf es (.nd x w t)) : x ∈ es := by
  generalize e : Bd.nd x w t = a at h
  induction h with
  | lf => cases e
  | here _ _ _ => cases e; exact List.mem_cons_self
  | skip _ ih => exact List.mem_cons_of_mem _ (ih e)
theorem Wf.cw {x : Int} {es : List Int} {a : Bd} (hx : x ∉ es) (h : Wf (x :: es) a) : Wf es (a.cw x) ∧ ∀ r, (a.cw x).ev r = a.ev (setR r x false) := by
  cases h with
  | lf => exact ⟨.lf, fun _ => rfl⟩
  | @here _ _ w t hw ht hn =>
    have e1 : (Bd.nd x w t).cw x = w := if_pos rfl
    rw [e1]
    refine ⟨hw, fun r => ?_⟩
    show _ = if setR r x false x = true then _ else _
    rw [setR_same, if_neg Bool.false_ne_true, hw.away hx]
  | skip h =>
    have e : a.cw x = a := by
      cases a with
      | lf b => rfl
      | nd y w t =>
        have hy := h.none_of
        exact if_neg (fun (z : y = x) => hx (z ▸ hy))
    rw [e]
    exact ⟨h, fun r => (h.away hx).symm⟩
theorem Wf.ct {x : Int} {es : List Int} {a : Bd} (hx : x ∉ es) (h : Wf (x :: es) a) : Wf es (a.ct x) ∧ ∀ r, (a.ct x).ev r = a.ev (setR r x true) := by
  cases h with
  | lf => exact ⟨.lf, fun _ => rfl⟩
  | @here _ _ w t hw ht hn =>
    have e1 : (Bd.nd x w t).ct x = t := if_pos rfl
    rw [e1]
    refine ⟨ht, fun r => ?_⟩
    show _ = if setR r x true x = true then _ else _
    rw [setR_same, if_pos rfl, ht.away hx]
  | skip h =>
    have e : a.ct x = a := by
      cases a with
      | lf b => rfl
      | nd y w t =>
        have hy := h.none_of
        exact if_neg (fun (z : y = x) => hx (z ▸ hy))
    rw [e]
    exact ⟨h, fun r => (h.away hx).symm⟩
theorem Wf.cwt_eq {x : Int} {es : List Int} {a : Bd} (hx : x ∉ es) (h : Wf (x :: es) a) : (a.cw x = a.ct x ↔ Wf es a) ∧ (a.cw x = a.ct x → a.cw x = a) ∧ (a.cw x ≠ a.ct x → a = .nd x (a.cw x) (a.ct x)) := by
  have key : ∀ {a : Bd}, Wf es a → a.cw x = a ∧ a.ct x = a := fun {a} h => by
    cases a with
    | lf b => exact ⟨rfl, rfl⟩
    | nd y w t =>
      have hy := h.none_of
      exact ⟨if_neg (fun (z : y = x) => hx (z ▸ hy)), if_neg (fun (z : y = x) => hx (z ▸ hy))⟩
  cases h with
  | lf => exact ⟨⟨fun _ => .lf, fun _ => rfl⟩, fun _ => rfl, fun n => absurd rfl n⟩
  | @here _ _ w t hw ht hn =>
    have e1 : (Bd.nd x w t).cw x = w := if_pos rfl
    have e2 : (Bd.nd x w t).ct x = t := if_pos rfl
    rw [e1, e2]
    exact ⟨⟨fun e => absurd e hn, fun h => absurd h.none_of hx⟩, fun e => absurd e hn, fun _ => rfl⟩
  | skip h =>
    obtain ⟨e1, e2⟩ := key h
    rw [e1, e2]
    exact ⟨⟨fun _ => h, fun _ => rfl⟩, fun _ => rfl, fun n => absurd rfl n⟩
/-- just one diagram for each condition -/
theorem canon : ∀ {es : List Int} {a b : Bd}, es.Nodup → Wf es a → Wf es b → (∀ r, a.ev r = b.ev r) → a = b
  | [], a, b, _, ha, hb, h => by
    cases ha
    cases hb
    exact congrArg Bd.lf (h fun _ => false)
  | x :: es, a, b, hn, ha, hb, h => by
    rw [List.nodup_cons] at hn
    have w := canon hn.2 (ha.cw hn.1).1 (hb.cw hn.1).1 fun r => by rw [(ha.cw hn.1).2, (hb.cw hn.1).2, h]
    have t := canon hn.2 (ha.ct hn.1).1 (hb.ct hn.1).1 fun r => by rw [(ha.ct hn.1).2, (hb.ct hn.1).2, h]
    obtain ⟨_, ea, na⟩ := ha.cwt_eq hn.1
    obtain ⟨_, eb, nb⟩ := hb.cwt_eq hn.1
    by_cases e : a.cw x = a.ct x
    · rw [← ea e, ← eb (by rw [← w, ← t, e]), w]
    · rw [na e, nb (by rw [← w, ← t]; exact e), w, t]
/-- a node, or what both sides are -/
def mkB (x : Int) (w t : Bd) : Bd := if w = t then w else .nd x w t
theorem mkB_wf {x : Int} {es : List Int} {w t : Bd} (hw : Wf es w) (ht : Wf es t) : Wf (x :: es) (mkB x w t) := by
  unfold mkB
  split
  · exact .skip hw
  · exact .here hw ht ‹_›
theorem mkB_ev {x : Int} {w t : Bd} (r : Int → Bool) : (mkB x w t).ev r = if r x = true then t.ev r else w.ev r := by
  unfold mkB
  split
  · rename_i h
    subst h
    split <;> rfl
  · rfl
/-! ### diagrams in a store: its nodes by their places -/
abbrev Nds := List (Int × Nat × Nat)
inductive At (N : Nds) : Nat → Bd → Prop
  | f : At N 0 (.lf false)
  | t : At N 1 (.lf true)
  | nd {k : Nat} {e : Int} {w t : Nat} {a b : Bd} : N[k]? = some (e, w, t) → At N w a → At N t b → At N (k + 2) (.nd e a b)
theorem At.mono {N M : Nds} {c : Nat} {a : Bd} (h : At N c a) : At (N ++ M) c a := by
  induction h with
  | f => exact .f
  | t => exact .t
  | nd hk _ _ ia ib => exact .nd (by rw [List.getElem?_append_left (List.getElem?_eq_some_iff.mp hk).1]; exact hk) ia ib
theorem At.fn {N : Nds} {c : Nat} {a : Bd} (h : At N c a) : ∀ {b : Bd}, At N c b → a = b := by
  induction h with
  | f => intro b hb; cases hb; rfl
  | t => intro b hb; cases hb; rfl
  | nd hk _ _ ia ib =>
    intro b hb
    cases hb with
    | nd hk2 ha2 hb2 =>
      have e := Option.some.inj (hk.symm.trans hk2)
      cases e
      have e1 := ia ha2
      have e2 := ib hb2
      rw [e1, e2]
theorem nodup_at {α : Type} : ∀ {l : List α} {i j : Nat} {x : α}, l.Nodup → l[i]? = some x → l[j]? = some x → i = j
  | [], _, _, _, _, h, _ => by simp at h
  | y :: l, 0, 0, _, _, _, _ => rfl
  | y :: l, 0, j + 1, x, hn, h1, h2 => by
    rw [List.nodup_cons] at hn
    have e : y = x := Option.some.inj h1
    have h2 : l[j]? = some x := by simpa using h2
    exact absurd (e ▸ List.mem_of_getElem? h2) hn.1
  | y :: l, i + 1, 0, x, hn, h1, h2 => by
    rw [List.nodup_cons] at hn
    have e : y = x := Option.some.inj h2
    have h1 : l[i]? = some x := by simpa using h1
    exact absurd (e ▸ List.mem_of_getElem? h1) hn.1
  | y :: l, i + 1, j + 1, x, hn, h1, h2 => by
    rw [List.nodup_cons] at hn
    exact congrArg (· + 1) (nodup_at hn.2 (by simpa using h1) (by simpa using h2))
theorem At.inj {N : Nds} (hn : N.Nodup) {c : Nat} {a : Bd} (h : At N c a) : ∀ {d : Nat}, At N d a → c = d := by
  induction h with
  | f => intro d hd; cases hd; rfl
  | t => intro d hd; cases hd; rfl
  | nd hk _ _ ia ib =>
    intro d hd
    cases hd with
    | nd hk2 ha2 hb2 =>
      have e1 := ia ha2
      have e2 := ib hb2
      subst e1 e2
      rw [nodup_at hn hk hk2]
theorem At.lt {N : Nds} {c : Nat} {a : Bd} (h : At N c a) : c < N.length + 2 := by
  cases h with
  | f => omega
  | t => omega
  | nd hk _ _ => have := (List.getElem?_eq_some_iff.mp hk).1; omega
theorem At.leaf {N : Nds} {c : Nat} {b : Bool} (h : At N c (.lf b)) : c = if b = true then 1 else 0 := by cases h <;> rfl
theorem At.ge {N : Nds} {c : Nat} {a : Bd} (h : At N c a) (h2 : 2 ≤ c) : ∃ e w t a1 b1, N[c - 2]? = some (e, w, t) ∧ At N w a1 ∧ At N t b1 ∧ a = .nd e a1 b1 := by
  cases h with
  | f => omega
  | t => omega
  | nd hk ha hb => exact ⟨_, _, _, _, _, hk, ha, hb, rfl⟩

/-! ### a store of diagrams in the heap -/
/-! ### what is made of tuples stands where all tuples stand -/
theorem SqT.tsn {K : PySem.W.Frag} {H H' : Hp} {a : Addr} {xs : List V} (e : ∀ b o, (∃ ys, o = HO.tup ys) ∨ (∃ q u, o = HO.frz q u) → H b = some o → H' b = some o) (h : SqT K H a xs) : SqT K H' a xs := by
  rcases h with (h | ⟨o, h⟩) | h
  · exact .inl (.inl (e _ _ (.inl ⟨_, rfl⟩) h))
  · exact .inl (.inr ⟨o, e _ _ (.inr ⟨_, _, rfl⟩) h⟩)
  · exact .inr h
mutual
/-- what is made of tuples stands where all tuples stand -/
theorem Dp.tsn {K : PySem.W.Frag} {H H' : Hp} (e : ∀ b o, (∃ ys, o = HO.tup ys) ∨ (∃ q u, o = HO.frz q u) → H b = some o → H' b = some o) : ∀ (d : PyData) (v : V), tupOnly d = true → Dp K H v d → Dp K H' v d
  | .none, _, _, h => by cases h; exact .non
  | .bool b, _, _, h => by cases h; exact .bl b
  | .int i, _, _, h => by cases h; exact .int i
  | .str x, _, _, h => by cases h; exact .str x
  | .list ds, _, e', _ => by unfold tupOnly at e'; cases e'
  | .tuple ds, _, e', h => by
    unfold tupOnly at e'
    cases h with
    | tup hs ha => exact .tup (SqT.tsn e hs) (DpAll.tsn e ds _ e' ha)
  | .dict _, _, _, h => by cases h
theorem DpAll.tsn {K : PySem.W.Frag} {H H' : Hp} (e : ∀ b o, (∃ ys, o = HO.tup ys) ∨ (∃ q u, o = HO.frz q u) → H b = some o → H' b = some o) : ∀ (ds : List PyData) (vs : List V), tupOnlys ds = true → DpAll K H vs ds → DpAll K H' vs ds
  | [], _, _, h => by cases h; exact .nil
  | d :: ds, _, e', h => by
    unfold tupOnlys at e'
    rw [Bool.and_eq_true] at e'
    cases h with
    | cons h1 h2 => exact .cons (Dp.tsn e d _ e'.1 h1) (DpAll.tsn e ds _ e'.2 h2)
end

/-- the instance, its list, its two dicts -/
structure SA where
  p : Addr
  k : Addr
  u : Addr
  m : Addr
def sfl (s : SA) : List (Str × V) := [("kept", .ref s.k), ("numbers", .ref s.u), ("combined", .ref s.m)]
theorem sf_kept (s : SA) : (sfl s).lookup ("kept" : Str) = some (.ref s.k) := rfl
theorem sf_num (s : SA) : (sfl s).lookup ("numbers" : Str) = some (.ref s.u) := rfl
theorem sf_comb (s : SA) : (sfl s).lookup ("combined" : Str) = some (.ref s.m) := rfl
theorem sf_no (s : SA) {m : Str} (h1 : (m == ("kept" : Str)) = false) (h2 : (m == ("numbers" : Str)) = false) (h3 : (m == ("combined" : Str)) = false) : (sfl s).lookup m = none := by
  unfold sfl
  simp only [List.lookup, h1, h2, h3]
/-- what stood stands, but for the store's list and dicts -/
def FdS (s : SA) (H H' : Hp) : Prop := ∀ b o, b ≠ s.k → b ≠ s.u → b ≠ s.m → H b = some o → H' b = some o
theorem FdS.refl (s : SA) (H : Hp) : FdS s H H := fun _ _ _ _ _ h => h
theorem FdS.trans {s : SA} {H H1 H2 : Hp} (a : FdS s H H1) (b : FdS s H1 H2) : FdS s H H2 := fun x o h1 h2 h3 h => b x o h1 h2 h3 (a x o h1 h2 h3 h)
theorem FdS.of {s : SA} {H H' : Hp} (a : Same H H') : FdS s H H' := fun x o _ _ _ h => a x o h
def nD (n : Int × Nat × Nat) : PyData := .tuple [.int n.1, .int (n.2.1 : Nat), .int (n.2.2 : Nat)]
theorem nD_only : ∀ N : Nds, tupOnlys (N.map nD) = true
  | [] => rfl
  | n :: N => by
    rw [List.map_cons]
    unfold tupOnlys
    rw [nD_only N]
    rfl
abbrev ky3 (a b c : Int) : List Key := [.inl a, .inl b, .inl c]
def NumsOk (N : Nds) (kvs : List (List Key × V)) : Prop := (∀ (e : Int) (w t : Nat), valV kvs (ky3 e w t) = none → (e, w, t) ∉ N) ∧ ∀ (e : Int) (w t : Nat) v, valV kvs (ky3 e w t) = some v → ∃ i : Nat, N[i]? = some (e, w, t) ∧ v = .int ((i + 2 : Nat) : Int)
/-- the diagram that is one of two, where a third one holds -/
def IsIte (es : List Int) (a b c d : Bd) : Prop := Wf es d ∧ ∀ r, d.ev r = if a.ev r = true then b.ev r else c.ev r
def MemoOk (N : Nds) (es : List Int) (cvs : List (List Key × V)) : Prop := ∀ (c a b : Nat) v, valV cvs (ky3 c a b) = some v → ∃ (r : Nat) (A B C T : Bd), v = .int (r : Int) ∧ At N c A ∧ At N a B ∧ At N b C ∧ At N r T ∧ IsIte es A B C T
def Sto (C : Addr) (K : PySem.W.Frag) (H : Hp) (s : SA) (N : Nds) (es : List Int) (L : Nat) : Prop :=
  (∃ dx, H s.p = some (.ins C dx (sfl s))) ∧ (∃ xs, H s.k = some (.lst xs) ∧ DpAll K H xs (N.map nD)) ∧ (∃ kvs, H s.u = some (.dT kvs) ∧ kvs.length ≤ N.length ∧ NumsOk N kvs) ∧
    (∃ cvs, H s.m = some (.dT cvs) ∧ cvs.length ≤ L ∧ MemoOk N es cvs) ∧ N.Nodup ∧ s.u ≠ s.m ∧ es.Pairwise (· < ·)
section
variable {C : Addr} {K : PySem.W.Frag} {H H' : Hp} {s : SA} {N : Nds} {es : List Int} {L : Nat}
theorem Sto.ins (h : Sto C K H s N es L) : ∃ dx, H s.p = some (.ins C dx (sfl s)) := h.1
theorem Sto.nd (h : Sto C K H s N es L) : N.Nodup := h.2.2.2.2.1
theorem Sto.srt (h : Sto C K H s N es L) : es.Pairwise (· < ·) := h.2.2.2.2.2.2
theorem Sto.es_nd (h : Sto C K H s N es L) : es.Nodup := h.srt.imp fun h => by omega
theorem Sto.ext (e : Same H H') (h : Sto C K H s N es L) : Sto C K H' s N es L := by
  obtain ⟨⟨dx, h1⟩, ⟨xs, h2, h3⟩, ⟨kvs, h4, h5⟩, ⟨cvs, h6, h7⟩, h8⟩ := h
  exact ⟨⟨dx, e _ _ h1⟩, ⟨xs, e _ _ h2, DpAll.ext e _ _ h3⟩, ⟨kvs, e _ _ h4, h5⟩, ⟨cvs, e _ _ h6, h7⟩, h8⟩
theorem Sto.tup (h : Sto C K H s N es L) (f : FdS s H H') : ∀ b o, (∃ ys, o = HO.tup ys) ∨ (∃ q u, o = HO.frz q u) → H b = some o → H' b = some o := by
  obtain ⟨_, ⟨xs, h2, _⟩, ⟨kvs, h4, _⟩, ⟨cvs, h6, _⟩, _⟩ := h
  rintro b o (⟨ys, rfl⟩ | ⟨q, u, rfl⟩) hb
  · exact f _ _ (ne_of hb h2 (fun z => nomatch z)) (ne_of hb h4 (fun z => nomatch z)) (ne_of hb h6 (fun z => nomatch z)) hb
  · exact f _ _ (ne_of hb h2 (fun z => nomatch z)) (ne_of hb h4 (fun z => nomatch z)) (ne_of hb h6 (fun z => nomatch z)) hb
theorem Sto.dp (h : Sto C K H s N es L) (f : FdS s H H') {d : PyData} {v : V} (ht : tupOnly d = true) (hd : Dp K H v d) : Dp K H' v d := Dp.tsn (h.tup f) d v ht hd
theorem Sto.at (h : Sto C K H s N es L) {c : Nat} {n : Int × Nat × Nat} (h2 : 2 ≤ c) (hn : N[c - 2]? = some n) : ∃ dx xs q, H s.p = some (.ins C dx (sfl s)) ∧ SqL K H s.k xs ∧ atI xs ((c : Int) - 2) = some (.ref q) ∧ SqT K H q [.int n.1, .int (n.2.1 : Nat), .int (n.2.2 : Nat)] := by
  obtain ⟨⟨dx, h1⟩, ⟨xs, h3, h4⟩, _⟩ := h
  obtain ⟨v, hv, hd⟩ := DpAll.get h4 (show (N.map nD)[c - 2]? = some (nD n) by rw [List.getElem?_map, hn]; rfl)
  have e : (c : Int) - 2 = ((c - 2 : Nat) : Int) := by omega
  cases hd with
  | @tup q _ _ hs ha =>
    cases ha with
    | cons g1 g2 =>
      cases g1
      cases g2 with
      | cons g3 g4 =>
        cases g3
        cases g4 with
        | cons g5 g6 =>
          cases g5
          cases g6
          exact ⟨dx, xs, q, h1, .of h3, by rw [e]; exact atI_nat hv, hs⟩
end
theorem NumsOk.snoc {N : Nds} {kvs : List (List Key × V)} (h : NumsOk N kvs) {e : Int} {w t : Nat} (hn : valV kvs (ky3 e w t) = none) : NumsOk (N ++ [(e, w, t)]) (putK kvs (ky3 e w t) (.int ((N.length + 2 : Nat) : Int))) := by
  have inj : ∀ {e' : Int} {w' t' : Nat}, ky3 e' w' t' = ky3 e w t → (e', w', t') = (e, w, t) := by
    intro e' w' t' h
    injection h with h1 h2
    injection h2 with h2 h3
    injection h3 with h3 _
    injection h1 with h1
    injection h2 with h2
    injection h3 with h3
    have : w' = w := by omega
    have : t' = t := by omega
    subst_vars
    rfl
  refine ⟨fun e' w' t' h' hm => ?_, fun e' w' t' v h' => ?_⟩
  · rw [valV_put] at h'
    split at h'
    · cases h'
    · rename_i hne
      rcases List.mem_append.mp hm with hm | hm
      · exact h.1 _ _ _ h' hm
      · rw [List.mem_singleton] at hm
        cases hm
        exact hne rfl
  · rw [valV_put] at h'
    split at h'
    · rename_i he
      cases inj he
      refine ⟨N.length, by rw [List.getElem?_append_right (Nat.le_refl _), Nat.sub_self]; rfl, ?_⟩
      exact (Option.some.inj h').symm
    · obtain ⟨i, hi, hv⟩ := h.2 _ _ _ _ h'
      exact ⟨i, by rw [List.getElem?_append_left (List.getElem?_eq_some_iff.mp hi).1]; exact hi, hv⟩
theorem MemoOk.mono {N M : Nds} {es : List Int} {cvs : List (List Key × V)} (h : MemoOk N es cvs) : MemoOk (N ++ M) es cvs := fun c a b v hv => by
  obtain ⟨r, A, B, C, T, e, h1, h2, h3, h4, h5⟩ := h c a b v hv
  exact ⟨r, A, B, C, T, e, h1.mono, h2.mono, h3.mono, h4.mono, h5⟩
theorem MemoOk.put {N : Nds} {es : List Int} {cvs : List (List Key × V)} (h : MemoOk N es cvs) {c a b r : Nat} {A B C T : Bd} (h1 : At N c A) (h2 : At N a B) (h3 : At N b C) (h4 : At N r T) (h5 : IsIte es A B C T) : MemoOk N es (putK cvs (ky3 c a b) (.int (r : Int))) := fun c' a' b' v hv => by
  rw [valV_put] at hv
  split at hv
  · rename_i he
    injection he with e1 e2
    injection e2 with e2 e3
    injection e3 with e3 _
    injection e1 with e1
    injection e2 with e2
    injection e3 with e3
    have e1 : c' = c := by omega
    have e2 : a' = a := by omega
    have e3 : b' = b := by omega
    subst e1 e2 e3
    exact ⟨r, A, B, C, T, (Option.some.inj hv).symm, h1, h2, h3, h4, h5⟩
  · exact h _ _ _ _ hv
/-! ### what both sides give -/
theorem Wf.skips {es : List Int} {a : Bd} (h : Wf es a) : ∀ pre : List Int, Wf (pre ++ es) a
  | [] => h
  | _ :: pre => .skip (h.skips pre)
theorem ite_step {x : Int} {es : List Int} {a b c t1 t2 : Bd} (hx : x ∉ es) (ha : Wf (x :: es) a) (hb : Wf (x :: es) b) (hc : Wf (x :: es) c) (h1 : IsIte es (a.cw x) (b.cw x) (c.cw x) t1) (h2 : IsIte es (a.ct x) (b.ct x) (c.ct x) t2) : IsIte (x :: es) a b c (mkB x t1 t2) := by
  refine ⟨mkB_wf h1.1 h2.1, fun r => ?_⟩
  have hs : ∀ v, r x = v → setR r x v = r := fun v e => by
    funext y
    by_cases hy : y = x
    · subst hy
      rw [setR_same, e]
    · rw [setR_ne hy]
  rw [mkB_ev]
  cases e : r x with
  | true => rw [if_pos rfl, h2.2, (ha.ct hx).2, (hb.ct hx).2, (hc.ct hx).2, hs _ e]
  | false => rw [if_neg Bool.false_ne_true, h1.2, (ha.cw hx).2, (hb.cw hx).2, (hc.cw hx).2, hs _ e]
/-- there is one -/
theorem ite_ex : ∀ {es : List Int} {a b c : Bd}, es.Nodup → Wf es a → Wf es b → Wf es c → ∃ t, IsIte es a b c t
  | [], a, b, c, _, ha, hb, hc => by
    cases ha with
    | @lf _ v =>
      cases v with
      | true => exact ⟨b, hb, fun _ => (if_pos rfl).symm⟩
      | false => exact ⟨c, hc, fun _ => (if_neg Bool.false_ne_true).symm⟩
  | x :: es, a, b, c, hn, ha, hb, hc => by
    rw [List.nodup_cons] at hn
    obtain ⟨t1, h1⟩ := ite_ex hn.2 (ha.cw hn.1).1 (hb.cw hn.1).1 (hc.cw hn.1).1
    obtain ⟨t2, h2⟩ := ite_ex hn.2 (ha.ct hn.1).1 (hb.ct hn.1).1 (hc.ct hn.1).1
    exact ⟨_, ite_step hn.1 ha hb hc h1 h2⟩
theorem ite_low {pre es : List Int} {a b c t : Bd} (hn : (pre ++ es).Nodup) (ha : Wf es a) (hb : Wf es b) (hc : Wf es c) (h : IsIte (pre ++ es) a b c t) : IsIte es a b c t := by
  obtain ⟨t', h'⟩ := ite_ex (List.nodup_append.mp hn).2.1 ha hb hc
  have e := canon hn h.1 (h'.1.skips pre) fun r => by rw [h.2, h'.2]
  rw [e]
  exact h'
theorem IsIte.skips {es : List Int} {a b c t : Bd} (pre : List Int) (h : IsIte es a b c t) : IsIte (pre ++ es) a b c t := ⟨h.1.skips pre, h.2⟩
/-- the question of the first one that has one -/
theorem top_ex : ∀ {es : List Int} {cs : List Bd}, (∀ a ∈ cs, Wf es a) → (∃ a ∈ cs, ∀ b, a ≠ .lf b) → ∃ pre x rest, es = pre ++ x :: rest ∧ (∀ a ∈ cs, Wf (x :: rest) a) ∧ ∃ w t, Bd.nd x w t ∈ cs
  | [], cs, h, ⟨a, ha, hn⟩ => by
    have := h a ha
    cases this
    exact absurd rfl (hn _)
  | x :: es, cs, h, hex => by
    by_cases hx : ∃ w t, Bd.nd x w t ∈ cs
    · exact ⟨[], x, es, rfl, h, hx⟩
    · have h' : ∀ a ∈ cs, Wf es a := fun a ha => by
        cases h a ha with
        | lf => exact .lf
        | here _ _ _ => exact absurd ⟨_, _, ha⟩ hx
        | skip h => exact h
      obtain ⟨pre, y, rest, e, h1, h2⟩ := top_ex h' hex
      exact ⟨x :: pre, y, rest, by rw [e]; rfl, h1, h2⟩
theorem Wf.head {es : List Int} {x : Int} {w t : Bd} (h : Wf es (.nd x w t)) : x ∈ es := h.none_of

/-! ### methods, defs that a name holds, instances -/
structure ClM (P : Program) (w : World) (K : PySem.W.Frag) (mg : Str → Option Value) (base : Heap) (k : Nat) (C : Addr) (m : Str) (sp : Sp) : Prop where
  ex : ∃ (f : Addr) (fd : FuncData) (ps : List Str), FnOk P w K mg base CX0 k f fd ps sp ∧ Meth K C m f ∧ Cls K C ∧ Binds K fd ps []
structure ClC (P : Program) (w : World) (K : PySem.W.Frag) (mg : Str → Option Value) (base : Heap) (k : Nat) (x : Str) (C : Addr) (sp : Sp) : Prop where
  ex : ∃ (f : Addr) (fd : FuncData) (ps : List Str), FnOk P w K mg base CX0 k f fd ps sp ∧ Mk K C f ∧ mg x = some (.ref C) ∧ Binds K fd ps []
theorem FnOk.clm {P : Program} {w : World} {K : PySem.W.Frag} {mg : Str → Option Value} {base : Heap} {k : Nat} {C : Addr} {m : Str} {f : Addr} {fd : FuncData} {ps : List Str} {sp : Sp} (h : FnOk P w K mg base CX0 k f fd ps sp) (mt : Meth K C m f) (cl : Cls K C) (b : Binds K fd ps []) : ClM P w K mg base k C m sp := ⟨f, fd, ps, h, mt, cl, b⟩
section
variable {X : Cx} {k j i : Nat} {m x : Str} {C : Addr} {sp : Sp} {p pos apos : Pos} {o e : Expr} {es : List Expr} {t : TA} {ta : TE}
theorem pe_mt {pl : Sem Bool} (c : ClM X.prog X.w X.K X.mg X.base k C m sp) (hr : Room j X.A) (hk : k ≤ j) (he : PE X o ta) (ha : PA X (e :: es) t) (hst : starEach (e :: es) X.env = (false, eval e X.env) :: starEach es X.env := by rfl) (hpl : (backTo pos (starEach es X.env)).any (·.1) = false := by rfl)
    (ht : eval (.Call (.Attribute o m apos) (e :: es) [] pos) X.env = (do let ov ← eval o X.env; standAt apos.atName; let (f, first) ← holding [ov] (getMethod ov m pl); callWith pos f first (backTo pos (starEach (e :: es) X.env)) (backToKw pos (keywordEach [] X.env))) := by rfl) : PE X (.Call (.Attribute o m apos) (e :: es) [] pos) (tMeth C m sp [] E0 ta t) := by
  obtain ⟨f, fd, ps, F, hm, cl, b⟩ := c.ex
  exact pe_meth he cl hm F (hr.mono hk) b .nil pass0 ha hst hpl ht
theorem pe_mt0 {pl : Sem Bool} (c : ClM X.prog X.w X.K X.mg X.base k C m sp) (hr : Room j X.A) (hk : k ≤ j) (he : PE X o ta)
    (ht : eval (.Call (.Attribute o m apos) [] [] pos) X.env = (do let ov ← eval o X.env; standAt apos.atName; let (f, first) ← holding [ov] (getMethod ov m pl); callWith pos f first (backTo pos (starEach [] X.env)) (backToKw pos (keywordEach [] X.env))) := by rfl) : PE X (.Call (.Attribute o m apos) [] [] pos) (tMeth C m sp [] E0 ta tNil) := by
  obtain ⟨f, fd, ps, F, hm, cl, b⟩ := c.ex
  exact pe_meth0 he cl hm F (hr.mono hk) b .nil pass0 ht
theorem pe_mk (c : ClC X.prog X.w X.K X.mg X.base k x C sp) (hr : Room j X.A) (hk : k + 1 ≤ j) (hg : L2.Gl X x) (ha : PA X (e :: es) t) (hdb : (x == ("__debug__" : Str)) = false := by decide) (he : starEach (e :: es) X.env = (false, eval e X.env) :: starEach es X.env := by rfl) (hpl : (backTo pos (starEach es X.env)).any (·.1) = false := by rfl) : PE X (.Call (.Name x p) (e :: es) [] pos) (tMake C sp [] E0 t) := by
  obtain ⟨f, fd, ps, F, M, hm, b⟩ := c.ex
  exact pe_make M F (hr.mono hk) hg hm b .nil pass0 ha hdb he hpl
theorem pe_mk0 (c : ClC X.prog X.w X.K X.mg X.base k x C sp) (hr : Room j X.A) (hk : k + 1 ≤ j) (hg : L2.Gl X x) (hdb : (x == ("__debug__" : Str)) = false := by decide) : PE X (.Call (.Name x p) [] [] pos) (tMake C sp [] E0 tNil) := by
  obtain ⟨f, fd, ps, F, M, hm, b⟩ := c.ex
  exact pe_make0 M F (hr.mono hk) hg hm b .nil pass0 hdb
end

/-! ### the store's methods -/
structure DgC (K : PySem.W.Frag) (C : Addr) (mg : Str → Option Value) : Prop where
  cl : Cls K C
  nK : NoAttr K C "kept"
  nN : NoAttr K C "numbers"
  nM : NoAttr K C "combined"
  NEVER : ∃ u, mg "NEVER" = some u ∧ RelV (.int 0) u
  ALWAYS : ∃ u, mg "ALWAYS" = some u ∧ RelV (.int 1) u
  FIRST_NODE : ∃ u, mg "FIRST_NODE" = some u ∧ RelV (.int 2) u
theorem Sto.go {C : Addr} {K : PySem.W.Frag} {H : Hp} {s : SA} {N : Nds} {es : List Int} {L : Nat} (h : Sto C K H s N es L) {m : Str} (h1 : (m == ("kept" : Str)) = false) (h2 : (m == ("numbers" : Str)) = false) (h3 : (m == ("combined" : Str)) = false) {R : Prop} (r : R) : ∃ a dx fs, V.ref s.p = .ref a ∧ H a = some (.ins C dx fs) ∧ fs.lookup m = none ∧ R := by
  obtain ⟨dx, hp⟩ := h.ins
  exact ⟨s.p, dx, _, rfl, hp, sf_no s h1 h2 h3, r⟩
def sp_nof (C : Addr) (K : PySem.W.Frag) : Sp := fun vs H Q _ => ∃ s N es L c n, vs = [.ref s.p, .int ((c : Nat) : Int)] ∧ Sto C K H s N es L ∧ 2 ≤ c ∧ N[c - 2]? = some n ∧ ∀ q, SqT K H q [.int n.1, .int (n.2.1 : Nat), .int (n.2.2 : Nat)] → Q (.ref q) H
def sp_node (C : Addr) (K : PySem.W.Frag) : Sp := fun vs H Q _ => ∃ s N es L x w t W T, vs = [.ref s.p, .int x, .int ((w : Nat) : Int), .int ((t : Nat) : Int)] ∧ Sto C K H s N es L ∧ At N w W ∧ At N t T ∧ N.length + 1 < sizeLine ∧
  ∀ H' M r, FdS s H H' → M.length ≤ 1 → Sto C K H' s (N ++ M) es L → At (N ++ M) r (mkB x W T) → Q (.int ((r : Nat) : Int)) H'
def sp_top (C : Addr) (K : PySem.W.Frag) : Sp := fun vs H Q _ => ∃ s N es L pre es' a, ∃ cs : List (Nat × Bd), vs = [.ref s.p, .ref a] ∧ Sto C K H s N es L ∧ SqT K H a (cs.map fun c => .int ((c.1 : Nat) : Int)) ∧ es = pre ++ es' ∧ cs.length ≤ 3 ∧ (∀ c ∈ cs, At N c.1 c.2 ∧ Wf es' c.2) ∧ (∃ c ∈ cs, 2 ≤ c.1) ∧
  ∀ H' pre2 x es2, Same H H' → es' = pre2 ++ x :: es2 → (∀ c ∈ cs, Wf (x :: es2) c.2) → Q (.int x) H'
def sp_bra (C : Addr) (K : PySem.W.Frag) : Sp := fun vs H Q _ => ∃ s N es L x es2 c A, vs = [.ref s.p, .int ((c : Nat) : Int), .int x] ∧ Sto C K H s N es L ∧ At N c A ∧ Wf (x :: es2) A ∧ x ∉ es2 ∧
  ∀ H' q w t, Same H H' → H' q = some (.tup [.int ((w : Nat) : Int), .int ((t : Nat) : Int)]) → At N w (A.cw x) → At N t (A.ct x) → Q (.ref q) H'
def sp_comb (C : Addr) (K : PySem.W.Frag) (n : Nat) : Sp := fun vs H Q _ => ∃ s N es L pre es' c a b A B D, vs = [.ref s.p, .int ((c : Nat) : Int), .int ((a : Nat) : Int), .int ((b : Nat) : Int)] ∧ Sto C K H s N es L ∧ es = pre ++ es' ∧ es'.length < n ∧ At N c A ∧ At N a B ∧ At N b D ∧ Wf es' A ∧ Wf es' B ∧ Wf es' D ∧
  N.length + 2 ^ es'.length < sizeLine ∧ L + 2 ^ es'.length < sizeLine ∧
  ∀ H' M r T, FdS s H H' → M.length + 1 ≤ 2 ^ es'.length → Sto C K H' s (N ++ M) es (L + (2 ^ es'.length - 1)) → At (N ++ M) r T → IsIte es' A B D T → Q (.int ((r : Nat) : Int)) H'
section
variable {P : Program} {w : World} {K : PySem.W.Frag} {mg : Str → Option Value} {base : Heap}
theorem ok_nof {f C : Addr} {fd : FuncData} (F : Fun K "node_of" "Diagrams.node_of" s_Diagrams_node_of f fd) (M : Mg mg) (G : DgC K C mg) : FnOk P w K mg base CX0 1 f fd ["self", "condition"] (sp_nof C K) := by
  refine F.ok sc_Diagrams_node_of (fun vs H Q E h => ?_) (fun cdv A outer s H vs Q E hr h => ?_)
  · obtain ⟨s, N, es, L, c, n, rfl, _⟩ := h
    rfl
  · obtain ⟨s, N, es, L, c, n, rfl, st, h2, hn, q⟩ := h
    obtain ⟨dx, xs, a, hp, hk, hat, hq⟩ := st.at h2 hn
    refine ⟨_, (pss_one (ps_ret (pe_ix (ix_listK K) (pe_fld (pv 0) rfl) (pe_op op_sub (pv 1) (C8.pe_gc (by rfl) G.FIRST_NODE)) (fun _ _ => rfl)))), ?_⟩
    exact ⟨_, rfl, s.p, C, dx, _, _, rfl, hp, G.cl, G.nK, sf_kept s, _, rfl, _, _, rfl, rfl, s.k, xs, _, _, rfl, rfl, hk, hat, q a hq⟩
theorem ok_node {f C : Addr} {fd : FuncData} (F : Fun K "node" "Diagrams.node" s_Diagrams_node f fd) (M : Mg mg) (G : DgC K C mg) : FnOk P w K mg base CX0 1 f fd ["self", "entry", "without", "there"] (sp_node C K) := by
  refine F.ok sc_Diagrams_node (fun vs H Q E h => ?_) (fun cdv A outer s H vs Q E hr h => ?_)
  · obtain ⟨s, N, es, L, x, w, t, W, T, rfl, _⟩ := h
    rfl
  · obtain ⟨s, N, es, L, x, w, t, W, T, rfl, st, hw, ht, hz, q⟩ := h
    refine ⟨_, (pss_cons (ps_if (pt_cmpR op_eq (pv 2) (pv 3) (nomark _)) (pss_one (ps_ret (pv 2))) pss_nil)
      (pss_cons (ps_set (i := 4) sc_Diagrams_node.nd rfl (.inl rfl) (pe_tup (pa_cons (pv 1) (pa_cons (pv 2) (pa_cons (pv 3) pa_nil)))))
      (pss_cons (ps_if (pt_cmp (pc_dnotin (hu_of hr) (pv 4) (pe_fld (pv 0) rfl))) (pss_cons (ps_dput (hu_of hr) (pe_fld (pv 0) rfl) (pv 4) (pe_op op_add (pe_callB (len_seqK K) (by rfl) M.len PySem.boot_len (pa_cons (pe_fld (pv 0) rfl) pa_nil)) (C8.pe_gc (by rfl) G.FIRST_NODE)) rfl)
      (pss_one (ps_expr (pe_bmK K PySem.F.plainAttrs_list PySem.F.slot_list_append PySem.F.type_list_append mt_append (pe_fld (pv 0) rfl) (pa_cons (pv 4) pa_nil))))) pss_nil)
      (pss_one (ps_ret (pe_dget (hu_of hr) (pe_fld (pv 0) rfl) (pv 4) (fun _ _ => rfl))))))), ?_⟩
    refine ⟨_, rfl, _, rfl, rfl, _, rfl, ite2 (fun e => ?_) (fun e => ?_)⟩
    · have e1 : w = t := by
        have := V.int.inj (of_decide_eq_true e)
        omega
      subst e1
      have e2 := hw.fn ht
      subst e2
      refine ⟨_, rfl, q H [] w (FdS.refl s H) (Nat.zero_le _) (by rw [List.append_nil]; exact st) ?_⟩
      rw [List.append_nil, show mkB x W W = W from if_pos rfl]
      exact hw
    · have hne : W ≠ T := fun z => by
        subst z
        exact e (by rw [hw.inj st.nd ht]; exact decide_eq_true rfl)
      have em : mkB x W T = .nd x W T := if_neg hne
      rw [em] at q
      refine ⟨_, rfl, _, rfl, _, rfl, by show 3 ≤ sizeLine; decide, fun tp ntp => ?_⟩
      have s1 := same_upd ntp (o := .tup [.int x, .int ((w : Nat) : Int), .int ((t : Nat) : Int)])
      have et : (upd H tp (.tup [.int x, .int ((w : Nat) : Int), .int ((t : Nat) : Int)])) tp = some (.tup ((ky3 x w t).map kV)) := upd_same
      generalize upd H tp (.tup [.int x, .int ((w : Nat) : Int), .int ((t : Nat) : Int)]) = H1 at s1 et
      have st1 := st.ext s1
      obtain ⟨⟨dx, hp⟩, ⟨xs, hk, hxs⟩, ⟨kvs, hu, hkl, hko⟩, ⟨cvs, hm, hcl, hco⟩, hnd, hum, hes⟩ := id st1
      have npk : s.p ≠ s.k := ne_of hp hk (fun z => nomatch z)
      have npu : s.p ≠ s.u := ne_of hp hu (fun z => nomatch z)
      have nku : s.k ≠ s.u := ne_of hk hu (fun z => nomatch z)
      have nkm : s.k ≠ s.m := ne_of hk hm (fun z => nomatch z)
      have ntk : tp ≠ s.k := ne_of et hk (fun z => nomatch z)
      have ntu : tp ≠ s.u := ne_of et hu (fun z => nomatch z)
      refine ⟨_, rfl, _, rfl, s.p, C, dx, _, _, rfl, hp, G.cl, G.nN, sf_num s, s.u, _, rfl, DGet.t hu et, _, rfl, ?_⟩
      cases ev : valV kvs (ky3 x w t) with
      | some v =>
        obtain ⟨i, hi, rfl⟩ := hko.2 _ _ _ _ ev
        refine iteF ?_
        refine ⟨_, rfl, s.p, C, dx, _, _, rfl, hp, G.cl, G.nN, sf_num s, _, rfl, s.u, .int ((i + 2 : Nat) : Int), rfl, ?_, ?_⟩
        · have := DGet.t hu et
          rw [ev] at this
          exact this
        · exact q H1 [] (i + 2) (FdS.of s1) (Nat.zero_le _) (by rw [List.append_nil]; exact st1) (by rw [List.append_nil]; exact .nd hi hw ht)
      | none =>
        have hnew : (x, w, t) ∉ N := hko.1 _ _ _ ev
        have lxs : xs.length = N.length := by rw [DpAll.len hxs, List.length_map]
        refine iteT ?_
        refine ⟨_, rfl, s.p, C, dx, _, _, rfl, hp, G.cl, G.nK, sf_kept s, s.k, xs, rfl, .inl (.of hk), _, _, rfl, rfl, _, rfl, s.p, C, dx, _, _, rfl, hp, G.cl, G.nN, sf_num s, _, rfl, s.u, _, rfl, DPut.t hu et (by omega), ?_⟩
        rw [lxs]
        dsimp only
        rw [show ((N.length : Nat) : Int) + 2 = ((N.length + 2 : Nat) : Int) by omega]
        have hk2 : (upd H1 s.u (.dT (putK kvs (ky3 x w t) (.int ((N.length + 2 : Nat) : Int))))) s.k = some (.lst xs) := by rw [upd_ne nku]; exact hk
        have hp2 : (upd H1 s.u (.dT (putK kvs (ky3 x w t) (.int ((N.length + 2 : Nat) : Int))))) s.p = some (.ins C dx (sfl s)) := by rw [upd_ne npu]; exact hp
        refine ⟨_, rfl, s.p, C, dx, _, _, rfl, hp2, G.cl, G.nK, sf_kept s, .inl ⟨rfl, _, .inl (.inl hk2)⟩, _, rfl, s.k, xs, _, rfl, rfl, hk2, by omega, ?_⟩
        have eu3 : (upd (upd H1 s.u (.dT (putK kvs (ky3 x w t) (.int ((N.length + 2 : Nat) : Int))))) s.k (.lst (xs ++ [.ref tp]))) s.u = some (.dT (putK kvs (ky3 x w t) (.int ((N.length + 2 : Nat) : Int)))) := by rw [upd_ne nku.symm, upd_same]
        have f3 : FdS s H1 (upd (upd H1 s.u (.dT (putK kvs (ky3 x w t) (.int ((N.length + 2 : Nat) : Int))))) s.k (.lst (xs ++ [.ref tp]))) := fun b o n1 n2 n3 hb => by
          rw [upd_ne n1, upd_ne n2]
          exact hb
        have ep3 : (upd (upd H1 s.u (.dT (putK kvs (ky3 x w t) (.int ((N.length + 2 : Nat) : Int))))) s.k (.lst (xs ++ [.ref tp]))) s.p = some (.ins C dx (sfl s)) := by rw [upd_ne npk]; exact hp2
        have em3 : (upd (upd H1 s.u (.dT (putK kvs (ky3 x w t) (.int ((N.length + 2 : Nat) : Int))))) s.k (.lst (xs ++ [.ref tp]))) s.m = some (.dT cvs) := by rw [upd_ne nkm.symm, upd_ne hum.symm]; exact hm
        have ek3 : (upd (upd H1 s.u (.dT (putK kvs (ky3 x w t) (.int ((N.length + 2 : Nat) : Int))))) s.k (.lst (xs ++ [.ref tp]))) s.k = some (.lst (xs ++ [.ref tp])) := upd_same
        have et3 : (upd (upd H1 s.u (.dT (putK kvs (ky3 x w t) (.int ((N.length + 2 : Nat) : Int))))) s.k (.lst (xs ++ [.ref tp]))) tp = some (.tup ((ky3 x w t).map kV)) := by rw [upd_ne ntk, upd_ne ntu]; exact et
        generalize upd (upd H1 s.u (.dT (putK kvs (ky3 x w t) (.int ((N.length + 2 : Nat) : Int))))) s.k (.lst (xs ++ [.ref tp])) = H3 at eu3 f3 ep3 em3 ek3 et3
        have nk : NumsOk (N ++ [(x, w, t)]) (putK kvs (ky3 x w t) (.int ((N.length + 2 : Nat) : Int))) := hko.snoc ev
        have st3 : Sto C K H3 s (N ++ [(x, w, t)]) es L := by
          refine ⟨⟨dx, ep3⟩, ⟨_, ek3, ?_⟩, ⟨_, eu3, ?_, nk⟩, ⟨cvs, em3, hcl, hco.mono⟩, ?_, hum, hes⟩
          · rw [List.map_append]
            exact DpAll.snoc (DpAll.tsn (st1.tup f3) _ _ (nD_only _) hxs) (.tup (.of et3) (.cons (.int _) (.cons (.int _) (.cons (.int _) .nil))))
          · have := length_putK kvs (ky3 x w t) (.int ((N.length + 2 : Nat) : Int))
            rw [List.length_append]
            show _ ≤ _ + 1
            omega
          · rw [List.nodup_append]
            exact ⟨hnd, List.nodup_cons.mpr ⟨List.not_mem_nil, List.nodup_nil⟩, fun a ha b hb z => by
              rw [List.mem_singleton] at hb
              subst z hb
              exact hnew ha⟩
        refine ⟨_, rfl, s.p, C, dx, _, _, rfl, ep3, G.cl, G.nN, sf_num s, _, rfl, s.u, .int ((N.length + 2 : Nat) : Int), rfl, ?_, ?_⟩
        · have := DGet.t eu3 et3
          rw [valV_put, if_pos rfl] at this
          exact this
        · refine q H3 [(x, w, t)] (N.length + 2) ((FdS.of s1).trans f3) (Nat.le_refl _) st3 (.nd ?_ hw.mono ht.mono)
          rw [List.getElem?_append_right (Nat.le_refl _), Nat.sub_self]
          rfl
def topOf : Bd → Option Int
  | .nd x _ _ => some x
  | .lf _ => none
theorem srt_le {pre es : List Int} {x y : Int} (h : (pre ++ x :: es).Pairwise (· < ·)) (hy : y ∈ x :: es) : x ≤ y := by
  have h2 := (List.pairwise_append.mp h).2.1
  rw [List.pairwise_cons] at h2
  rcases List.mem_cons.mp hy with e | hy
  · omega
  · have := h2.1 y hy
    omega
theorem ok_top {f C : Addr} {fd : FuncData} (F : Fun K "top" "Diagrams.top" s_Diagrams_top f fd) (M : Mg mg) (G : DgC K C mg) (c_Diagrams_node_of : ClM P w K mg base 1 C "node_of" (sp_nof C K)) : FnOk P w K mg base CX0 2 f fd ["self", "conditions"] (sp_top C K) := by
  refine F.ok sc_Diagrams_top (fun vs H Q E h => ?_) (fun cdv A outer s H vs Q E hr h => ?_)
  · obtain ⟨s, N, es, L, pre, es', a, cs, rfl, _⟩ := h
    rfl
  · obtain ⟨s, N, es, L, pre, es', a, cs, rfl, st, ha, he, hl, hc, hex, q⟩ := h
    refine ⟨_, (pss_one (ps_ret (pe_callB (cr_min rfl) (by rfl) M.min (by decide +kernel) (pa_cons (pe_lc (own := [("condition", 2)]) (g := gName 2) rfl sc_Diagrams_top.nd (pi_tup (pv 1)) (blkOk_by (N := N_Diagrams_top) (sc := defScope s_Diagrams_top) (by decide +kernel)) (fun _ _ _ _ _ => (pg_name (i := 2) sc_Diagrams_top.nd rfl (.inl rfl))) (fun _ _ _ _ _ => (pts_one (pt_cmpR op_ge (pv 2) (C8.pe_gc (by rfl) G.FIRST_NODE) (nomark _)))) (fun _ _ _ _ _ => (pe_ix (ix_tupK K) (pe_mt c_Diagrams_node_of hr (by first | decide | omega) (pv 0) (pa_cons (pv 2) pa_nil)) pe_int (fun _ _ => rfl)))) pa_nil)))), ?_⟩
    refine ⟨_, rfl, a, rfl, ⟨_, ha⟩, fun D nD => ?_⟩
    refine lc_tup (K := K) (a := a) (xs := cs.map fun c => .int ((c.1 : Nat) : Int)) (fun i Hi => Same H Hi ∧ ∃ ns : List Int, Hi D = some (.lst (ns.map V.int)) ∧ ns.length ≤ i ∧ ns = (cs.take i).filterMap fun c => topOf c.2) ⟨same_upd nD, [], upd_same, Nat.zero_le _, rfl⟩ (fun i Hi _ hp => SqT.ext hp.1 ha) (fun i x Hi hx hp => ?_) (fun Hn hp => ?_)
    · obtain ⟨si, ns, eD, ln, en⟩ := hp
      rw [List.getElem?_map] at hx
      obtain ⟨c, hcv, rfl⟩ := Option.map_eq_some_iff.mp hx
      have hi : i < cs.length := (List.getElem?_eq_some_iff.mp hcv).1
      obtain ⟨hAt, hWf⟩ := hc c (List.mem_of_getElem? hcv)
      have sti := st.ext si
      refine ⟨rfl, ?_⟩
      refine ⟨_, rfl, _, _, rfl, rfl, _, rfl, ite2 (fun e => ?_) (fun e => ?_)⟩
      · have h2 : 2 ≤ c.1 := by
          have := of_decide_eq_true e
          omega
        obtain ⟨e1, w1, t1, a1, b1, hn, hw1, ht1, ea⟩ := hAt.ge h2
        refine ⟨_, rfl, sti.go (by decide +kernel) (by decide +kernel) (by decide +kernel) ⟨_, rfl, ?_⟩⟩
        refine ⟨s, N, es, L, c.1, _, rfl, sti, h2, hn, fun qa hq => ?_⟩
        refine ⟨qa, _, _, _, rfl, rfl, hq, atI_nat (j := 0) rfl, ?_⟩
        refine ⟨_, eD, by rw [List.length_map]; exact Nat.lt_of_le_of_lt ln (Nat.lt_of_lt_of_le hi (Nat.le_trans hl (by decide))), ?_, ns ++ [e1], ?_, ?_, ?_⟩
        · intro b o hb
          rw [upd_ne (ne_of_none hb nD)]
          exact si _ _ hb
        · rw [upd_same, List.map_append]
          rfl
        · rw [List.length_append]
          show _ + 1 ≤ _
          omega
        · rw [List.take_add_one, hcv, List.filterMap_append, ← en]
          show _ = _ ++ ([c].filterMap fun c => topOf c.2)
          rw [List.filterMap_cons, ea]
          rfl
      · have h2 : ¬ 2 ≤ c.1 := by
          intro h
          exact e (decide_eq_true (by omega))
        refine ⟨si, ns, eD, by omega, ?_⟩
        rw [List.take_add_one, hcv, List.filterMap_append, ← en]
        show _ = _ ++ ([c].filterMap fun c => topOf c.2)
        have : topOf c.2 = none := by
          generalize c.1 = cn at hAt h2
          generalize c.2 = A at hAt
          cases hAt with
          | f => rfl
          | t => rfl
          | nd _ _ _ => omega
        rw [List.filterMap_cons, this]
        exact (List.append_nil _).symm
    · obtain ⟨sn, ns, eD, ln, en⟩ := hp
      rw [List.length_map, List.take_of_length_le (Nat.le_refl _)] at en
      obtain ⟨c0, hc0, h20⟩ := hex
      have hex' : ∃ a ∈ cs.map (·.2), ∀ b, a ≠ .lf b := by
        refine ⟨c0.2, List.mem_map.mpr ⟨c0, hc0, rfl⟩, fun b z => ?_⟩
        obtain ⟨_, _, _, _, _, _, _, _, ea⟩ := (hc c0 hc0).1.ge h20
        rw [ea] at z
        cases z
      obtain ⟨pre2, x, es2, ee, hwf, w0, t0, hm0⟩ := top_ex (es := es') (cs := cs.map (·.2)) (fun a ha => by
        obtain ⟨c, hcm, rfl⟩ := List.mem_map.mp ha
        exact (hc c hcm).2) hex'
      have hwf' : ∀ c ∈ cs, Wf (x :: es2) c.2 := fun c hcm => hwf _ (List.mem_map.mpr ⟨c, hcm, rfl⟩)
      have hx : x ∈ ns := by
        obtain ⟨c, hcm, ec⟩ := List.mem_map.mp hm0
        rw [en]
        exact List.mem_filterMap.mpr ⟨c, hcm, by rw [ec]; rfl⟩
      refine ⟨D, ns, rfl, .of eD, List.length_pos_of_mem hx, fun m hm hmin => ?_⟩
      have h1 := hmin x hx
      rw [en] at hm
      obtain ⟨c, hcm, ec⟩ := List.mem_filterMap.mp hm
      have h2 : x ≤ m := by
        have hw := hwf' c hcm
        generalize c.2 = A at hw ec
        cases A with
        | lf b => cases ec
        | nd y w t =>
          have e : y = m := Option.some.inj ec
          subst e
          have srt := st.srt
          rw [he, ee, ← List.append_assoc] at srt
          exact srt_le srt hw.none_of
      obtain rfl : m = x := by omega
      exact q Hn pre2 m es2 sn ee hwf'
theorem ok_bra {f C : Addr} {fd : FuncData} (F : Fun K "branches" "Diagrams.branches" s_Diagrams_branches f fd) (M : Mg mg) (G : DgC K C mg) (c_Diagrams_node_of : ClM P w K mg base 1 C "node_of" (sp_nof C K)) : FnOk P w K mg base CX0 2 f fd ["self", "condition", "entry"] (sp_bra C K) := by
  refine F.ok sc_Diagrams_branches (fun vs H Q E h => ?_) (fun cdv A outer s H vs Q E hr h => ?_)
  · obtain ⟨s, N, es, L, x, es2, c, A, rfl, _⟩ := h
    rfl
  · obtain ⟨s, N, es, L, x, es2, c, A, rfl, st, hAt, hWf, hx, q⟩ := h
    refine ⟨_, (pss_cons (ps_if (pt_cmpR op_ge (pv 1) (C8.pe_gc (by rfl) G.FIRST_NODE) (nomark _)) (pss_cons (ps_asg (pe_mt c_Diagrams_node_of hr (by first | decide | omega) (pv 0) (pa_cons (pv 1) pa_nil)) (pg_tup (by rfl) (pgs_cons (pg_name (i := 3) sc_Diagrams_branches.nd rfl (.inl rfl)) (pgs_cons (pg_name (i := 4) sc_Diagrams_branches.nd rfl (.inl rfl)) (pgs_cons (pg_name (i := 5) sc_Diagrams_branches.nd rfl (.inl rfl)) pgs_nil)))))
      (pss_one (ps_if (pt_cmpR op_eq (pv 3) (pv 2) (nomark _)) (pss_one (ps_ret (pe_tup (pa_cons (pv 4) (pa_cons (pv 5) pa_nil))))) pss_nil))) pss_nil)
      (pss_one (ps_ret (pe_tup (pa_cons (pv 1) (pa_cons (pv 1) pa_nil)))))), ?_⟩
    have both : A.cw x = A → A.ct x = A → ∀ q', H q' = none → Q (.ref q') (upd H q' (.tup [.int ((c : Nat) : Int), .int ((c : Nat) : Int)])) := fun e1 e2 q' nq => by
      refine q _ q' c c (same_upd nq) upd_same ?_ ?_
      · rw [e1]; exact hAt
      · rw [e2]; exact hAt
    refine ⟨_, rfl, _, _, rfl, rfl, _, rfl, ite2 (fun e => ?_) (fun e => ?_)⟩
    · have h2 : 2 ≤ c := by
        have := of_decide_eq_true e
        omega
      obtain ⟨e1, w1, t1, a1, b1, hn, hw1, ht1, ea⟩ := hAt.ge h2
      refine ⟨_, rfl, st.go (by decide +kernel) (by decide +kernel) (by decide +kernel) ⟨_, rfl, ?_⟩⟩
      refine ⟨s, N, es, L, c, _, rfl, st, h2, hn, fun qa hq => ?_⟩
      refine ⟨qa, _, rfl, hq, rfl, _, _, rfl, _, _, rfl, _, _, rfl, rfl, ?_⟩
      refine ⟨_, rfl, _, rfl, rfl, _, rfl, ite2 (fun e => ?_) (fun e => ?_)⟩
      · have ee : e1 = x := V.int.inj (of_decide_eq_true e)
        refine ⟨_, rfl, _, rfl, by show 2 ≤ sizeLine; decide, fun q' nq => ?_⟩
        refine q _ q' w1 t1 (same_upd nq) upd_same ?_ ?_
        · rw [ea, show (Bd.nd e1 a1 b1).cw x = a1 from if_pos ee]; exact hw1
        · rw [ea, show (Bd.nd e1 a1 b1).ct x = b1 from if_pos ee]; exact ht1
      · have ee : e1 ≠ x := fun z => e (by rw [z]; exact decide_eq_true rfl)
        exact ⟨_, rfl, _, rfl, by show 2 ≤ sizeLine; decide, both (by rw [ea]; exact if_neg ee) (by rw [ea]; exact if_neg ee)⟩
    · have hlf : A.cw x = A ∧ A.ct x = A := by
        cases hAt with
        | f => exact ⟨rfl, rfl⟩
        | t => exact ⟨rfl, rfl⟩
        | nd _ _ _ => exact absurd (decide_eq_true (by omega)) e
      exact ⟨_, rfl, _, rfl, by show 2 ≤ sizeLine; decide, both hlf.1 hlf.2⟩
theorem Sto.more {C : Addr} {H : Hp} {s : SA} {N : Nds} {es : List Int} {L L' : Nat} (h : Sto C K H s N es L) (hl : L ≤ L') : Sto C K H s N es L' := by
  obtain ⟨h1, h2, h3, ⟨cvs, h4, h5, h6⟩, h7⟩ := h
  exact ⟨h1, h2, h3, ⟨cvs, h4, Nat.le_trans h5 hl, h6⟩, h7⟩
theorem Sto.put {C : Addr} {H : Hp} {s : SA} {N : Nds} {es : List Int} {L : Nat} (st : Sto C K H s N es L) {c a b r : Nat} {A B D T : Bd} (h1 : At N c A) (h2 : At N a B) (h3 : At N b D) (h4 : At N r T) (h5 : IsIte es A B D T) :
    ∃ cvs, H s.m = some (.dT cvs) ∧ cvs.length ≤ L ∧ Sto C K (upd H s.m (.dT (putK cvs (ky3 c a b) (.int ((r : Nat) : Int))))) s N es (L + 1) ∧ FdS s H (upd H s.m (.dT (putK cvs (ky3 c a b) (.int ((r : Nat) : Int))))) := by
  have f : ∀ cvs, FdS s H (upd H s.m (.dT (putK cvs (ky3 c a b) (.int ((r : Nat) : Int))))) := fun cvs x o n1 n2 n3 e => by
    rw [upd_ne n3]
    exact e
  obtain ⟨⟨dx, hp⟩, ⟨xs, hk, hxs⟩, ⟨kvs, hu, hkl, hko⟩, ⟨cvs, hm, hcl, hco⟩, hnd, hum, hes⟩ := id st
  refine ⟨cvs, hm, hcl, ⟨⟨dx, ?_⟩, ⟨xs, ?_, ?_⟩, ⟨kvs, ?_, hkl, hko⟩, ⟨_, upd_same, ?_, hco.put h1 h2 h3 h4 h5⟩, hnd, hum, hes⟩, f cvs⟩
  · rw [upd_ne (ne_of hp hm (fun z => nomatch z))]; exact hp
  · rw [upd_ne (ne_of hk hm (fun z => nomatch z))]; exact hk
  · exact DpAll.tsn (st.tup (f cvs)) _ _ (nD_only _) hxs
  · rw [upd_ne hum]; exact hu
  · have := length_putK cvs (ky3 c a b) (.int ((r : Nat) : Int))
    omega
set_option maxHeartbeats 4000000 in
theorem ok_comb (n : Nat) {f C : Addr} {fd : FuncData} (F : Fun K "combine" "Diagrams.combine" s_Diagrams_combine f fd) (M : Mg mg) (G : DgC K C mg) (c_Diagrams_node : ClM P w K mg base 1 C "node" (sp_node C K)) (c_Diagrams_top : ClM P w K mg base 2 C "top" (sp_top C K)) (c_Diagrams_branches : ClM P w K mg base 2 C "branches" (sp_bra C K))
    (c_Diagrams_combine : ClM P w K mg base (n + 2) C "combine" (sp_comb C K n)) : FnOk P w K mg base CX0 (n + 3) f fd ["self", "condition", "first", "second"] (sp_comb C K (n + 1)) := by
  refine F.ok sc_Diagrams_combine (fun vs H Q E h => ?_) (fun cdv A outer s H vs Q E hr h => ?_)
  · obtain ⟨s, N, es, L, pre, es', c, a, b, A, B, D, rfl, _⟩ := h
    rfl
  · obtain ⟨s, N, es, L, pre, es', c, a, b, A, B, D, rfl, st, he, hn, hA, hB, hD, wA, wB, wD, z1, z2, q⟩ := h
    have hp1 : 1 ≤ 2 ^ es'.length := Nat.one_le_two_pow
    have ret : ∀ H1 r T, Same H H1 → At N r T → IsIte es' A B D T → Q (.int ((r : Nat) : Int)) H1 := fun H1 r T s1 h1 h2 => q H1 [] r T (FdS.of s1) (by rw [List.length_nil]; exact hp1) (by rw [List.append_nil]; exact (st.ext s1).more (Nat.le_add_right _ _)) (by rw [List.append_nil]; exact h1) h2
    have inat : ∀ {x y : Nat}, decide (V.int ((x : Nat) : Int) = V.int ((y : Nat) : Int)) = true → x = y := fun {x y} e => by
      have := V.int.inj (of_decide_eq_true e)
      omega
    refine ⟨_, (pss_cons (ps_if (PW.pt (pw_or (pt_cmpR op_eq (pv 1) (C8.pe_gc (by rfl) G.ALWAYS) (nomark _)) (pw_or1 (pt_cmpR op_eq (pv 2) (pv 3) (nomark _))))) (pss_one (ps_ret (pv 2))) pss_nil)
      (pss_cons (ps_if (pt_cmpR op_eq (pv 1) (C8.pe_gc (by rfl) G.NEVER) (nomark _)) (pss_one (ps_ret (pv 3))) pss_nil)
      (pss_cons (ps_set (i := 4) sc_Diagrams_combine.nd rfl (.inl rfl) (pe_tup (pa_cons (pv 1) (pa_cons (pv 2) (pa_cons (pv 3) pa_nil)))))
      (pss_cons (ps_if (pt_cmp (pc_dnotin (hu_of hr) (pv 4) (pe_fld (pv 0) rfl))) (pss_cons (ps_set (i := 5) sc_Diagrams_combine.nd rfl (.inl rfl) (pe_mt c_Diagrams_top hr (by first | decide | omega) (pv 0) (pa_cons (pv 4) pa_nil)))
      (pss_cons (ps_asg (pe_mt c_Diagrams_branches hr (by first | decide | omega) (pv 0) (pa_cons (pv 1) (pa_cons (pv 5) pa_nil))) (pg_tup (by rfl) (pgs_cons (pg_name (i := 6) sc_Diagrams_combine.nd rfl (.inl rfl)) (pgs_cons (pg_name (i := 7) sc_Diagrams_combine.nd rfl (.inl rfl)) pgs_nil))))
      (pss_cons (ps_asg (pe_mt c_Diagrams_branches hr (by first | decide | omega) (pv 0) (pa_cons (pv 2) (pa_cons (pv 5) pa_nil))) (pg_tup (by rfl) (pgs_cons (pg_name (i := 8) sc_Diagrams_combine.nd rfl (.inl rfl)) (pgs_cons (pg_name (i := 9) sc_Diagrams_combine.nd rfl (.inl rfl)) pgs_nil))))
      (pss_cons (ps_asg (pe_mt c_Diagrams_branches hr (by first | decide | omega) (pv 0) (pa_cons (pv 3) (pa_cons (pv 5) pa_nil))) (pg_tup (by rfl) (pgs_cons (pg_name (i := 10) sc_Diagrams_combine.nd rfl (.inl rfl)) (pgs_cons (pg_name (i := 11) sc_Diagrams_combine.nd rfl (.inl rfl)) pgs_nil))))
      (pss_one (ps_dput (hu_of hr) (pe_fld (pv 0) rfl) (pv 4) (pe_mt c_Diagrams_node hr (by first | decide | omega) (pv 0) (pa_cons (pv 5) (pa_cons (pe_mt c_Diagrams_combine hr (by first | decide | omega) (pv 0) (pa_cons (pv 6) (pa_cons (pv 8) (pa_cons (pv 10) pa_nil)))) (pa_cons (pe_mt c_Diagrams_combine hr (by first | decide | omega) (pv 0) (pa_cons (pv 7) (pa_cons (pv 9) (pa_cons (pv 11) pa_nil)))) pa_nil)))) rfl)))))) pss_nil)
      (pss_one (ps_ret (pe_dget (hu_of hr) (pe_fld (pv 0) rfl) (pv 4) (fun _ _ => rfl)))))))), ?_⟩
    refine ⟨_, rfl, rfl, _, rfl, ite2 (fun e => ?_) (fun e => ?_)⟩
    · obtain rfl : c = 1 := inat (y := 1) e
      have eA := hA.fn .t
      exact ⟨_, rfl, ret H a B (fun _ _ h => h) hB ⟨wB, fun r => by rw [eA]; exact (if_pos rfl).symm⟩⟩
    refine ⟨_, rfl, _, rfl, rfl, _, rfl, ite2 (fun e2 => ?_) (fun e2 => ?_)⟩
    · obtain rfl := inat e2
      have eB := hB.fn hD
      exact ⟨_, rfl, ret H a B (fun _ _ h => h) hB ⟨wB, fun r => by rw [← eB]; split <;> rfl⟩⟩
    refine ⟨_, rfl, rfl, _, rfl, ite2 (fun e3 => ?_) (fun e3 => ?_)⟩
    · obtain rfl : c = 0 := inat (y := 0) e3
      have eA := hA.fn .f
      exact ⟨_, rfl, ret H b D (fun _ _ h => h) hD ⟨wD, fun r => by rw [eA]; exact (if_neg Bool.false_ne_true).symm⟩⟩
    have hc2 : 2 ≤ c := by
      have g1 : c ≠ 1 := fun z => e (by subst z; exact decide_eq_true rfl)
      have g0 : c ≠ 0 := fun z => e3 (by subst z; exact decide_eq_true rfl)
      omega
    refine ⟨_, rfl, _, rfl, _, rfl, by show 3 ≤ sizeLine; decide, fun tp ntp => ?_⟩
    have s1 := same_upd ntp (o := .tup [.int ((c : Nat) : Int), .int ((a : Nat) : Int), .int ((b : Nat) : Int)])
    have et : (upd H tp (.tup [.int ((c : Nat) : Int), .int ((a : Nat) : Int), .int ((b : Nat) : Int)])) tp = some (.tup ((ky3 c a b).map kV)) := upd_same
    generalize upd H tp (.tup [.int ((c : Nat) : Int), .int ((a : Nat) : Int), .int ((b : Nat) : Int)]) = H1 at s1 et
    have st1 := st.ext s1
    obtain ⟨⟨dx, hp⟩, _, _, ⟨cvs, hm, hcl, hco⟩, _⟩ := id st1
    refine ⟨_, rfl, _, rfl, s.p, C, dx, _, _, rfl, hp, G.cl, G.nM, sf_comb s, s.m, _, rfl, DGet.t hm et, _, rfl, ?_⟩
    cases ev : valV cvs (ky3 c a b) with
    | some v =>
      obtain ⟨r, A', B', D', T, rfl, h1, h2, h3, h4, h5⟩ := hco _ _ _ _ ev
      have e1 := h1.fn hA
      have e2' := h2.fn hB
      have e3' := h3.fn hD
      subst e1 e2' e3'
      refine iteF ⟨_, rfl, s.p, C, dx, _, _, rfl, hp, G.cl, G.nM, sf_comb s, _, rfl, s.m, .int ((r : Nat) : Int), rfl, ?_, ?_⟩
      · have := DGet.t hm et
        rw [ev] at this
        exact this
      · refine ret H1 r T s1 h4 (ite_low (pre := pre) (by rw [← he]; exact st.es_nd) wA wB wD (by rw [← he]; exact h5))
    | none =>
      refine iteT ?_
      refine ⟨_, rfl, st1.go (by decide +kernel) (by decide +kernel) (by decide +kernel) ⟨_, rfl, ?_⟩⟩
      refine ⟨s, N, es, L, pre, es', tp, [(c, A), (a, B), (b, D)], rfl, st1, .of et, he, Nat.le_refl _, ?_, ⟨(c, A), List.mem_cons_self, hc2⟩, fun H2 pre2 x es2 s2 ee hw => ?_⟩
      · intro y hy
        simp only [List.mem_cons, List.not_mem_nil, or_false] at hy
        rcases hy with rfl | rfl | rfl
        · exact ⟨hA, wA⟩
        · exact ⟨hB, wB⟩
        · exact ⟨hD, wD⟩
      have st2 := st1.ext s2
      have vA := hw (c, A) (by simp)
      have vB := hw (a, B) (by simp)
      have vD := hw (b, D) (by simp)
      have hx : x ∉ es2 := by
        have := st.es_nd
        rw [he, ee] at this
        exact (List.nodup_cons.mp (List.nodup_append.mp (List.nodup_append.mp this).2.1).2.1).1
      refine ⟨_, rfl, st2.go (by decide +kernel) (by decide +kernel) (by decide +kernel) ⟨_, rfl, _, rfl, ?_⟩⟩
      refine ⟨s, N, es, L, x, es2, c, A, rfl, st2, hA, vA, hx, fun H3 q3 w1 t1 s3 e3 hw1 ht1 => ?_⟩
      refine ⟨q3, _, rfl, .of e3, rfl, _, _, rfl, _, _, rfl, rfl, ?_⟩
      have st3 := st2.ext s3
      refine ⟨_, rfl, st3.go (by decide +kernel) (by decide +kernel) (by decide +kernel) ⟨_, rfl, _, rfl, ?_⟩⟩
      refine ⟨s, N, es, L, x, es2, a, B, rfl, st3, hB, vB, hx, fun H4 q4 w2 t2 s4 e4 hw2 ht2 => ?_⟩
      refine ⟨q4, _, rfl, .of e4, rfl, _, _, rfl, _, _, rfl, rfl, ?_⟩
      have st4 := st3.ext s4
      refine ⟨_, rfl, st4.go (by decide +kernel) (by decide +kernel) (by decide +kernel) ⟨_, rfl, _, rfl, ?_⟩⟩
      refine ⟨s, N, es, L, x, es2, b, D, rfl, st4, hD, vD, hx, fun H5 q5 w3 t3 s5 e5 hw3 ht3 => ?_⟩
      refine ⟨q5, _, rfl, .of e5, rfl, _, _, rfl, _, _, rfl, rfl, ?_⟩
      have st5 := st4.ext s5
      have s25 := ((s2.trans s3).trans s4).trans s5
      have et5 := s25 _ _ et
      have lee : es'.length = pre2.length + (es2.length + 1) := by rw [ee, List.length_append, List.length_cons]
      have hpow : 2 ^ es2.length + 2 ^ es2.length ≤ 2 ^ es'.length := by
        have : 2 ^ (es2.length + 1) ≤ 2 ^ es'.length := Nat.pow_le_pow_right (by decide) (by omega)
        rw [Nat.pow_succ] at this
        omega
      have hp2 : 1 ≤ 2 ^ es2.length := Nat.one_le_two_pow
      have he2 : es = (pre ++ pre2 ++ [x]) ++ es2 := by rw [he, ee]; simp
      refine ⟨_, rfl, st5.go (by decide +kernel) (by decide +kernel) (by decide +kernel) ⟨_, rfl, ?_⟩⟩
      refine ⟨_, rfl, st5.go (by decide +kernel) (by decide +kernel) (by decide +kernel) ⟨_, rfl, _, rfl, _, rfl, ?_⟩⟩
      refine ⟨s, N, es, L, pre ++ pre2 ++ [x], es2, w1, w2, w3, A.cw x, B.cw x, D.cw x, rfl, st5, he2, by omega, hw1, hw2, hw3, (vA.cw hx).1, (vB.cw hx).1, (vD.cw hx).1, by omega, by omega, fun H6 M1 r1 T1 f6 l1 st6 a1 i1 => ?_⟩
      refine ⟨_, rfl, st6.go (by decide +kernel) (by decide +kernel) (by decide +kernel) ⟨_, rfl, _, rfl, _, rfl, ?_⟩⟩
      refine ⟨s, N ++ M1, es, _, pre ++ pre2 ++ [x], es2, t1, t2, t3, A.ct x, B.ct x, D.ct x, rfl, st6, he2, by omega, ht1.mono, ht2.mono, ht3.mono, (vA.ct hx).1, (vB.ct hx).1, (vD.ct hx).1, by rw [List.length_append]; omega, by omega, fun H7 M2 r2 T2 f7 l2 st7 a2 i2 => ?_⟩
      refine ⟨s, (N ++ M1) ++ M2, es, _, x, r1, r2, T1, T2, rfl, st7, a1.mono, a2, by rw [List.length_append, List.length_append]; omega, fun H8 M3 r f8 l3 st8 a3 => ?_⟩
      have f58 := (f6.trans f7).trans f8
      have et8 := st5.tup f58 _ _ (.inl ⟨_, rfl⟩) et5
      have eN : N ++ M1 ++ M2 ++ M3 = N ++ (M1 ++ M2 ++ M3) := by simp only [List.append_assoc]
      rw [eN] at st8 a3
      have hI : IsIte es' A B D (mkB x T1 T2) := by
        rw [ee]
        exact (ite_step hx vA vB vD i1 i2).skips pre2
      obtain ⟨cv8, hm8, hl8, st9, f9⟩ := st8.put (hA.mono (M := M1 ++ M2 ++ M3)) (hB.mono (M := M1 ++ M2 ++ M3)) (hD.mono (M := M1 ++ M2 ++ M3)) a3 (by rw [he]; exact hI.skips pre)
      obtain ⟨dx8, hp8⟩ := st8.ins
      refine ⟨_, rfl, s.p, C, dx8, _, _, rfl, hp8, G.cl, G.nM, sf_comb s, _, rfl, s.m, _, rfl, DPut.t hm8 et8 (by omega), ?_⟩
      obtain ⟨dx9, hp9⟩ := st9.ins
      have et9 := st8.tup f9 _ _ (.inl ⟨_, rfl⟩) et8
      have em9 : (upd H8 s.m (.dT (putK cv8 (ky3 c a b) (.int ((r : Nat) : Int))))) s.m = some (.dT (putK cv8 (ky3 c a b) (.int ((r : Nat) : Int)))) := upd_same
      refine ⟨_, rfl, s.p, C, dx9, _, _, rfl, hp9, G.cl, G.nM, sf_comb s, _, rfl, s.m, .int ((r : Nat) : Int), rfl, ?_, ?_⟩
      · have := DGet.t em9 et9
        rw [valV_put, if_pos rfl] at this
        exact this
      · refine q _ (M1 ++ M2 ++ M3) r _ (((FdS.of (s1.trans s25)).trans f58).trans f9) ?_ (st9.more ?_) a3 hI
        · rw [List.length_append, List.length_append]
          omega
        · omega
end

/-! ### the operations, and what is said of a condition -/
theorem inV_int (e : Int) (ps : List Int) : inV (.int e) (ps.map V.int) = decide (e ∈ ps) := by
  unfold inV
  rw [List.any_map]
  by_cases h : e ∈ ps
  · rw [decide_eq_true h, List.any_eq_true]
    exact ⟨e, h, beq_self_eq_true e⟩
  · rw [decide_eq_false h]
    cases h2 : ps.any ((fun y => eqV y (.int e)) ∘ V.int) with
    | false => rfl
    | true =>
      exfalso
      obtain ⟨y, hy, hb⟩ := List.any_eq_true.mp h2
      have : y = e := eq_of_beq hb
      exact h (this ▸ hy)
theorem ints_flat (ps : List Int) : (ps.map V.int).all flatV = true := by
  rw [List.all_map]
  exact List.all_eq_true.mpr fun _ _ => rfl
def Bd.ht : Bd → Nat
  | .lf _ => 0
  | .nd _ w t => max w.ht t.ht + 1
def sp_there (C : Addr) (K : PySem.W.Frag) : Sp := fun vs H Q _ => ∃ s N es L x, vs = [.ref s.p, .int x] ∧ Sto C K H s N es L ∧ N.length + 1 < sizeLine ∧
  ∀ H' M r, FdS s H H' → M.length ≤ 1 → Sto C K H' s (N ++ M) es L → At (N ++ M) r (.nd x (.lf false) (.lf true)) → Q (.int ((r : Nat) : Int)) H'
def opB (es : List Int) : Nat := 2 * 2 ^ es.length
def sp_op2 (C : Addr) (K : PySem.W.Frag) (n : Nat) (f : Bool → Bool → Bool) : Sp := fun vs H Q _ => ∃ s N es L a b A B, vs = [.ref s.p, .int ((a : Nat) : Int), .int ((b : Nat) : Int)] ∧ Sto C K H s N es L ∧ es.length < n ∧ At N a A ∧ At N b B ∧ Wf es A ∧ Wf es B ∧ N.length + opB es < sizeLine ∧ L + opB es < sizeLine ∧
  ∀ H' M r T, FdS s H H' → M.length ≤ opB es → Sto C K H' s (N ++ M) es (L + opB es) → At (N ++ M) r T → Wf es T → (∀ ρ, T.ev ρ = f (A.ev ρ) (B.ev ρ)) → Q (.int ((r : Nat) : Int)) H'
def sp_neg (C : Addr) (K : PySem.W.Frag) (n : Nat) : Sp := fun vs H Q _ => ∃ s N es L a A, vs = [.ref s.p, .int ((a : Nat) : Int)] ∧ Sto C K H s N es L ∧ es.length < n ∧ At N a A ∧ Wf es A ∧ N.length + 2 ^ es.length < sizeLine ∧ L + 2 ^ es.length < sizeLine ∧
  ∀ H' M r T, FdS s H H' → M.length ≤ 2 ^ es.length → Sto C K H' s (N ++ M) es (L + 2 ^ es.length) → At (N ++ M) r T → Wf es T → (∀ ρ, T.ev ρ = !(A.ev ρ)) → Q (.int ((r : Nat) : Int)) H'
def sp_holds (C : Addr) (K : PySem.W.Frag) : Sp := fun vs H Q _ => ∃ s N es L c A a, ∃ ps : List Int, vs = [.ref s.p, .int ((c : Nat) : Int), .ref a] ∧ Sto C K H s N es L ∧ At N c A ∧ SqL K H a (ps.map V.int) ∧ Q (.bl (A.ev fun e => decide (e ∈ ps))) H
def sp_dinit (C : Addr) (K : PySem.W.Frag) : Sp := fun vs H Q _ => ∃ p dx, vs = [.ref p] ∧ H p = some (.ins C dx []) ∧ ∀ H' s, s.p = p → Fd p H H' → H s.k = none → H s.u = none → H s.m = none → (∀ es : List Int, es.Pairwise (· < ·) → Sto C K H' s [] es 0) → Q .non H'
theorem dk1 : ¬ (("kept" : Str) = "numbers") := by decide +kernel
theorem dk2 : ¬ (("kept" : Str) = "combined") := by decide +kernel
theorem dk3 : ¬ (("numbers" : Str) = "combined") := by decide +kernel
theorem sf_mk (s : SA) : putF "combined" (.ref s.m) (putF "numbers" (.ref s.u) (putF "kept" (.ref s.k) [])) = sfl s := by
  unfold sfl
  simp only [putF, if_neg dk1, if_neg dk2, if_neg dk3]
section
variable {P : Program} {w : World} {K : PySem.W.Frag} {mg : Str → Option Value} {base : Heap}
theorem bu_ne {C : Addr} {sa : SA} {N : Nds} {es : List Int} {L : Nat} {H : Hp} {B : Addr} (st : Sto C K H sa N es L) (nB : H B = none) : B ≠ sa.k ∧ B ≠ sa.u ∧ B ≠ sa.m := by
  obtain ⟨_, ⟨_, g1, _⟩, ⟨_, g2, _⟩, ⟨_, g3, _⟩, _⟩ := st
  exact ⟨(ne_of_none g1 nB).symm, (ne_of_none g2 nB).symm, (ne_of_none g3 nB).symm⟩
theorem cl_comb {f C : Addr} {fd : FuncData} (F : Fun K "combine" "Diagrams.combine" s_Diagrams_combine f fd) (M : Mg mg) (G : DgC K C mg) (mt : Meth K C "combine" f) (bi : Binds K fd ["self", "condition", "first", "second"] []) (c_Diagrams_node : ClM P w K mg base 1 C "node" (sp_node C K)) (c_Diagrams_top : ClM P w K mg base 2 C "top" (sp_top C K)) (c_Diagrams_branches : ClM P w K mg base 2 C "branches" (sp_bra C K)) :
    ∀ n, ClM P w K mg base (n + 2) C "combine" (sp_comb C K n)
  | 0 => FnOk.clm (P := P) (w := w) (base := base) (mg := mg) (F.ok sc_Diagrams_combine (fun vs H Q E h => by obtain ⟨s, N, es, L, pre, es', c, a, b, A, B, D, rfl, _⟩ := h; rfl) (fun cdv A outer s H vs Q E hr h => by obtain ⟨s, N, es, L, pre, es', c, a, b, A, B, D, rfl, st, he, hn, _⟩ := h; omega)) mt G.cl bi
  | n + 1 => FnOk.clm (ok_comb n F M G c_Diagrams_node c_Diagrams_top c_Diagrams_branches (cl_comb F M G mt bi c_Diagrams_node c_Diagrams_top c_Diagrams_branches n)) mt G.cl bi
theorem ok_there {f C : Addr} {fd : FuncData} (F : Fun K "there" "Diagrams.there" s_Diagrams_there f fd) (M : Mg mg) (G : DgC K C mg) (c_Diagrams_node : ClM P w K mg base 1 C "node" (sp_node C K)) : FnOk P w K mg base CX0 2 f fd ["self", "entry"] (sp_there C K) := by
  refine F.ok sc_Diagrams_there (fun vs H Q E h => ?_) (fun cdv A outer s H vs Q E hr h => ?_)
  · obtain ⟨s, N, es, L, x, rfl, _⟩ := h
    rfl
  · obtain ⟨s, N, es, L, x, rfl, st, hz, q⟩ := h
    refine ⟨_, (pss_one (ps_ret (pe_mt c_Diagrams_node hr (by first | decide | omega) (pv 0) (pa_cons (pv 1) (pa_cons (C8.pe_gc (by rfl) G.NEVER) (pa_cons (C8.pe_gc (by rfl) G.ALWAYS) pa_nil)))))), ?_⟩
    refine ⟨_, rfl, st.go (by decide +kernel) (by decide +kernel) (by decide +kernel) ⟨_, rfl, ?_⟩⟩
    exact ⟨s, N, es, L, x, 0, 1, _, _, rfl, st, .f, .t, hz, fun H' M r f l st' a => q H' M r f l st' a⟩
theorem opB_ge (es : List Int) : 2 ^ es.length + 2 ^ es.length = opB es := by unfold opB; omega
theorem ok_conj {n : Nat} {f C : Addr} {fd : FuncData} (F : Fun K "conjunction" "Diagrams.conjunction" s_Diagrams_conjunction f fd) (M : Mg mg) (G : DgC K C mg) (c_Diagrams_combine : ClM P w K mg base (n + 2) C "combine" (sp_comb C K n)) : FnOk P w K mg base CX0 (n + 3) f fd ["self", "first", "second"] (sp_op2 C K n and) := by
  refine F.ok sc_Diagrams_conjunction (fun vs H Q E h => ?_) (fun cdv A outer s H vs Q E hr h => ?_)
  · obtain ⟨s, N, es, L, a, b, A, B, rfl, _⟩ := h
    rfl
  · obtain ⟨s, N, es, L, a, b, A, B, rfl, st, hn, hA, hB, wA, wB, z1, z2, q⟩ := h
    have ob := opB_ge es
    refine ⟨_, (pss_one (ps_ret (pe_mt c_Diagrams_combine hr (by first | decide | omega) (pv 0) (pa_cons (pv 1) (pa_cons (pv 2) (pa_cons (C8.pe_gc (by rfl) G.NEVER) pa_nil)))))), ?_⟩
    refine ⟨_, rfl, st.go (by decide +kernel) (by decide +kernel) (by decide +kernel) ⟨_, rfl, _, rfl, ?_⟩⟩
    refine ⟨s, N, es, L, [], es, a, b, 0, A, B, _, rfl, st, rfl, hn, hA, hB, .f, wA, wB, .lf, by omega, by omega, fun H' M r T f l st' a i => q H' M r T f (by omega) (st'.more (by omega)) a i.1 fun ρ => ?_⟩
    rw [i.2]
    cases A.ev ρ <;> rfl
theorem ok_disj {n : Nat} {f C : Addr} {fd : FuncData} (F : Fun K "disjunction" "Diagrams.disjunction" s_Diagrams_disjunction f fd) (M : Mg mg) (G : DgC K C mg) (c_Diagrams_combine : ClM P w K mg base (n + 2) C "combine" (sp_comb C K n)) : FnOk P w K mg base CX0 (n + 3) f fd ["self", "first", "second"] (sp_op2 C K n or) := by
  refine F.ok sc_Diagrams_disjunction (fun vs H Q E h => ?_) (fun cdv A outer s H vs Q E hr h => ?_)
  · obtain ⟨s, N, es, L, a, b, A, B, rfl, _⟩ := h
    rfl
  · obtain ⟨s, N, es, L, a, b, A, B, rfl, st, hn, hA, hB, wA, wB, z1, z2, q⟩ := h
    have ob := opB_ge es
    refine ⟨_, (pss_one (ps_ret (pe_mt c_Diagrams_combine hr (by first | decide | omega) (pv 0) (pa_cons (pv 1) (pa_cons (C8.pe_gc (by rfl) G.ALWAYS) (pa_cons (pv 2) pa_nil)))))), ?_⟩
    refine ⟨_, rfl, st.go (by decide +kernel) (by decide +kernel) (by decide +kernel) ⟨_, rfl, _, rfl, ?_⟩⟩
    refine ⟨s, N, es, L, [], es, a, 1, b, A, _, B, rfl, st, rfl, hn, hA, .t, hB, wA, .lf, wB, by omega, by omega, fun H' M r T f l st' a i => q H' M r T f (by omega) (st'.more (by omega)) a i.1 fun ρ => ?_⟩
    rw [i.2]
    cases A.ev ρ <;> rfl
theorem ok_neg {n : Nat} {f C : Addr} {fd : FuncData} (F : Fun K "negation" "Diagrams.negation" s_Diagrams_negation f fd) (M : Mg mg) (G : DgC K C mg) (c_Diagrams_combine : ClM P w K mg base (n + 2) C "combine" (sp_comb C K n)) : FnOk P w K mg base CX0 (n + 3) f fd ["self", "condition"] (sp_neg C K n) := by
  refine F.ok sc_Diagrams_negation (fun vs H Q E h => ?_) (fun cdv A outer s H vs Q E hr h => ?_)
  · obtain ⟨s, N, es, L, a, A, rfl, _⟩ := h
    rfl
  · obtain ⟨s, N, es, L, a, A, rfl, st, hn, hA, wA, z1, z2, q⟩ := h
    refine ⟨_, (pss_one (ps_ret (pe_mt c_Diagrams_combine hr (by first | decide | omega) (pv 0) (pa_cons (pv 1) (pa_cons (C8.pe_gc (by rfl) G.NEVER) (pa_cons (C8.pe_gc (by rfl) G.ALWAYS) pa_nil)))))), ?_⟩
    refine ⟨_, rfl, st.go (by decide +kernel) (by decide +kernel) (by decide +kernel) ⟨_, rfl, ?_⟩⟩
    refine ⟨s, N, es, L, [], es, a, 0, 1, A, _, _, rfl, st, rfl, hn, hA, .f, .t, wA, .lf, .lf, by omega, by omega, fun H' M r T f l st' a i => q H' M r T f (by omega) (st'.more (by omega)) a i.1 fun ρ => ?_⟩
    rw [i.2]
    cases A.ev ρ <;> rfl
theorem ok_diff {n : Nat} {f C : Addr} {fd : FuncData} (F : Fun K "differs" "Diagrams.differs" s_Diagrams_differs f fd) (M : Mg mg) (G : DgC K C mg) (c_Diagrams_combine : ClM P w K mg base (n + 2) C "combine" (sp_comb C K n)) (c_Diagrams_negation : ClM P w K mg base (n + 3) C "negation" (sp_neg C K n)) : FnOk P w K mg base CX0 (n + 4) f fd ["self", "first", "second"] (sp_op2 C K n bne) := by
  refine F.ok sc_Diagrams_differs (fun vs H Q E h => ?_) (fun cdv A outer s H vs Q E hr h => ?_)
  · obtain ⟨s, N, es, L, a, b, A, B, rfl, _⟩ := h
    rfl
  · obtain ⟨s, N, es, L, a, b, A, B, rfl, st, hn, hA, hB, wA, wB, z1, z2, q⟩ := h
    have ob := opB_ge es
    refine ⟨_, (pss_one (ps_ret (pe_mt c_Diagrams_combine hr (by first | decide | omega) (pv 0) (pa_cons (pv 1) (pa_cons (pe_mt c_Diagrams_negation hr (by first | decide | omega) (pv 0) (pa_cons (pv 2) pa_nil)) (pa_cons (pv 2) pa_nil)))))), ?_⟩
    refine ⟨_, rfl, st.go (by decide +kernel) (by decide +kernel) (by decide +kernel) ⟨_, rfl, ?_⟩⟩
    refine ⟨_, rfl, st.go (by decide +kernel) (by decide +kernel) (by decide +kernel) ⟨_, rfl, ?_⟩⟩
    refine ⟨s, N, es, L, b, B, rfl, st, hn, hB, wB, by omega, by omega, fun H1 M1 r1 T1 f1 l1 st1 a1 w1 v1 => ?_⟩
    refine ⟨_, rfl, ?_⟩
    refine ⟨s, N ++ M1, es, _, [], es, a, r1, b, A, T1, B, rfl, st1, rfl, hn, hA.mono, a1, hB.mono, wA, w1, wB, by rw [List.length_append]; omega, by omega, fun H2 M2 r2 T2 f2 l2 st2 a2 i2 => ?_⟩
    rw [List.append_assoc] at st2 a2
    refine q H2 (M1 ++ M2) r2 T2 (f1.trans f2) (by rw [List.length_append]; omega) (st2.more (by omega)) a2 i2.1 fun ρ => ?_
    rw [i2.2, v1]
    cases A.ev ρ <;> cases B.ev ρ <;> rfl
theorem ok_dinit {f C : Addr} {fd : FuncData} (F : Fun K "__init__" "Diagrams.__init__" s_Diagrams___init__ f fd) (G : DgC K C mg) : FnOk P w K mg base CX0 1 f fd ["self"] (sp_dinit C K) := by
  refine F.ok sc_Diagrams___init__ (fun vs H Q E h => ?_) (fun cdv A outer s H vs Q E hr h => ?_)
  · obtain ⟨p, dx, rfl, _⟩ := h
    rfl
  · obtain ⟨p, dx, rfl, hp, q⟩ := h
    refine ⟨_, (pss_cons (ps_fld (pv 0) (pe_lst pa_nil) rfl)
      (pss_cons (ps_fld (pv 0) pe_dnewT rfl)
      (pss_one (ps_fld (pv 0) pe_dnewT rfl)))), ?_⟩
    refine ⟨by show 0 ≤ sizeLine; decide, fun k nk => ?_⟩
    have npk : p ≠ k := ne_of_none hp nk
    have e1 : (upd H k (.lst [])) p = some (.ins C dx []) := by rw [upd_ne npk]; exact hp
    refine ⟨_, rfl, p, C, dx, [], rfl, e1, G.cl, G.nK, by show 0 < 1000; decide, ?_⟩
    have f1 : Fd p H (upd (upd H k (.lst [])) p (.ins C dx (putF "kept" (.ref k) []))) := Fd.trans (Fd.new nk) Fd.at
    have ek1 : (upd (upd H k (.lst [])) p (.ins C dx (putF "kept" (.ref k) []))) k = some (.lst []) := by rw [upd_ne npk.symm, upd_same]
    have ep1 : (upd (upd H k (.lst [])) p (.ins C dx (putF "kept" (.ref k) []))) p = some (.ins C dx (putF "kept" (.ref k) [])) := upd_same
    generalize upd (upd H k (.lst [])) p (.ins C dx (putF "kept" (.ref k) [])) = H1 at f1 ek1 ep1
    intro u nu
    have npu : p ≠ u := ne_of_none ep1 nu
    have hu0 : H u = none := by
      cases e : H u with
      | none => rfl
      | some o => exact absurd (f1 u o npu.symm e) (by rw [nu]; exact fun z => nomatch z)
    have nku : k ≠ u := ne_of_none ek1 nu
    have e2 : (upd H1 u (.dT [])) p = some (.ins C dx (putF "kept" (.ref k) [])) := by rw [upd_ne npu]; exact ep1
    refine ⟨_, rfl, p, C, dx, _, rfl, e2, G.cl, G.nN, by show 1 < 1000; decide, ?_⟩
    have f2 : Fd p H1 (upd (upd H1 u (.dT [])) p (.ins C dx (putF "numbers" (.ref u) (putF "kept" (.ref k) [])))) := Fd.trans (Fd.new nu) Fd.at
    have eu2 : (upd (upd H1 u (.dT [])) p (.ins C dx (putF "numbers" (.ref u) (putF "kept" (.ref k) [])))) u = some (.dT []) := by rw [upd_ne npu.symm, upd_same]
    have ep2 : (upd (upd H1 u (.dT [])) p (.ins C dx (putF "numbers" (.ref u) (putF "kept" (.ref k) [])))) p = some (.ins C dx (putF "numbers" (.ref u) (putF "kept" (.ref k) []))) := upd_same
    generalize upd (upd H1 u (.dT [])) p (.ins C dx (putF "numbers" (.ref u) (putF "kept" (.ref k) []))) = H2 at f2 eu2 ep2
    intro m nm
    have npm : p ≠ m := ne_of_none ep2 nm
    have f12 := f1.trans f2
    have hm0 : H m = none := by
      cases e : H m with
      | none => rfl
      | some o => exact absurd (f12 m o npm.symm e) (by rw [nm]; exact fun z => nomatch z)
    have num : u ≠ m := ne_of_none eu2 nm
    have ek2 := f2 k _ npk.symm ek1
    have e3 : (upd H2 m (.dT [])) p = some (.ins C dx (putF "numbers" (.ref u) (putF "kept" (.ref k) []))) := by rw [upd_ne npm]; exact ep2
    refine ⟨_, rfl, p, C, dx, _, rfl, e3, G.cl, G.nM, by show 2 < 1000; decide, ?_⟩
    have f3 : Fd p H2 (upd (upd H2 m (.dT [])) p (.ins C dx (putF "combined" (.ref m) (putF "numbers" (.ref u) (putF "kept" (.ref k) []))))) := Fd.trans (Fd.new nm) Fd.at
    have em3 : (upd (upd H2 m (.dT [])) p (.ins C dx (putF "combined" (.ref m) (putF "numbers" (.ref u) (putF "kept" (.ref k) []))))) m = some (.dT []) := by rw [upd_ne npm.symm, upd_same]
    refine q _ ⟨p, k, u, m⟩ rfl (f12.trans f3) nk hu0 hm0 fun es hes => ⟨⟨dx, ?_⟩, ⟨[], f3 _ _ npk.symm ek2, .nil⟩, ⟨[], f3 _ _ npu.symm eu2, Nat.le_refl _, ⟨fun _ _ _ _ => List.not_mem_nil, fun _ _ _ _ h => nomatch (show none = some _ from h)⟩⟩, ⟨[], em3, Nat.le_refl _, fun _ _ _ _ h => nomatch (show none = some _ from h)⟩, List.nodup_nil, num, hes⟩
    rw [upd_same]
    exact congrArg (fun z => some (HO.ins C dx z)) (sf_mk ⟨p, k, u, m⟩)
end

section
variable {P : Program} {w : World} {K : PySem.W.Frag} {mg : Str → Option Value} {base : Heap}
theorem ok_holds {f C : Addr} {fd : FuncData} (F : Fun K "holds" "Diagrams.holds" s_Diagrams_holds f fd) (M : Mg mg) (G : DgC K C mg) (c_Diagrams_node_of : ClM P w K mg base 1 C "node_of" (sp_nof C K)) : FnOk P w K mg base CX0 2 f fd ["self", "condition", "present"] (sp_holds C K) := by
  refine F.ok sc_Diagrams_holds (fun vs H Q E h => ?_) (fun cdv A outer s H vs Q E hr h => ?_)
  · obtain ⟨s, N, es, L, c, A, a, ps, rfl, _⟩ := h
    rfl
  · obtain ⟨s, N, es, L, c, A, a, ps, rfl, st, hA, ha, q⟩ := h
    refine ⟨_, (pss_cons (ps_set (i := 3) sc_Diagrams_holds.nd rfl (.inl rfl) (pv 1))
      (pss_cons (ps_while PassesOwn.never (pt_cmpR op_ge (pv 3) (C8.pe_gc (by rfl) G.FIRST_NODE) (nomark _)) (pss_cons (ps_asg (pe_mt c_Diagrams_node_of hr (by first | decide | omega) (pv 0) (pa_cons (pv 3) pa_nil)) (pg_tup (by rfl) (pgs_cons (pg_name (i := 4) sc_Diagrams_holds.nd rfl (.inl rfl)) (pgs_cons (pg_name (i := 5) sc_Diagrams_holds.nd rfl (.inl rfl)) (pgs_cons (pg_name (i := 6) sc_Diagrams_holds.nd rfl (.inl rfl)) pgs_nil)))))
      (pss_one (ps_set (i := 3) sc_Diagrams_holds.nd rfl (.inl rfl) (pe_ifExp (pt_cmpR (inK K) (pv 4) (pv 2) (by rfl)) (pv 6) (pv 5))))))
      (pss_one (ps_ret (pe_cmpR op_eq (pv 3) (C8.pe_gc (by rfl) G.ALWAYS) (nomark _)))))), ?_⟩
    refine ⟨_, rfl, ?_⟩
    refine ⟨fun m σ Hi => Hi = H ∧ ∃ c' A' z1 z2 z3, m = Bd.ht A' ∧ At N c' A' ∧ A'.ev (fun e => decide (e ∈ ps)) = A.ev (fun e => decide (e ∈ ps)) ∧ σ = [some (.ref s.p), some (.int ((c : Nat) : Int)), some (.ref a), some (.int ((c' : Nat) : Int)), z1, z2, z3], ⟨A.ht, rfl, c, A, none, none, none, rfl, hA, rfl, rfl⟩, ?_⟩
    rintro m σ Hi ⟨rfl, c', A', z1, z2, z3, rfl, hA', ev', rfl⟩
    refine ⟨_, rfl, _, _, rfl, rfl, _, rfl, ?_⟩
    refine ite2 (fun e => ?_) (fun e => ?_)
    · have h2 : 2 ≤ c' := by
        have := of_decide_eq_true e
        omega
      obtain ⟨e1, w1, t1, a1, b1, hn, hw1, ht1, ea⟩ := hA'.ge h2
      refine ⟨fun σ' H' => ∃ m', m' < A'.ht ∧ (H' = Hi ∧ ∃ c' A' z1 z2 z3, m' = Bd.ht A' ∧ At N c' A' ∧ A'.ev (fun e => decide (e ∈ ps)) = A.ev (fun e => decide (e ∈ ps)) ∧ σ' = [some (.ref s.p), some (.int ((c : Nat) : Int)), some (.ref a), some (.int ((c' : Nat) : Int)), z1, z2, z3]), fun _ _ h => h, ?_⟩
      refine ⟨_, rfl, st.go (by decide +kernel) (by decide +kernel) (by decide +kernel) ⟨_, rfl, ?_⟩⟩
      refine ⟨s, N, es, L, c', _, rfl, st, h2, hn, fun qa hq => ?_⟩
      refine ⟨qa, _, rfl, hq, rfl, _, _, rfl, _, _, rfl, _, _, rfl, rfl, ?_⟩
      refine ⟨_, rfl, _, rfl, a, _, rfl, .inl ha, rfl, ints_flat ps, _, rfl, ?_⟩
      rw [if_neg Bool.false_ne_true, inV_int]
      have ev2 : (if decide (e1 ∈ ps) = true then b1.ev (fun e => decide (e ∈ ps)) else a1.ev (fun e => decide (e ∈ ps))) = A.ev (fun e => decide (e ∈ ps)) := by
        rw [ea] at ev'
        exact ev'
      refine ite2 (fun e => ?_) (fun e => ?_)
      · rw [if_pos e] at ev2
        exact ⟨_, rfl, b1.ht, by rw [ea]; show _ < max _ _ + 1; omega, rfl, t1, b1, _, _, _, rfl, ht1, ev2, rfl⟩
      · rw [if_neg e] at ev2
        exact ⟨_, rfl, a1.ht, by rw [ea]; show _ < max _ _ + 1; omega, rfl, w1, a1, _, _, _, rfl, hw1, ev2, rfl⟩
    · have hv : decide (V.int ((c' : Nat) : Int) = V.int 1) = A.ev (fun e => decide (e ∈ ps)) := by
        rw [← ev']
        cases hA' with
        | f => exact decide_eq_false (by intro z; have := V.int.inj z; omega)
        | t => exact decide_eq_true rfl
        | nd _ _ _ => exact absurd (decide_eq_true (by omega)) e
      refine ⟨_, rfl, rfl, ?_⟩
      rw [hv]
      exact q
end

theorem wne (a b : String) (h : (Str.ofString a == Str.ofString b) = false) : decide (V.str (Str.ofString a) = V.str (Str.ofString b)) = false := by
  refine decide_eq_false fun e => ?_
  rw [V.str.inj e] at h
  have : (Str.ofString b == Str.ofString b) = true := beq_self_eq_true _
  rw [this] at h
  cases h
theorem weq (a : Str) : decide (V.str a = V.str a) = true := decide_eq_true rfl
section
variable {K : PySem.W.Frag}
/-- a tuple's word and the rest -/
theorem dp_tup {H : Hp} {p : V} {ds : List PyData} (h : Dp K H p (.tuple ds)) : ∃ a xs, p = .ref a ∧ SqT K H a xs ∧ DpAll K H xs ds := by
  cases h with
  | tup hs ha => exact ⟨_, _, rfl, hs, ha⟩
theorem dp_two {H : Hp} {xs : List V} {s : Str} {d : PyData} (h : DpAll K H xs [.str s, d]) : ∃ v, xs = [.str s, v] ∧ Dp K H v d := by
  cases h with
  | cons h1 h2 =>
    cases h1
    cases h2 with
    | cons h3 h4 =>
      cases h4
      exact ⟨_, rfl, h3⟩
theorem dp_three {H : Hp} {xs : List V} {s : Str} {d e : PyData} (h : DpAll K H xs [.str s, d, e]) : ∃ v u, xs = [.str s, v, u] ∧ Dp K H v d ∧ Dp K H u e := by
  cases h with
  | cons h1 h2 =>
    cases h1
    cases h2 with
    | cons h3 h4 =>
      cases h4 with
      | cons h5 h6 =>
        cases h6
        exact ⟨_, _, rfl, h3, h5⟩
end

/-! ### the laws' input rows and conditions -/
inductive Bo where
  | and | or | df
def Bo.s : Bo → String
  | .and => "and" | .or => "or" | .df => "differ"
def Bo.f : Bo → Bool → Bool → Bool
  | .and => Bool.and | .or => Bool.or | .df => bne
inductive Tr where
  | con (b : Bool)
  | ther (e : Int)
  | nt (a : Tr)
  | bin (o : Bo) (a b : Tr)
def Tr.d : Tr → PyData
  | .con b => .tuple [.str "constant", .int (if b = true then 1 else 0)]
  | .ther e => .tuple [.str "there", .int e]
  | .nt a => .tuple [.str "not", a.d]
  | .bin o a b => .tuple [.str (Str.ofString o.s), a.d, b.d]
def Tr.ht : Tr → Nat
  | .nt a => a.ht + 1
  | .bin _ a b => max a.ht b.ht + 1
  | _ => 0
def Tr.sz : Tr → Nat
  | .nt a => a.sz + 1
  | .bin _ a b => a.sz + b.sz + 1
  | _ => 1
def Tr.ok (es : List Int) : Tr → Prop
  | .con _ => True
  | .ther e => e ∈ es
  | .nt a => a.ok es
  | .bin _ a b => a.ok es ∧ b.ok es
def Tr.ev : Tr → (Int → Bool) → Bool
  | .con b, _ => b
  | .ther e, r => r e
  | .nt a, r => !(a.ev r)
  | .bin o a b, r => o.f (a.ev r) (b.ev r)
theorem tr_only : ∀ t : Tr, tupOnly t.d = true
  | .con _ => rfl
  | .ther _ => rfl
  | .nt a => by simp [Tr.d, tupOnly, tupOnlys, tr_only a]
  | .bin _ a b => by simp [Tr.d, tupOnly, tupOnlys, tr_only a, tr_only b]
theorem tr_sz : ∀ t : Tr, t.sz + 1 ≤ 2 ^ (t.ht + 1)
  | .con _ => Nat.le_refl _
  | .ther _ => Nat.le_refl _
  | .nt a => by
    have := tr_sz a
    show a.sz + 1 + 1 ≤ 2 ^ (a.ht + 1 + 1)
    rw [Nat.pow_succ]
    have : 1 ≤ 2 ^ (a.ht + 1) := Nat.one_le_two_pow
    omega
  | .bin _ a b => by
    have h1 := Nat.le_trans (tr_sz a) (Nat.pow_le_pow_right (by decide) (show a.ht + 1 ≤ max a.ht b.ht + 1 by omega))
    have h2 := Nat.le_trans (tr_sz b) (Nat.pow_le_pow_right (by decide) (show b.ht + 1 ≤ max a.ht b.ht + 1 by omega))
    show a.sz + b.sz + 1 + 1 ≤ 2 ^ (max a.ht b.ht + 1 + 1)
    rw [Nat.pow_succ]
    omega
/-- it goes by the input rows of the list alone -/
theorem tr_agree {es : List Int} : ∀ {t : Tr} {r q : Int → Bool}, t.ok es → (∀ e ∈ es, r e = q e) → t.ev r = t.ev q
  | .con _, _, _, _, _ => rfl
  | .ther e, _, _, h, g => g e h
  | .nt a, r, q, h, g => congrArg not (tr_agree (t := a) h g)
  | .bin o a b, r, q, h, g => by
    show o.f _ _ = o.f _ _
    rw [tr_agree (t := a) h.1 g, tr_agree (t := b) h.2 g]
theorem wf_agree {es : List Int} {a : Bd} (h : Wf es a) : ∀ {r q : Int → Bool}, (∀ e ∈ es, r e = q e) → a.ev r = a.ev q := by
  induction h with
  | lf => intros; rfl
  | @here x es w t _ _ _ iw it =>
    intro r q g
    have gx := g x List.mem_cons_self
    have g' := fun e he => g e (List.mem_cons_of_mem _ he)
    show (if r x = true then t.ev r else w.ev r) = if q x = true then t.ev q else w.ev q
    rw [gx, iw g', it g']
  | skip _ ih =>
    intro r q g
    exact ih fun e he => g e (List.mem_cons_of_mem _ he)
/-- the input rows: a few, ascending -/
def EnA (H : Hp) (a d c : Addr) (es : List Int) (most : Nat) : Prop := a ≠ d ∧ a ≠ c ∧ H a = some (.lst (es.map V.int)) ∧ es.Pairwise (· < ·) ∧ 1 ≤ es.length ∧ es.length ≤ most ∧ ∀ e ∈ es, 0 ≤ e ∧ e < 1000
theorem EnA.fd {H H' : Hp} {a d c : Addr} {es : List Int} {most : Nat} (f : Fd d H H') (h : EnA H a d c es most) : EnA H' a d c es most := ⟨h.1, h.2.1, f _ _ h.1 h.2.2.1, h.2.2.2⟩
def sp_ents (most : Nat) : Sp := fun vs H Q _ => ∃ (d c : Addr), vs = [.ref d, .int (most : Nat)] ∧ 1 ≤ most ∧ most ≤ 8 ∧ Dr H d c ∧ ∀ H' a es, Fd d H H' → Dr H' d c → H a = none → EnA H' a d c es most → Q (.ref a) H'
def sp_ltr (K : PySem.W.Frag) (n : Nat) : Sp := fun vs H Q _ => ∃ (d c a : Addr) (es : List Int) (most m : Nat), vs = [.ref d, .ref a, .int (m : Nat)] ∧ m < n ∧ Dr H d c ∧ EnA H a d c es most ∧ most ≤ 8 ∧ ∀ H' p (t : Tr), Fd d H H' → Dr H' d c → t.ok es → t.ht ≤ m → Dp K H' p t.d → Q p H'
section
variable {P : Program} {w : World} {K : PySem.W.Frag} {mg : Str → Option Value} {base : Heap}
theorem ok_ents {f : Addr} {fd : FuncData} (most : Nat) (F : Fun K "_law_entries" "_law_entries" s__law_entries f fd) (M : Mg mg) (c__law_next : Cl P w K mg base 1 "_law_next" sp_next) : FnOk P w K mg base CX0 2 f fd ["draw", "most"] (sp_ents most) := by
  refine F.ok sc__law_entries (fun vs H Q E h => ?_) (fun cdv A outer s H vs Q E hr h => ?_)
  · obtain ⟨d, c, rfl, _⟩ := h
    rfl
  · obtain ⟨d, c, rfl, hm1, hm2, dr, q⟩ := h
    refine ⟨_, (pss_cons (ps_set (i := 2) sc__law_entries.nd rfl (.inl rfl) (pe_lst pa_nil))
      (pss_cons (ps_set (i := 3) sc__law_entries.nd rfl (.inl rfl) (pe_u c__law_next hr (by first | decide | omega) (by rfl) (pa_cons (pv 0) (pa_cons pe_int pa_nil))))
      (pss_cons (ps_for PassesOwn.never rfl (pi_range1 (by rfl) M.range (pa_cons (pe_op op_add pe_int (pe_u c__law_next hr (by first | decide | omega) (by rfl) (pa_cons (pv 0) (pa_cons (pv 1) pa_nil)))) pa_nil)) (pg_name (i := 4) sc__law_entries.nd rfl (.inl rfl)) (pss_cons (ps_expr (pe_bmK K PySem.F.plainAttrs_list PySem.F.slot_list_append PySem.F.type_list_append mt_append (pv 2) (pa_cons (pv 3) pa_nil)))
      (pss_one (ps_set (i := 3) sc__law_entries.nd rfl (.inl rfl) (pe_op op_add (pe_op op_add (pv 3) pe_int) (pe_op op_mul (pe_u c__law_next hr (by first | decide | omega) (by rfl) (pa_cons (pv 0) (pa_cons pe_int pa_nil))) (pe_u c__law_next hr (by first | decide | omega) (by rfl) (pa_cons (pv 0) (pa_cons pe_int pa_nil)))))))))
      (pss_one (ps_ret (pv 2)))))), ?_⟩
    refine ⟨by show 0 ≤ sizeLine; decide, fun a na => ?_⟩
    have nad := dr.nd na
    have nac := dr.nc na
    have dr1 := dr.ext (same_upd na (o := .lst []))
    refine ⟨_, rfl, d, c, 3, rfl, dr1, by decide, by decide, fun H2 r f2 _ dr2 r0 r1 => ?_⟩
    refine ⟨_, rfl, _, rfl, d, c, (most : Nat), rfl, dr2, by omega, by omega, fun H3 z f3 _ dr3 z0 z1 => ?_⟩
    refine ⟨_, _, rfl, rfl, _, rfl, by omega, by omega, ?_⟩
    have ea3 : H3 a = some (.lst (([] : List Int).map V.int)) := f3 _ _ nad (f2 _ _ nad upd_same)
    refine for_range (lo := 0) (n := (1 + z).toNat) (fun i σ Hi => Fd d H Hi ∧ Dr Hi d c ∧ ∃ (es : List Int) (last : Int) (y : Option V), σ = [some (.ref d), some (.int (most : Nat)), some (.ref a), some (.int last), y] ∧ Hi a = some (.lst (es.map V.int)) ∧ es.length = i ∧ es.Pairwise (· < ·) ∧ (∀ e ∈ es, 0 ≤ e ∧ e < last) ∧ 0 ≤ last ∧ last ≤ 2 + 100 * i) ⟨((Fd.new na).trans f2).trans f3, dr3, [], r, none, rfl, ea3, rfl, .nil, (fun _ h => by cases h), r0, by omega⟩ (fun i σ Hi hi hp => ?_) (fun σ Hn hp => ?_)
    · obtain ⟨fi, di, es, last, y, rfl, ea, el, ep, eb, l0, l1⟩ := hp
      refine ⟨_, rfl, .inl ⟨rfl, _, .inl (.inl ea)⟩, _, rfl, a, _, _, rfl, rfl, ea, by rw [List.length_map, el]; exact Nat.lt_of_lt_of_le (m := 100) (by omega) (by decide), ?_⟩
      have di2 := di.upd nad nac (o := .lst (es.map V.int ++ [.int last]))
      refine ⟨_, rfl, _, _, rfl, rfl, _, rfl, d, c, 2, rfl, di2, by decide, by decide, fun H5 r5 f5 _ dr5 r50 r51 => ?_⟩
      refine ⟨_, rfl, d, c, 90, rfl, dr5, by decide, by decide, fun H6 r6 f6 _ dr6 r60 r61 => ?_⟩
      refine ⟨_, _, rfl, rfl, .inl ⟨by omega, by omega⟩, _, _, rfl, rfl, ?_⟩
      have hmul : 0 ≤ r5 * r6 ∧ r5 * r6 ≤ 89 := by
        have : r5 = 0 ∨ r5 = 1 := by omega
        rcases this with rfl | rfl
        · simp
        · rw [Int.one_mul]; omega
      refine ⟨?_, dr6, es ++ [last], _, _, rfl, ?_, ?_, ?_, ?_, by omega, by omega⟩
      · intro b o nb e
        refine f6 _ _ nb (f5 _ _ nb ?_)
        rw [upd_ne (ne_of_none e na)]
        exact fi _ _ nb e
      · rw [f6 _ _ nad (f5 _ _ nad upd_same), List.map_append]
        rfl
      · rw [List.length_append, el]
        rfl
      · rw [List.pairwise_append]
        exact ⟨ep, List.pairwise_singleton _ _, fun x hx y hy => by rw [List.mem_singleton.mp hy]; exact (eb x hx).2⟩
      · intro e he
        rcases List.mem_append.mp he with he | he
        · have := eb e he
          omega
        · rw [List.mem_singleton.mp he]
          omega
    · obtain ⟨fi, di, es, last, y, rfl, ea, el, ep, eb, l0, l1⟩ := hp
      refine ⟨_, rfl, q Hn a es fi di na ⟨nad, nac, ea, ep, by omega, by omega, fun e he => ?_⟩⟩
      have := eb e he
      omega
theorem ok_ltr {f : Addr} {fd : FuncData} (n : Nat) (F : Fun K "_law_tree" "_law_tree" s__law_tree f fd) (M : Mg mg) (c__law_next : Cl P w K mg base 1 "_law_next" sp_next) (c__law_tree : Cl P w K mg base (n + 1) "_law_tree" (sp_ltr K n)) : FnOk P w K mg base CX0 (n + 2) f fd ["draw", "entries", "depth"] (sp_ltr K (n + 1)) := by
  refine F.ok sc__law_tree (fun vs H Q E h => ?_) (fun cdv A outer s H vs Q E hr h => ?_)
  · obtain ⟨d, c, a, es, most, m, rfl, _⟩ := h
    rfl
  · obtain ⟨d, c, a, es, most, m, rfl, hm, dr, en, hmo, q⟩ := h
    refine ⟨_, (pss_cons (ps_set (i := 3) sc__law_tree.nd rfl (.inl rfl) (pe_u c__law_next hr (by first | decide | omega) (by rfl) (pa_cons (pv 0) (pa_cons pe_int pa_nil))))
      (pss_cons (ps_if (PW.pt (pw_or (pt_cmpR op_eq (pv 2) pe_int (nomark _)) (pw_or1 (pt_cmpR op_lt (pv 3) pe_int (nomark _))))) (pss_cons (ps_if (pt_cmpR op_eq (pe_u c__law_next hr (by first | decide | omega) (by rfl) (pa_cons (pv 0) (pa_cons pe_int pa_nil))) pe_int (nomark _)) (pss_one (ps_ret (pe_tup (pa_cons pe_str (pa_cons (pe_u c__law_next hr (by first | decide | omega) (by rfl) (pa_cons (pv 0) (pa_cons pe_int pa_nil))) pa_nil))))) pss_nil)
      (pss_one (ps_ret (pe_tup (pa_cons pe_str (pa_cons (pe_ix (ix_listK K) (pv 1) (pe_u c__law_next hr (by first | decide | omega) (by rfl) (pa_cons (pv 0) (pa_cons (pe_callB (len_seqK K) (by rfl) M.len PySem.boot_len (pa_cons (pv 1) pa_nil)) pa_nil))) (fun _ _ => rfl)) pa_nil)))))) pss_nil)
      (pss_cons (ps_if (pt_cmpR op_eq (pv 3) pe_int (nomark _)) (pss_one (ps_ret (pe_tup (pa_cons pe_str (pa_cons (pe_u c__law_tree hr (by first | decide | omega) (by rfl) (pa_cons (pv 0) (pa_cons (pv 1) (pa_cons (pe_op op_sub (pv 2) pe_int) pa_nil)))) pa_nil))))) pss_nil)
      (pss_cons (ps_set (i := 4) sc__law_tree.nd rfl (.inl rfl) (pe_u c__law_tree hr (by first | decide | omega) (by rfl) (pa_cons (pv 0) (pa_cons (pv 1) (pa_cons (pe_op op_sub (pv 2) pe_int) pa_nil)))))
      (pss_one (ps_ret (pe_tup (pa_cons (pe_ix (ix_listK K) (pe_lst (pa_cons pe_str (pa_cons pe_str (pa_cons pe_str pa_nil)))) (pe_op op_mod (pv 3) pe_int) (fun _ _ => rfl)) (pa_cons (pv 4) (pa_cons (pe_u c__law_tree hr (by first | decide | omega) (by rfl) (pa_cons (pv 0) (pa_cons (pv 1) (pa_cons (pe_op op_sub (pv 2) pe_int) pa_nil)))) pa_nil)))))))))), ?_⟩
    refine ⟨_, rfl, d, c, 9, rfl, dr, by decide, by decide, fun H1 r f1 _ dr1 r0 r1 => ?_⟩
    have en1 := en.fd f1
    by_cases hd : m = 0 ∨ r < 2
    · refine ⟨_, rfl, rfl, _, rfl, ?_⟩
      refine ite2 (fun e => iteT ?_) (fun e => ⟨_, rfl, _, _, rfl, rfl, _, rfl, ?x⟩)
      case' x =>
        rw [decide_eq_true (show r < 2 by
          rcases hd with rfl | h
          · exact absurd (decide_eq_true rfl) e
          · exact h)]
        refine iteT ?_
      all_goals
        refine ⟨_, rfl, d, c, 12, rfl, dr1, by decide, by decide, fun H2 r2 f2 _ dr2 r20 r21 => ?_⟩
        have en2 := en1.fd f2
        refine ⟨rfl, _, rfl, ite2 (fun e => ?_) (fun e => ?_)⟩
        · refine ⟨_, rfl, d, c, 2, rfl, dr2, by decide, by decide, fun H3 r3 f3 _ dr3 r30 r31 => ?_⟩
          refine ⟨by show 2 ≤ sizeLine; decide, fun p np => ?_⟩
          obtain ⟨b, rfl⟩ : ∃ b : Bool, r3 = if b = true then 1 else 0 := by
            by_cases h : r3 = 1
            · exact ⟨true, h⟩
            · exact ⟨false, by show r3 = 0; omega⟩
          exact q _ _ (.con b) (((f1.trans f2).trans f3).trans (Fd.new np)) (dr3.ext (same_upd np)) trivial (Nat.zero_le _) (.tup (.inl (.inl upd_same)) (.cons (.str _) (.cons (.int _) .nil)))
        · refine ⟨_, rfl, _, rfl, _, rfl, a, _, rfl, .inl (.of en2.2.2.1), ?_⟩
          rw [List.length_map]
          have l1 := en2.2.2.2.2.1
          have l2 := en2.2.2.2.2.2.1
          refine ⟨d, c, _, rfl, dr2, by omega, by omega, fun H3 r3 f3 _ dr3 r30 r31 => ?_⟩
          obtain ⟨k3, rfl⟩ := Int.eq_ofNat_of_zero_le r30
          have hk3 : k3 < es.length := by omega
          have en3 := en2.fd f3
          refine ⟨a, _, _, .int es[k3], rfl, rfl, .of en3.2.2.1, atI_nat (by rw [List.getElem?_map, List.getElem?_eq_getElem hk3]; rfl), ?_⟩
          refine ⟨by show 2 ≤ sizeLine; decide, fun p np => ?_⟩
          exact q _ _ (.ther es[k3]) (((f1.trans f2).trans f3).trans (Fd.new np)) (dr3.ext (same_upd np)) (List.getElem_mem hk3) (Nat.zero_le _) (.tup (.inl (.inl upd_same)) (.cons (.str _) (.cons (.int _) .nil)))
    · obtain ⟨k, rfl⟩ : ∃ k, m = k + 1 := ⟨m - 1, by omega⟩
      have dec : [V.ref d, V.ref a, V.int (((k + 1 : Nat) : Int) - 1)] = [V.ref d, V.ref a, V.int (k : Nat)] := by rw [show (((k + 1 : Nat) : Int) - 1) = (k : Nat) by omega]
      refine ⟨_, rfl, rfl, _, rfl, ?_⟩
      rw [show decide (V.int ((k + 1 : Nat) : Int) = V.int 0) = false from decide_eq_false fun z => by have := V.int.inj z; omega]
      refine iteF ⟨_, rfl, _, _, rfl, rfl, _, rfl, ?_⟩
      rw [decide_eq_false (show ¬ r < 2 by omega)]
      refine iteF ?_
      refine ⟨_, rfl, rfl, _, rfl, ite2 (fun e => ?_) (fun e => ?_)⟩
      · refine ⟨_, rfl, _, rfl, _, rfl, _, _, rfl, rfl, d, c, a, es, most, k, dec, by omega, dr1, en1, hmo, fun H2 p1 t1 f2 dr2 ok1 ht1 dp1 => ?_⟩
        refine ⟨by show 2 ≤ sizeLine; decide, fun p np => ?_⟩
        exact q _ _ (.nt t1) ((f1.trans f2).trans (Fd.new np)) (dr2.ext (same_upd np)) ok1 (by show t1.ht + 1 ≤ k + 1; omega) (.tup (.inl (.inl upd_same)) (.cons (.str _) (.cons (Dp.ext (same_upd np) _ _ dp1) .nil)))
      · refine ⟨_, rfl, _, rfl, _, rfl, _, _, rfl, rfl, d, c, a, es, most, k, dec, by omega, dr1, en1, hmo, fun H2 p1 t1 f2 dr2 ok1 ht1 dp1 => ?_⟩
        refine ⟨by show 3 ≤ sizeLine; decide, fun wp nwp => ?_⟩
        have sw := same_upd nwp (o := .lst [.str "and", .str "or", .str "differ"])
        have ew : (upd H2 wp (.lst [.str "and", .str "or", .str "differ"])) wp = some (.lst [.str "and", .str "or", .str "differ"]) := upd_same
        generalize upd H2 wp (.lst [.str "and", .str "or", .str "differ"]) = H3 at sw ew
        have dr3 := dr2.ext sw
        have en3 := (en1.fd f2).fd (Fd.of sw)
        have dp3 := Dp.ext sw _ _ dp1
        have fin : ∀ (o : Bo), r % 3 = (match o with | .and => 0 | .or => 1 | .df => 2) → atI [V.str "and", V.str "or", V.str "differ"] (r % 3) = some (.str (Str.ofString o.s)) := fun o h => by
          rw [h]
          cases o with
          | and => exact atI_nat (j := 0) rfl
          | or => exact atI_nat (j := 1) rfl
          | df => exact atI_nat (j := 2) rfl
        obtain ⟨o, ho⟩ : ∃ o : Bo, r % 3 = (match o with | .and => 0 | .or => 1 | .df => 2) := by
          have : r % 3 = 0 ∨ r % 3 = 1 ∨ r % 3 = 2 := by omega
          rcases this with h | h | h
          · exact ⟨.and, h⟩
          · exact ⟨.or, h⟩
          · exact ⟨.df, h⟩
        refine ⟨_, rfl, _, _, rfl, rfl, by show (0 : Int) < 3; decide, wp, _, _, _, rfl, rfl, .of ew, fin o ho, ?_⟩
        refine ⟨_, rfl, ?_⟩
        refine ⟨_, rfl, _, rfl, _, rfl, _, _, rfl, rfl, d, c, a, es, most, k, dec, by omega, dr3, en3, hmo, fun H4 p2 t2 f4 dr4 ok2 ht2 dp2 => ?_⟩
        have dp4 := Dp.fd dr3.lst f4 _ _ (tr_only t1) dp3
        refine ⟨by show 3 ≤ sizeLine; decide, fun p np => ?_⟩
        exact q _ _ (.bin o t1 t2) ((((f1.trans f2).trans (Fd.of sw)).trans f4).trans (Fd.new np)) (dr4.ext (same_upd np)) ⟨ok1, ok2⟩ (by show max t1.ht t2.ht + 1 ≤ k + 1; omega) (.tup (.inl (.inl upd_same)) (.cons (.str _) (.cons (Dp.ext (same_upd np) _ _ dp4) (.cons (Dp.ext (same_upd np) _ _ dp2) .nil))))
theorem cl_ltr {f : Addr} {fd : FuncData} (F : Fun K "_law_tree" "_law_tree" s__law_tree f fd) (M : Mg mg) (g : mg "_law_tree" = some (.ref f)) (b : Binds K fd ["draw", "entries", "depth"] []) (c__law_next : Cl P w K mg base 1 "_law_next" sp_next) : ∀ n, Cl P w K mg base (n + 1) "_law_tree" (sp_ltr K n)
  | 0 => FnOk.cl (P := P) (w := w) (base := base) (F.ok sc__law_tree (fun vs H Q E h => by obtain ⟨d, c, a, es, most, m, rfl, _⟩ := h; rfl) (fun cdv A outer s H vs Q E hr h => by obtain ⟨d, c, a, es, most, m, rfl, hm, _⟩ := h; omega)) F g b
  | n + 1 => FnOk.cl (ok_ltr n F M c__law_next (cl_ltr F M g b c__law_next n)) F g b
end

/-! ### the laws' building of conditions, their truth, the sets -/
def sp_build (C : Addr) (K : PySem.W.Frag) (m n : Nat) : Sp := fun vs H Q _ => ∃ s N es L v t, vs = [.ref s.p, v] ∧ Sto C K H s N es L ∧ es.length < m ∧ Tr.ok es t ∧ Tr.ht t < n ∧ Dp K H v t.d ∧ N.length + t.sz * opB es < sizeLine ∧ L + t.sz * opB es < sizeLine ∧
  ∀ H' M r T, FdS s H H' → M.length ≤ t.sz * opB es → Sto C K H' s (N ++ M) es (L + t.sz * opB es) → At (N ++ M) r T → Wf es T → (∀ ρ, T.ev ρ = t.ev ρ) → Q (.int ((r : Nat) : Int)) H'
def sp_true (K : PySem.W.Frag) (n : Nat) : Sp := fun vs H Q _ => ∃ v a t, ∃ ps : List Int, vs = [v, .ref a] ∧ Dp K H v (Tr.d t) ∧ SqL K H a (ps.map V.int) ∧ t.ht < n ∧ Q (.bl (t.ev fun e => decide (e ∈ ps))) H
/-- all sets of input rows, in the law's order -/
def subs (es : List Int) : List (List Int) := es.foldl (fun f e => f ++ f.map (· ++ [e])) [[]]
theorem subs_snoc (es : List Int) (e : Int) : subs (es ++ [e]) = subs es ++ (subs es).map (· ++ [e]) := by
  unfold subs
  rw [List.foldl_append]
  rfl
theorem subs_len (es : List Int) : (subs es).length = 2 ^ es.length := by
  have h : ∀ (es : List Int) (f : List (List Int)), (es.foldl (fun f e => f ++ f.map (· ++ [e])) f).length = f.length * 2 ^ es.length := by
    intro es
    induction es with
    | nil => intro f; simp
    | cons e es ih =>
      intro f
      rw [List.foldl_cons, ih, List.length_append, List.length_map, List.length_cons, Nat.pow_succ, ← Nat.two_mul, Nat.mul_comm 2 f.length, Nat.mul_assoc, Nat.mul_comm 2]
  rw [subs, h]
  simp
theorem subs_le (es : List Int) : ∀ p ∈ subs es, p.length ≤ es.length ∧ ∀ e ∈ p, e ∈ es := by
  have h : ∀ (es all : List Int) (f : List (List Int)) (k : Nat), (∀ e ∈ es, e ∈ all) → (∀ p ∈ f, p.length ≤ k ∧ ∀ e ∈ p, e ∈ all) → ∀ p ∈ es.foldl (fun f e => f ++ f.map (· ++ [e])) f, p.length ≤ k + es.length ∧ ∀ e ∈ p, e ∈ all := by
    intro es all
    induction es with
    | nil => intro f k _ h; exact h
    | cons e es ih =>
      intro f k ha h p hp
      rw [List.foldl_cons] at hp
      have := ih _ (k + 1) (fun x hx => ha x (List.mem_cons_of_mem _ hx)) (fun q hq => by
        rcases List.mem_append.mp hq with hq | hq
        · have := h q hq
          exact ⟨by omega, this.2⟩
        · obtain ⟨q', hq', rfl⟩ := List.mem_map.mp hq
          have := h q' hq'
          refine ⟨by rw [List.length_append]; exact Nat.add_le_add_right this.1 1, fun x hx => ?_⟩
          rcases List.mem_append.mp hx with hx | hx
          · exact this.2 x hx
          · rw [List.mem_singleton.mp hx]
            exact ha e List.mem_cons_self) p hp
      rw [List.length_cons]
      exact ⟨by omega, this.2⟩
  intro p hp
  have := h es es [[]] 0 (fun _ h => h) (fun p hp => by rw [List.mem_singleton.mp hp]; exact ⟨Nat.le_refl _, fun _ h => by cases h⟩) p hp
  rw [Nat.zero_add] at this
  exact this
/-- a list of lists of numbers -/
def LL (H : Hp) (p : Addr) (ls : List (List Int)) : Prop := ∃ as : List Addr, H p = some (.lst (as.map V.ref)) ∧ as.length = ls.length ∧ ∀ (i : Nat) b l, as[i]? = some b → ls[i]? = some l → H b = some (.lst (l.map V.int))
theorem LL.ext {H H' : Hp} {p : Addr} {ls : List (List Int)} (e : Same H H') (h : LL H p ls) : LL H' p ls := by
  obtain ⟨as, h1, h2, h3⟩ := h
  exact ⟨as, e _ _ h1, h2, fun i b l g1 g2 => e _ _ (h3 i b l g1 g2)⟩
theorem LL.get {H : Hp} {p : Addr} {ls : List (List Int)} (h : LL H p ls) : ∃ as : List Addr, H p = some (.lst (as.map V.ref)) ∧ as.length = ls.length ∧ ∀ (i : Nat) v, (as.map V.ref)[i]? = some v → ∃ b l, v = .ref b ∧ ls[i]? = some l ∧ H b = some (.lst (l.map V.int)) := by
  obtain ⟨as, h1, h2, h3⟩ := h
  refine ⟨as, h1, h2, fun i v hv => ?_⟩
  rw [List.getElem?_map] at hv
  obtain ⟨b, hb, rfl⟩ := Option.map_eq_some_iff.mp hv
  have hi : i < ls.length := by rw [← h2]; exact (List.getElem?_eq_some_iff.mp hb).1
  exact ⟨b, ls[i], rfl, List.getElem?_eq_getElem hi, h3 i b _ hb (List.getElem?_eq_getElem hi)⟩
def sp_subs : Sp := fun vs H Q _ => ∃ a, ∃ es : List Int, vs = [.ref a] ∧ H a = some (.lst (es.map V.int)) ∧ es.length ≤ 10 ∧ ∀ H' p, Same H H' → H p = none → LL H' p (subs es) → Q (.ref p) H'
theorem LL.app {H : Hp} {p q a b : Addr} {ls ms : List (List Int)} {xs ys : List V} (np : H p = none) (h1 : LL H a ls) (h2 : LL H b ms) (e1 : H a = some (.lst xs)) (e2 : H b = some (.lst ys)) : LL (upd H p (.lst (xs ++ ys))) p (ls ++ ms) := by
  obtain ⟨as, g1, g2, g3⟩ := h1
  obtain ⟨bs, k1, k2, k3⟩ := h2
  have ex : xs = as.map V.ref := by rw [g1] at e1; exact (HO.lst.inj (Option.some.inj e1)).symm
  have ey : ys = bs.map V.ref := by rw [k1] at e2; exact (HO.lst.inj (Option.some.inj e2)).symm
  refine ⟨as ++ bs, by rw [upd_same, ex, ey, List.map_append], by rw [List.length_append, List.length_append, g2, k2], fun i c l hc hl => ?_⟩
  refine same_upd np _ _ ?_
  by_cases hi : i < as.length
  · rw [List.getElem?_append_left hi] at hc
    rw [List.getElem?_append_left (by omega)] at hl
    exact g3 i c l hc hl
  · rw [List.getElem?_append_right (by omega)] at hc
    rw [List.getElem?_append_right (by omega), ← g2] at hl
    exact k3 _ c l hc hl
theorem Wf.one {es : List Int} {x : Int} (h : x ∈ es) : Wf es (.nd x (.lf false) (.lf true)) := by
  obtain ⟨pre, post, rfl⟩ := List.append_of_mem h
  exact (Wf.here .lf .lf (fun z => by cases z)).skips pre
section
variable {P : Program} {w : World} {K : PySem.W.Frag} {mg : Str → Option Value} {base : Heap}
theorem ok_true (n : Nat) {f : Addr} {fd : FuncData} (F : Fun K "_law_true" "_law_true" s__law_true f fd) (M : Mg mg) (c__law_true : Cl P w K mg base (n + 1) "_law_true" (sp_true K n)) : FnOk P w K mg base CX0 (n + 2) f fd ["tree", "present"] (sp_true K (n + 1)) := by
  refine F.ok sc__law_true (fun vs H Q E h => ?_) (fun cdv A outer s H vs Q E hr h => ?_)
  · obtain ⟨v, a, t, ps, rfl, _⟩ := h
    rfl
  · obtain ⟨v, a, t, ps, rfl, dp, ha, hn, q⟩ := h
    refine ⟨_, (pss_cons (ps_if (pt_cmpR op_eq (pe_ix (ix_tupK K) (pv 0) pe_int (fun _ _ => rfl)) pe_str (nomark _)) (pss_one (ps_ret (pe_cmpR op_eq (pe_ix (ix_tupK K) (pv 0) pe_int (fun _ _ => rfl)) pe_int (nomark _)))) pss_nil)
      (pss_cons (ps_if (pt_cmpR op_eq (pe_ix (ix_tupK K) (pv 0) pe_int (fun _ _ => rfl)) pe_str (nomark _)) (pss_one (ps_ret (pe_cmpR (inK K) (pe_ix (ix_tupK K) (pv 0) pe_int (fun _ _ => rfl)) (pv 1) (by rfl)))) pss_nil)
      (pss_cons (ps_set (i := 2) sc__law_true.nd rfl (.inl rfl) (pe_u c__law_true hr (by first | decide | omega) (by rfl) (pa_cons (pe_ix (ix_tupK K) (pv 0) pe_int (fun _ _ => rfl)) (pa_cons (pv 1) pa_nil))))
      (pss_cons (ps_if (pt_cmpR op_eq (pe_ix (ix_tupK K) (pv 0) pe_int (fun _ _ => rfl)) pe_str (nomark _)) (pss_one (ps_ret (pe_not (pv 2)))) pss_nil)
      (pss_cons (ps_set (i := 3) sc__law_true.nd rfl (.inl rfl) (pe_u c__law_true hr (by first | decide | omega) (by rfl) (pa_cons (pe_ix (ix_tupK K) (pv 0) pe_int (fun _ _ => rfl)) (pa_cons (pv 1) pa_nil))))
      (pss_cons (ps_if (pt_cmpR op_eq (pe_ix (ix_tupK K) (pv 0) pe_int (fun _ _ => rfl)) pe_str (nomark _)) (pss_one (ps_ret (pe_and (pv 2) (pe_one (pv 3))))) pss_nil)
      (pss_one (ps_ret (pe_ifExp (pt_cmpR op_eq (pe_ix (ix_tupK K) (pv 0) pe_int (fun _ _ => rfl)) pe_str (nomark _)) (pe_or (pv 2) (pe_one (pv 3))) (pe_cmpR op_ne (pv 2) (pv 3) (nomark _))))))))))), ?_⟩
    cases t with
    | con b =>
      obtain ⟨p, xs, rfl, hs, hx⟩ := dp_tup dp
      obtain ⟨u, rfl, hu⟩ := dp_two hx
      cases hu
      refine ⟨_, rfl, p, _, _, _, rfl, rfl, hs, atI_nat (j := 0) rfl, rfl, _, rfl, ?_⟩
      rw [weq]
      refine iteT ⟨_, rfl, p, _, _, _, rfl, rfl, hs, atI_nat (j := 1) rfl, rfl, ?_⟩
      cases b with
      | true => exact q
      | false => exact q
    | ther e =>
      obtain ⟨p, xs, rfl, hs, hx⟩ := dp_tup dp
      obtain ⟨u, rfl, hu⟩ := dp_two hx
      cases hu
      refine ⟨_, rfl, p, _, _, _, rfl, rfl, hs, atI_nat (j := 0) rfl, rfl, _, rfl, ?_⟩
      rw [wne "there" "constant" (by decide +kernel)]
      refine iteF ⟨_, rfl, p, _, _, _, rfl, rfl, hs, atI_nat (j := 0) rfl, rfl, _, rfl, ?_⟩
      rw [weq]
      refine iteT ⟨_, rfl, p, _, _, _, rfl, rfl, hs, atI_nat (j := 1) rfl, _, rfl, a, _, rfl, .inl ha, rfl, ints_flat ps, ?_⟩
      rw [if_neg Bool.false_ne_true, inV_int]
      exact q
    | nt t1 =>
      obtain ⟨p, xs, rfl, hs, hx⟩ := dp_tup dp
      obtain ⟨u, rfl, hu⟩ := dp_two hx
      have hn : t1.ht + 1 < n + 1 := hn
      refine ⟨_, rfl, p, _, _, _, rfl, rfl, hs, atI_nat (j := 0) rfl, rfl, _, rfl, ?_⟩
      rw [wne "not" "constant" (by decide +kernel)]
      refine iteF ⟨_, rfl, p, _, _, _, rfl, rfl, hs, atI_nat (j := 0) rfl, rfl, _, rfl, ?_⟩
      rw [wne "not" "there" (by decide +kernel)]
      refine iteF ⟨_, rfl, p, _, _, _, rfl, rfl, hs, atI_nat (j := 1) rfl, _, rfl, u, a, t1, ps, rfl, hu, ha, by omega, ?_⟩
      refine ⟨_, rfl, p, _, _, _, rfl, rfl, hs, atI_nat (j := 0) rfl, rfl, _, rfl, ?_⟩
      rw [weq]
      exact iteT ⟨_, rfl, _, rfl, q⟩
    | bin o t1 t2 =>
      obtain ⟨p, xs, rfl, hs, hx⟩ := dp_tup dp
      obtain ⟨u, u2, rfl, hu, hu2⟩ := dp_three hx
      have hn : max t1.ht t2.ht + 1 < n + 1 := hn
      refine ⟨_, rfl, p, _, _, _, rfl, rfl, hs, atI_nat (j := 0) rfl, rfl, _, rfl, ?_⟩
      rw [wne o.s "constant" (by cases o <;> decide +kernel)]
      refine iteF ⟨_, rfl, p, _, _, _, rfl, rfl, hs, atI_nat (j := 0) rfl, rfl, _, rfl, ?_⟩
      rw [wne o.s "there" (by cases o <;> decide +kernel)]
      refine iteF ⟨_, rfl, p, _, _, _, rfl, rfl, hs, atI_nat (j := 1) rfl, _, rfl, u, a, t1, ps, rfl, hu, ha, by omega, ?_⟩
      refine ⟨_, rfl, p, _, _, _, rfl, rfl, hs, atI_nat (j := 0) rfl, rfl, _, rfl, ?_⟩
      rw [wne o.s "not" (by cases o <;> decide +kernel)]
      refine iteF ⟨_, rfl, p, _, _, _, rfl, rfl, hs, atI_nat (j := 2) rfl, _, rfl, u2, a, t2, ps, rfl, hu2, ha, by omega, ?_⟩
      refine ⟨_, rfl, p, _, _, _, rfl, rfl, hs, atI_nat (j := 0) rfl, rfl, _, rfl, ?_⟩
      cases o with
      | and =>
        rw [show decide (V.str (Str.ofString Bo.and.s) = V.str "and") = true from weq "and"]
        refine iteT ⟨_, rfl, _, rfl, ?_⟩
        have q : Q (.bl ((t1.ev fun e => decide (e ∈ ps)) && (t2.ev fun e => decide (e ∈ ps)))) H := q
        cases e : t1.ev fun e => decide (e ∈ ps) with
        | true =>
          rw [e] at q
          exact iteT ⟨_, rfl, q⟩
        | false =>
          rw [e] at q
          exact iteF q
      | or =>
        rw [show decide (V.str (Str.ofString Bo.or.s) = V.str "and") = false from wne "or" "and" (by decide +kernel)]
        refine iteF ⟨_, rfl, p, _, _, _, rfl, rfl, hs, atI_nat (j := 0) rfl, rfl, _, rfl, ?_⟩
        rw [show decide (V.str (Str.ofString Bo.or.s) = V.str "or") = true from weq "or"]
        refine iteT ⟨_, rfl, _, rfl, ?_⟩
        have q : Q (.bl ((t1.ev fun e => decide (e ∈ ps)) || (t2.ev fun e => decide (e ∈ ps)))) H := q
        cases e : t1.ev fun e => decide (e ∈ ps) with
        | true =>
          rw [e] at q
          exact iteT q
        | false =>
          rw [e] at q
          exact iteF ⟨_, rfl, q⟩
      | df =>
        rw [show decide (V.str (Str.ofString Bo.df.s) = V.str "and") = false from wne "differ" "and" (by decide +kernel)]
        refine iteF ⟨_, rfl, p, _, _, _, rfl, rfl, hs, atI_nat (j := 0) rfl, rfl, _, rfl, ?_⟩
        rw [show decide (V.str (Str.ofString Bo.df.s) = V.str "or") = false from wne "differ" "or" (by decide +kernel)]
        refine iteF ⟨_, rfl, _, rfl, rfl, ?_⟩
        have q : Q (.bl (bne (t1.ev fun e => decide (e ∈ ps)) (t2.ev fun e => decide (e ∈ ps)))) H := q
        cases e : t1.ev fun e => decide (e ∈ ps) <;> cases e2 : t2.ev fun e => decide (e ∈ ps) <;> rw [e, e2] at q <;> exact q
theorem cl_true {f : Addr} {fd : FuncData} (F : Fun K "_law_true" "_law_true" s__law_true f fd) (M : Mg mg) (g : mg "_law_true" = some (.ref f)) (b : Binds K fd ["tree", "present"] []) : ∀ n, Cl P w K mg base (n + 1) "_law_true" (sp_true K n)
  | 0 => FnOk.cl (P := P) (w := w) (base := base) (F.ok sc__law_true (fun vs H Q E h => by obtain ⟨v, a, t, ps, rfl, _⟩ := h; rfl) (fun cdv A outer s H vs Q E hr h => by obtain ⟨v, a, t, ps, rfl, _, _, hm, _⟩ := h; omega)) F g b
  | n + 1 => FnOk.cl (ok_true n F M (cl_true F M g b n)) F g b
set_option maxHeartbeats 4000000 in
theorem ok_build (m n : Nat) {f C : Addr} {fd : FuncData} (F : Fun K "_law_build" "_law_build" s__law_build f fd) (M : Mg mg) (c_Diagrams_there : ClM P w K mg base 2 C "there" (sp_there C K)) (c_Diagrams_conjunction : ClM P w K mg base (m + 3) C "conjunction" (sp_op2 C K m and)) (c_Diagrams_disjunction : ClM P w K mg base (m + 3) C "disjunction" (sp_op2 C K m or)) (c_Diagrams_negation : ClM P w K mg base (m + 3) C "negation" (sp_neg C K m)) (c_Diagrams_differs : ClM P w K mg base (m + 4) C "differs" (sp_op2 C K m bne))
    (c__law_build : Cl P w K mg base (m + 4 + n) "_law_build" (sp_build C K m n)) : FnOk P w K mg base CX0 (m + 4 + n + 1) f fd ["store", "tree"] (sp_build C K m (n + 1)) := by
  refine F.ok sc__law_build (fun vs H Q E h => ?_) (fun cdv A outer s H vs Q E hr h => ?_)
  · obtain ⟨s, N, es, L, v, t, rfl, _⟩ := h
    rfl
  · obtain ⟨s, N, es, L, v, t, rfl, st, hm, ok, hn, dp, z1, z2, q⟩ := h
    have o1 := opB_ge es
    have o2 : 1 ≤ 2 ^ es.length := Nat.one_le_two_pow
    refine ⟨_, (pss_cons (ps_if (pt_cmpR op_eq (pe_ix (ix_tupK K) (pv 1) pe_int (fun _ _ => rfl)) pe_str (nomark _)) (pss_one (ps_ret (pe_ix (ix_tupK K) (pv 1) pe_int (fun _ _ => rfl)))) pss_nil)
      (pss_cons (ps_if (pt_cmpR op_eq (pe_ix (ix_tupK K) (pv 1) pe_int (fun _ _ => rfl)) pe_str (nomark _)) (pss_one (ps_ret (pe_mt c_Diagrams_there hr (by first | decide | omega) (pv 0) (pa_cons (pe_ix (ix_tupK K) (pv 1) pe_int (fun _ _ => rfl)) pa_nil)))) pss_nil)
      (pss_cons (ps_set (i := 2) sc__law_build.nd rfl (.inl rfl) (pe_u c__law_build hr (by first | decide | omega) (by rfl) (pa_cons (pv 0) (pa_cons (pe_ix (ix_tupK K) (pv 1) pe_int (fun _ _ => rfl)) pa_nil))))
      (pss_cons (ps_if (pt_cmpR op_eq (pe_ix (ix_tupK K) (pv 1) pe_int (fun _ _ => rfl)) pe_str (nomark _)) (pss_one (ps_ret (pe_mt c_Diagrams_negation hr (by first | decide | omega) (pv 0) (pa_cons (pv 2) pa_nil)))) pss_nil)
      (pss_cons (ps_set (i := 3) sc__law_build.nd rfl (.inl rfl) (pe_u c__law_build hr (by first | decide | omega) (by rfl) (pa_cons (pv 0) (pa_cons (pe_ix (ix_tupK K) (pv 1) pe_int (fun _ _ => rfl)) pa_nil))))
      (pss_cons (ps_if (pt_cmpR op_eq (pe_ix (ix_tupK K) (pv 1) pe_int (fun _ _ => rfl)) pe_str (nomark _)) (pss_one (ps_ret (pe_mt c_Diagrams_conjunction hr (by first | decide | omega) (pv 0) (pa_cons (pv 2) (pa_cons (pv 3) pa_nil))))) pss_nil)
      (pss_one (ps_ret (pe_ifExp (pt_cmpR op_eq (pe_ix (ix_tupK K) (pv 1) pe_int (fun _ _ => rfl)) pe_str (nomark _)) (pe_mt c_Diagrams_disjunction hr (by first | decide | omega) (pv 0) (pa_cons (pv 2) (pa_cons (pv 3) pa_nil))) (pe_mt c_Diagrams_differs hr (by first | decide | omega) (pv 0) (pa_cons (pv 2) (pa_cons (pv 3) pa_nil)))))))))))), ?_⟩
    cases t with
    | con b =>
      obtain ⟨p, xs, rfl, hs, hx⟩ := dp_tup dp
      obtain ⟨u, rfl, hu⟩ := dp_two hx
      cases hu
      refine ⟨_, rfl, p, _, _, _, rfl, rfl, hs, atI_nat (j := 0) rfl, rfl, _, rfl, ?_⟩
      rw [weq]
      refine iteT ⟨_, rfl, p, _, _, _, rfl, rfl, hs, atI_nat (j := 1) rfl, ?_⟩
      have q := fun r T => q H [] r T (FdS.refl s H) (Nat.zero_le _) (by rw [List.append_nil]; exact st.more (Nat.le_add_right _ _))
      cases b with
      | true => exact q 1 _ .t .lf (fun _ => rfl)
      | false => exact q 0 _ .f .lf (fun _ => rfl)
    | ther e =>
      obtain ⟨p, xs, rfl, hs, hx⟩ := dp_tup dp
      obtain ⟨u, rfl, hu⟩ := dp_two hx
      cases hu
      have e1 : Tr.sz (.ther e) * opB es = opB es := Nat.one_mul _
      rw [e1] at z1 z2 q
      refine ⟨_, rfl, p, _, _, _, rfl, rfl, hs, atI_nat (j := 0) rfl, rfl, _, rfl, ?_⟩
      rw [wne "there" "constant" (by decide +kernel)]
      refine iteF ⟨_, rfl, p, _, _, _, rfl, rfl, hs, atI_nat (j := 0) rfl, rfl, _, rfl, ?_⟩
      rw [weq]
      refine iteT ⟨_, rfl, st.go (by decide +kernel) (by decide +kernel) (by decide +kernel) ⟨_, rfl, p, _, _, _, rfl, rfl, hs, atI_nat (j := 1) rfl, ?_⟩⟩
      refine ⟨s, N, es, L, e, rfl, st, by omega, fun H' M r f l st' a => q H' M r _ f (by omega) (st'.more (by omega)) a (Wf.one ok) fun ρ => ?_⟩
      show (if ρ e = true then true else false) = ρ e
      cases ρ e <;> rfl
    | nt t1 =>
      obtain ⟨p, xs, rfl, hs, hx⟩ := dp_tup dp
      obtain ⟨u, rfl, hu⟩ := dp_two hx
      have hn : t1.ht + 1 < n + 1 := hn
      have e1 : Tr.sz (.nt t1) * opB es = t1.sz * opB es + opB es := Nat.succ_mul _ _
      rw [e1] at z1 z2 q
      refine ⟨_, rfl, p, _, _, _, rfl, rfl, hs, atI_nat (j := 0) rfl, rfl, _, rfl, ?_⟩
      rw [wne "not" "constant" (by decide +kernel)]
      refine iteF ⟨_, rfl, p, _, _, _, rfl, rfl, hs, atI_nat (j := 0) rfl, rfl, _, rfl, ?_⟩
      rw [wne "not" "there" (by decide +kernel)]
      refine iteF ⟨_, rfl, _, rfl, p, _, _, _, rfl, rfl, hs, atI_nat (j := 1) rfl, ?_⟩
      refine ⟨s, N, es, L, u, t1, rfl, st, hm, ok, by omega, hu, by omega, by omega, fun H1 M1 r1 T1 f1 l1 st1 a1 w1 v1 => ?_⟩
      have hs1 := SqT.tsn (st.tup f1) hs
      refine ⟨_, rfl, p, _, _, _, rfl, rfl, hs1, atI_nat (j := 0) rfl, rfl, _, rfl, ?_⟩
      rw [weq]
      refine iteT ⟨_, rfl, st1.go (by decide +kernel) (by decide +kernel) (by decide +kernel) ⟨_, rfl, ?_⟩⟩
      refine ⟨s, N ++ M1, es, _, r1, T1, rfl, st1, hm, a1, w1, by rw [List.length_append]; omega, by omega, fun H2 M2 r2 T2 f2 l2 st2 a2 w2 v2 => ?_⟩
      rw [List.append_assoc] at st2 a2
      refine q H2 (M1 ++ M2) r2 T2 (f1.trans f2) (by rw [List.length_append]; omega) (st2.more (by omega)) a2 w2 fun ρ => ?_
      rw [v2, v1]
      rfl
    | bin o t1 t2 =>
      obtain ⟨p, xs, rfl, hs, hx⟩ := dp_tup dp
      obtain ⟨u, u2, rfl, hu, hu2⟩ := dp_three hx
      have hn : max t1.ht t2.ht + 1 < n + 1 := hn
      have e1 : Tr.sz (.bin o t1 t2) * opB es = t1.sz * opB es + t2.sz * opB es + opB es := by
        show (t1.sz + t2.sz + 1) * opB es = _
        rw [Nat.succ_mul, Nat.add_mul]
      rw [e1] at z1 z2 q
      refine ⟨_, rfl, p, _, _, _, rfl, rfl, hs, atI_nat (j := 0) rfl, rfl, _, rfl, ?_⟩
      rw [wne o.s "constant" (by cases o <;> decide +kernel)]
      refine iteF ⟨_, rfl, p, _, _, _, rfl, rfl, hs, atI_nat (j := 0) rfl, rfl, _, rfl, ?_⟩
      rw [wne o.s "there" (by cases o <;> decide +kernel)]
      refine iteF ⟨_, rfl, _, rfl, p, _, _, _, rfl, rfl, hs, atI_nat (j := 1) rfl, ?_⟩
      refine ⟨s, N, es, L, u, t1, rfl, st, hm, ok.1, by omega, hu, by omega, by omega, fun H1 M1 r1 T1 f1 l1 st1 a1 w1 v1 => ?_⟩
      have hs1 := SqT.tsn (st.tup f1) hs
      have hu21 := st.dp f1 (tr_only t2) hu2
      refine ⟨_, rfl, p, _, _, _, rfl, rfl, hs1, atI_nat (j := 0) rfl, rfl, _, rfl, ?_⟩
      rw [wne o.s "not" (by cases o <;> decide +kernel)]
      refine iteF ⟨_, rfl, _, rfl, p, _, _, _, rfl, rfl, hs1, atI_nat (j := 2) rfl, ?_⟩
      refine ⟨s, N ++ M1, es, _, u2, t2, rfl, st1, hm, ok.2, by omega, hu21, by rw [List.length_append]; omega, by omega, fun H2 M2 r2 T2 f2 l2 st2 a2 w2 v2 => ?_⟩
      have hs2 := SqT.tsn (st1.tup f2) hs1
      have fin : ∀ (g : Bool → Bool → Bool), g = o.f → sp_op2 C K m g [.ref s.p, .int ((r1 : Nat) : Int), .int ((r2 : Nat) : Int)] H2 Q E0 := fun g hg => by
        refine ⟨s, (N ++ M1) ++ M2, es, _, r1, r2, T1, T2, rfl, st2, hm, a1.mono, a2, w1, w2, by rw [List.length_append, List.length_append]; omega, by omega, fun H3 M3 r3 T3 f3 l3 st3 a3 w3 v3 => ?_⟩
        have eN : N ++ M1 ++ M2 ++ M3 = N ++ (M1 ++ M2 ++ M3) := by simp only [List.append_assoc]
        rw [eN] at st3 a3
        refine q H3 (M1 ++ M2 ++ M3) r3 T3 ((f1.trans f2).trans f3) (by rw [List.length_append, List.length_append]; omega) (st3.more (by omega)) a3 w3 fun ρ => ?_
        rw [v3, v1, v2, hg]
        rfl
      refine ⟨_, rfl, p, _, _, _, rfl, rfl, hs2, atI_nat (j := 0) rfl, rfl, _, rfl, ?_⟩
      cases o with
      | and =>
        rw [show decide (V.str (Str.ofString Bo.and.s) = V.str "and") = true from weq "and"]
        exact iteT ⟨_, rfl, st2.go (by decide +kernel) (by decide +kernel) (by decide +kernel) ⟨_, rfl, _, rfl, fin and rfl⟩⟩
      | or =>
        rw [show decide (V.str (Str.ofString Bo.or.s) = V.str "and") = false from wne "or" "and" (by decide +kernel)]
        refine iteF ⟨_, rfl, p, _, _, _, rfl, rfl, hs2, atI_nat (j := 0) rfl, rfl, _, rfl, ?_⟩
        rw [show decide (V.str (Str.ofString Bo.or.s) = V.str "or") = true from weq "or"]
        exact iteT ⟨_, rfl, st2.go (by decide +kernel) (by decide +kernel) (by decide +kernel) ⟨_, rfl, _, rfl, fin or rfl⟩⟩
      | df =>
        rw [show decide (V.str (Str.ofString Bo.df.s) = V.str "and") = false from wne "differ" "and" (by decide +kernel)]
        refine iteF ⟨_, rfl, p, _, _, _, rfl, rfl, hs2, atI_nat (j := 0) rfl, rfl, _, rfl, ?_⟩
        rw [show decide (V.str (Str.ofString Bo.df.s) = V.str "or") = false from wne "differ" "or" (by decide +kernel)]
        exact iteF ⟨_, rfl, st2.go (by decide +kernel) (by decide +kernel) (by decide +kernel) ⟨_, rfl, _, rfl, fin bne rfl⟩⟩
theorem cl_build (m : Nat) {f C : Addr} {fd : FuncData} (F : Fun K "_law_build" "_law_build" s__law_build f fd) (M : Mg mg) (g : mg "_law_build" = some (.ref f)) (b : Binds K fd ["store", "tree"] []) (c_Diagrams_there : ClM P w K mg base 2 C "there" (sp_there C K)) (c_Diagrams_conjunction : ClM P w K mg base (m + 3) C "conjunction" (sp_op2 C K m and)) (c_Diagrams_disjunction : ClM P w K mg base (m + 3) C "disjunction" (sp_op2 C K m or)) (c_Diagrams_negation : ClM P w K mg base (m + 3) C "negation" (sp_neg C K m)) (c_Diagrams_differs : ClM P w K mg base (m + 4) C "differs" (sp_op2 C K m bne)) :
    ∀ n, Cl P w K mg base (m + 4 + n) "_law_build" (sp_build C K m n)
  | 0 => FnOk.cl (P := P) (w := w) (base := base) (F.ok sc__law_build (fun vs H Q E h => by obtain ⟨s, N, es, L, v, t, rfl, _⟩ := h; rfl) (fun cdv A outer s H vs Q E hr h => by obtain ⟨s, N, es, L, v, t, rfl, st, hm, ok, hn, _⟩ := h; omega)) F g b
  | n + 1 => FnOk.cl (ok_build m n F M c_Diagrams_there c_Diagrams_conjunction c_Diagrams_disjunction c_Diagrams_negation c_Diagrams_differs (cl_build m F M g b c_Diagrams_there c_Diagrams_conjunction c_Diagrams_disjunction c_Diagrams_negation c_Diagrams_differs n)) F g b
end

section
variable {P : Program} {w : World} {K : PySem.W.Frag} {mg : Str → Option Value} {base : Heap}
theorem ok_subs {f : Addr} {fd : FuncData} (F : Fun K "_law_subsets" "_law_subsets" s__law_subsets f fd) (M : Mg mg) : FnOk P w K mg base CX0 1 f fd ["entries"] sp_subs := by
  refine F.ok sc__law_subsets (fun vs H Q E h => ?_) (fun cdv A outer s H vs Q E hr h => ?_)
  · obtain ⟨a, es, rfl, _⟩ := h
    rfl
  · obtain ⟨a, es, rfl, ha, hl, q⟩ := h
    refine ⟨_, (pss_cons (ps_set (i := 1) sc__law_subsets.nd rfl (.inl rfl) (pe_lst (pa_cons (pe_lst pa_nil) pa_nil)))
      (pss_cons (ps_for PassesOwn.never rfl (pi_list (pv 0)) (pg_name (i := 2) sc__law_subsets.nd rfl (.inr rfl)) (pss_one (ps_set (i := 1) sc__law_subsets.nd rfl (.inl rfl) (pe_op op_cat (pv 1) (pe_lc (own := [("part", 3)]) (g := gName 3) (tt := tYes) rfl sc__law_subsets.nd (pi_list (pv 1)) (blkOk_by (N := N__law_subsets) (sc := defScope s__law_subsets) (by decide +kernel)) (fun _ _ _ _ _ => (pg_name (i := 3) sc__law_subsets.nd rfl (.inl rfl))) (fun _ _ _ _ _ => pts_nil) (fun _ _ _ _ _ => (pe_op op_cat (pv 3) (pe_lst (pa_cons (pv 2) pa_nil)))))))))
      (pss_one (ps_ret (pv 1))))), ?_⟩
    refine ⟨by show 0 ≤ sizeLine; decide, fun p1 n1 => ?_⟩
    have s1 := same_upd n1 (o := .lst [])
    have e1 : (upd H p1 (.lst [])) p1 = some (.lst (([] : List Int).map V.int)) := upd_same
    generalize upd H p1 (.lst []) = H1 at s1 e1
    refine ⟨by show 1 ≤ sizeLine; decide, fun p2 n2 => ?_⟩
    have s2 := same_upd n2 (o := .lst [.ref p1])
    have e2 : (upd H1 p2 (.lst [.ref p1])) p2 = some (.lst ([p1].map V.ref)) := upd_same
    generalize upd H1 p2 (.lst [.ref p1]) = H2 at s2 e2
    refine ⟨_, rfl, a, rfl, ⟨_, .of ((s1.trans s2) _ _ ha)⟩, ?_⟩
    refine for_list (K := K) (a := a) (xs := es.map V.int) (fun i σ Hi => ∃ (p : Addr) (z y : Option V), σ = [some (.ref a), some (.ref p), z, y] ∧ Same H Hi ∧ H p = none ∧ LL Hi p (subs (es.take i))) ⟨p2, none, none, rfl, s1.trans s2, s1.free n2, [p1], e2, rfl, fun i b l hb hl => ?_⟩ (fun i σ Hi _ hp => by obtain ⟨p, z, y, rfl, si, _⟩ := hp; exact .of (si _ _ ha)) (fun i x σ Hi hx hp => ?_) (fun σ Hn hp => ?_)
    · match i, hb, hl with
      | 0, hb, hl =>
        cases hb
        cases hl
        exact s2 _ _ e1
      | i + 1, hb, _ => simp at hb
    · obtain ⟨p, z, y, rfl, si, np, ll⟩ := hp
      rw [List.getElem?_map] at hx
      obtain ⟨e, he, rfl⟩ := Option.map_eq_some_iff.mp hx
      have hi : i < es.length := (List.getElem?_eq_some_iff.mp he).1
      have et : es.take (i + 1) = es.take i ++ [e] := by rw [List.take_add_one, he]; rfl
      have lsub : (subs (es.take i)).length ≤ 1024 := by
        rw [subs_len, List.length_take]
        exact Nat.le_trans (Nat.pow_le_pow_right (by decide) (show min i es.length ≤ 10 by omega)) (by decide)
      obtain ⟨as, g1, g2, g3⟩ := id ll
      obtain ⟨as', k1, k2, k3⟩ := ll.get
      refine ⟨_, rfl, _, rfl, p, rfl, ⟨_, .of k1⟩, fun D nD => ?_⟩
      refine lc_list (K := K) (a := p) (xs := as'.map V.ref) (fun j Hj => Same Hi Hj ∧ LL Hj D ((subs (es.take i)).take j |>.map (· ++ [e]))) ⟨same_upd nD, [], upd_same, rfl, fun i b l hb _ => by simp at hb⟩ (fun j Hj _ hp => .of (hp.1 _ _ k1)) (fun j x Hj hx hp => ?_) (fun Hn hp => ?_)
      · obtain ⟨sj, cs, c1, c2, c3⟩ := hp
        obtain ⟨b, l, rfl, hl, hb⟩ := k3 j x hx
        have hj : j < (subs (es.take i)).length := (List.getElem?_eq_some_iff.mp hl).1
        refine ⟨rfl, ?_⟩
        refine ⟨_, rfl, _, rfl, by show 1 ≤ sizeLine; decide, fun q1 nq1 => ?_⟩
        have t1 := same_upd nq1 (o := .lst [.int e])
        have eq1 : (upd Hj q1 (.lst [.int e])) q1 = some (.lst [.int e]) := upd_same
        generalize upd Hj q1 (.lst [.int e]) = Hj1 at t1 eq1
        have ll1 : l.length ≤ 10 := by
          have := subs_le _ l (List.mem_of_getElem? hl)
          have h2 := this.1
          rw [List.length_take] at h2
          omega
        refine ⟨b, q1, _, _, rfl, rfl, (sj.trans t1) _ _ hb, eq1, by rw [List.length_map]; exact Nat.le_trans (m := 100) (by show _ + 1 ≤ 100; omega) (by decide), fun q2 nq2 => ?_⟩
        have t2 := same_upd nq2 (o := .lst (l.map V.int ++ [.int e]))
        have eq2 : (upd Hj1 q2 (.lst (l.map V.int ++ [.int e]))) q2 = some (.lst ((l ++ [e]).map V.int)) := by rw [upd_same, List.map_append]; rfl
        generalize upd Hj1 q2 (.lst (l.map V.int ++ [.int e])) = Hj2 at t2 eq2
        have sj2 := (sj.trans t1).trans t2
        have cD := (t1.trans t2) _ _ c1
        refine ⟨_, cD, ?_, ?_, ?_⟩
        · rw [List.length_map, c2, List.length_map, List.length_take]
          exact Nat.lt_of_le_of_lt (m := 1024) (by omega) (by decide)
        · intro x o hx'
          rw [upd_ne (ne_of_none hx' nD)]
          exact sj2 _ _ hx'
        · refine ⟨cs ++ [q2], by rw [upd_same, List.map_append]; rfl, ?_, fun i' b' l' hb' hl' => ?_⟩
          · rw [List.length_append, c2, List.take_add_one, hl, List.map_append, List.length_append]
            rfl
          · have lc : cs.length = j := by rw [c2, List.length_map, List.length_take]; omega
            have nbD : b' ≠ D := by
              by_cases hi' : i' < cs.length
              · rw [List.getElem?_append_left hi'] at hb'
                intro z
                subst z
                -- the new list's own address is not one of its items
                have := c3 i' b' _ hb' (List.getElem?_eq_getElem (by rw [← c2]; exact hi'))
                rw [c1] at this
                have e := HO.lst.inj (Option.some.inj this)
                cases cs with
                | nil => simp at hi'
                | cons c cs =>
                  rw [List.map_cons] at e
                  generalize (List.map (fun x => x ++ [_]) _)[i'] = w at e
                  cases w with
                  | nil => cases e
                  | cons w1 w2 => rw [List.map_cons] at e; exact nomatch (List.cons.inj e).1
              · rw [List.getElem?_append_right (by omega)] at hb'
                have : b' = q2 := by
                  cases h : i' - cs.length with
                  | zero => rw [h] at hb'; exact (Option.some.inj hb').symm
                  | succ k => rw [h] at hb'; simp at hb'
                subst this
                exact (ne_of_none (t1 _ _ c1) nq2).symm
            rw [upd_ne nbD]
            rw [List.take_add_one, hl, List.map_append] at hl'
            by_cases hi' : i' < cs.length
            · rw [List.getElem?_append_left hi'] at hb'
              rw [List.getElem?_append_left (by rw [← c2]; exact hi')] at hl'
              exact (t1.trans t2) _ _ (c3 i' b' l' hb' hl')
            · rw [List.getElem?_append_right (by omega)] at hb'
              rw [List.getElem?_append_right (by rw [← c2]; omega), ← c2] at hl'
              cases h : i' - cs.length with
              | zero =>
                rw [h] at hb' hl'
                have e1 : q2 = b' := Option.some.inj hb'
                have e2 : l ++ [e] = l' := Option.some.inj hl'
                subst e1 e2
                exact eq2
              | succ k => rw [h] at hb'; simp at hb'
      · obtain ⟨sn, ll2⟩ := hp
        have el : (as'.map V.ref).length = (subs (es.take i)).length := by rw [List.length_map, k2]
        rw [el, List.take_of_length_le (Nat.le_refl _)] at ll2
        obtain ⟨bs, b1, b2, b3⟩ := id ll2
        refine ⟨p, D, _, _, rfl, rfl, sn _ _ k1, b1, ?_, fun q' nq' => ?_⟩
        · rw [List.length_map, List.length_map, k2, b2, List.length_map]
          exact Nat.le_trans (m := 2048) (by omega) (by decide)
        · refine ⟨q', _, _, rfl, (si.trans sn).trans (same_upd nq'), (si.trans sn).free nq', ?_⟩
          rw [et, subs_snoc]
          exact LL.app (q := q') nq' (ll.ext sn) ll2 (sn _ _ k1) b1
    · obtain ⟨p, z, y, rfl, si, np, ll⟩ := hp
      rw [List.length_map, List.take_of_length_le (Nat.le_refl _)] at ll
      exact ⟨_, rfl, q Hn p si np ll⟩
end

/-! ### lists of numbers and of truth values as data -/
theorem dpa_map {K : PySem.W.Frag} {H : Hp} {α : Type} (f : α → V) (g : α → PyData) (h : ∀ a, Dp K H (f a) (g a)) : ∀ l : List α, DpAll K H (l.map f) (l.map g)
  | [] => .nil
  | a :: l => .cons (h a) (dpa_map f g h l)
theorem dp_ints {K : PySem.W.Frag} {H : Hp} {a : Addr} {ps : List Int} (h : SqL K H a (ps.map V.int)) : Dp K H (.ref a) (.list (ps.map PyData.int)) := .lst h (dpa_map _ _ (fun i => .int i) ps)
theorem dp_bls {K : PySem.W.Frag} {H : Hp} {a : Addr} {ps : List Bool} (h : SqL K H a (ps.map V.bl)) : Dp K H (.ref a) (.list (ps.map PyData.bool)) := .lst h (dpa_map _ _ (fun i => .bl i) ps)
theorem flat_shaped {α : Type} (g : α → PyData) (h1 : ∀ a, PyData.canLay0 (g a) = true) (h2 : ∀ a, PyData.depth (g a) = 0) (l : List α) : SeqAt.shaped (.list (l.map g)) = true := by
  have e1 : PyData.canLayAll0 (l.map g) = true := by
    induction l with
    | nil => rfl
    | cons x xs ih =>
      rw [List.map_cons]
      unfold PyData.canLayAll0
      rw [ih, h1]
      rfl
  have e2 : PyData.depthAll (l.map g) = 0 := by
    clear e1
    induction l with
    | nil => rfl
    | cons x xs ih =>
      rw [List.map_cons]
      unfold PyData.depthAll
      rw [ih, h2]
      rfl
  unfold SeqAt.shaped
  rw [Bool.and_eq_true]
  refine ⟨by unfold PyData.canLay0; exact e1, decide_eq_true ?_⟩
  unfold PyData.depth
  omega
theorem ints_shaped (l : List Int) : SeqAt.shaped (.list (l.map PyData.int)) = true := flat_shaped _ (fun _ => rfl) (fun _ => rfl) l
theorem bls_shaped (l : List Bool) : SeqAt.shaped (.list (l.map PyData.bool)) = true := flat_shaped _ (fun _ => rfl) (fun _ => rfl) l
theorem ints_eqv (l : List Int) : PyData.eqv (.list (l.map PyData.int)) (.list (l.map PyData.int)) = true := SeqAt.eqv_refl _ (SeqAt.canLay_of_shaped (ints_shaped l))
theorem Sto.fd {C : Addr} {K : PySem.W.Frag} {H H' : Hp} {s : SA} {N : Nds} {es : List Int} {L : Nat} {d : Addr} (st : Sto C K H s N es L) (hd : ∃ zs, H d = some (.lst zs)) (n : d ≠ s.k) (f : Fd d H H') : Sto C K H' s N es L := by
  obtain ⟨⟨dx, h1⟩, ⟨xs, h2, h3⟩, ⟨kvs, h4, h5⟩, ⟨cvs, h6, h7⟩, h8⟩ := st
  obtain ⟨zs, hz⟩ := hd
  exact ⟨⟨dx, f _ _ (ne_of h1 hz (fun z => nomatch z)) h1⟩, ⟨xs, f _ _ n.symm h2, DpAll.fd ⟨zs, hz⟩ f _ _ (nD_only _) h3⟩, ⟨kvs, f _ _ (ne_of h4 hz (fun z => nomatch z)) h4, h5⟩, ⟨cvs, f _ _ (ne_of h6 hz (fun z => nomatch z)) h6, h7⟩, h8⟩
theorem andV {c b : Bool} {i : Nat} {σ : L2.St} {H : Hp} {Q : VK} (hs : σ[i]? = some (some (.bl b))) (h : Q (.bl (c && b)) H) : if c = true then tVar i σ H Q else Q (.bl false) H := by
  cases c with
  | true => exact iteT ⟨_, hs, h⟩
  | false => exact iteF h
theorem orV {c b : Bool} {i : Nat} {σ : L2.St} {H : Hp} {Q : VK} (hs : σ[i]? = some (some (.bl b))) (h : Q (.bl (c || b)) H) : if c = true then Q (.bl true) H else tVar i σ H Q := by
  cases c with
  | true => exact iteT h
  | false => exact iteF ⟨_, hs, h⟩
theorem bne_dec (a b : Bool) : (!decide (V.bl a = V.bl b)) = bne a b := by cases a <;> cases b <;> rfl
/-- the store made, beside what was there -/
theorem made_same {p dx C : Addr} {H H' : Hp} (np : H p = none) (nd : H dx = none) (f : Fd p (upd (upd H dx (.own p)) p (.ins C dx [])) H') : Same H H' := fun b o e => by
  have h1 : b ≠ p := ne_of_none e np
  have h2 : b ≠ dx := ne_of_none e nd
  refine f b o h1 ?_
  rw [upd_ne h1, upd_ne h2]
  exact e
theorem made_free {p dx C k : Addr} {H : Hp} (h : (upd (upd H dx (.own p)) p (.ins C dx [])) k = none) : H k = none := by
  by_cases h1 : k = p
  · subst h1
    rw [upd_same] at h
    cases h
  by_cases h2 : k = dx
  · subst h2
    rw [upd_ne h1, upd_same] at h
    cases h
  rw [upd_ne h1, upd_ne h2] at h
  exact h
/-- what stood before the store was made stands behind all its operations -/
theorem FdS.same {s : SA} {H0 H H' : Hp} (h : Same H0 H) (nk : H0 s.k = none) (nu : H0 s.u = none) (nm : H0 s.m = none) (f : FdS s H H') : Same H0 H' := fun b o e => f b o (ne_of_none e nk) (ne_of_none e nu) (ne_of_none e nm) (h b o e)

/-! ### two data that are the same -/
/-- data of some depth, their lists not too long -/
inductive Sh : Nat → PyData → Prop
  | non {n : Nat} : Sh n .none
  | bl {n : Nat} (b : Bool) : Sh n (.bool b)
  | int {n : Nat} (i : Int) : Sh n (.int i)
  | str {n : Nat} (x : Str) : Sh n (.str x)
  | lst {n : Nat} {ds : List PyData} (l : ds.length ≤ 100000) (h : ∀ d ∈ ds, Sh n d) : Sh (n + 1) (.list ds)
  | tup {n : Nat} {ds : List PyData} (l : ds.length ≤ 100000) (h : ∀ d ∈ ds, Sh n d) : Sh (n + 1) (.tuple ds)
def tnm : PyData → String
  | .none => "NoneType"
  | .bool _ => "bool"
  | .int _ => "int"
  | .str _ => "str"
  | .list _ => "list"
  | .tuple _ => "tuple"
  | .dict _ => "dict"
theorem tyD {K : PySem.W.Frag} {H : Hp} {v : V} {d : PyData} (h : Dp K H v d) : TyX K H v (.type (tnm d)) := by
  cases h with
  | non => exact .base .non
  | bl b => exact .base (.bl b)
  | int i => exact .base (.int i)
  | str x => exact .base (.str x)
  | lst hs _ => exact tyL hs
  | tup hs _ => exact tyT hs
theorem k_any2 {K : PySem.W.Frag} {tn c1 c2 : String} {r1 r2 : Bool} (h1 : kitB tn c1 = some r1) (h2 : kitB tn c2 = some r2) : PySem.W.kitAny K (.type tn) [.type c1, .type c2] = some (r1 || r2) :=
  kitAny_cons (kit_ty h1) (fun e => by
    rw [e, Bool.false_or]
    exact kitAny_cons (b := r2) (kit_ty h2) (fun e2 => by rw [e2]; exact kitAny_nil) (fun e2 => e2)) (fun e => by rw [e, Bool.true_or])
theorem rep_bl (n : Nat) : (List.replicate n true).all id = true := by
  rw [List.all_replicate]
  simp
def sp_same (K : PySem.W.Frag) (n : Nat) : Sp := fun vs H Q _ => ∃ (x y : V) (D : PyData) (m : Nat), n = m + 1 ∧ vs = [x, y] ∧ Sh m D ∧ Dp K H x D ∧ Dp K H y D ∧ ∀ H', Same H H' → Q (.bl true) H'
section
variable {P : Program} {w : World} {K : PySem.W.Frag} {mg : Str → Option Value} {base : Heap}
theorem ok_same {f : Addr} {fd : FuncData} {n l : Nat} (F : Fun K "_law_same" "_law_same" s__law_same f fd) (M : Mg mg) (c__law_same : Cl P w K mg base l "_law_same" (sp_same K n)) : FnOk P w K mg base CX0 (l + 1) f fd ["actual", "due"] (sp_same K (n + 1)) := by
  refine F.ok sc__law_same (fun vs H Q E h => ?_) (fun cdv A outer s H vs Q E hr h => ?_)
  · obtain ⟨x, y, D, m, _, rfl, _⟩ := h
    rfl
  · obtain ⟨x, y, D, m, em, rfl, sh, hx, hy, q⟩ := h
    refine ⟨_, (pss_cons (ps_if (pt_val (pe_callB (isiTK K) (by rfl) M.isinstance (by decide +kernel) (pa_cons (pv 1) (pa_cons (pe_tup (pa_cons (pe_bltn (v := .ty "list") (by rfl) M.list (by decide +kernel) rfl) (pa_cons (pe_bltn (v := .ty "tuple") (by rfl) M.tuple (by decide +kernel) rfl) pa_nil))) pa_nil)))) (pss_cons (ps_if (PW.pt (pw_or (pt_cmpR op_ne (pe_callB (isiK K) (by rfl) M.isinstance (by decide +kernel) (pa_cons (pv 1) (pa_cons (pe_bltn (v := .ty "list") (by rfl) M.list (by decide +kernel) rfl) pa_nil))) (pe_callB (isiK K) (by rfl) M.isinstance (by decide +kernel) (pa_cons (pv 0) (pa_cons (pe_bltn (v := .ty "list") (by rfl) M.list (by decide +kernel) rfl) pa_nil))) (nomark _)) (pw_or1 (pt_cmpR op_ne (pe_callB (isiK K) (by rfl) M.isinstance (by decide +kernel) (pa_cons (pv 1) (pa_cons (pe_bltn (v := .ty "tuple") (by rfl) M.tuple (by decide +kernel) rfl) pa_nil))) (pe_callB (isiK K) (by rfl) M.isinstance (by decide +kernel) (pa_cons (pv 0) (pa_cons (pe_bltn (v := .ty "tuple") (by rfl) M.tuple (by decide +kernel) rfl) pa_nil))) (nomark _))))) (pss_one (ps_ret pe_bl)) pss_nil)
      (pss_cons (ps_if (pt_cmpR op_ne (pe_callB (len_seqK K) (by rfl) M.len PySem.boot_len (pa_cons (pv 0) pa_nil)) (pe_callB (len_seqK K) (by rfl) M.len PySem.boot_len (pa_cons (pv 1) pa_nil)) (nomark _)) (pss_one (ps_ret pe_bl)) pss_nil)
      (pss_one (ps_ret (pe_callB (allK K rfl) (by rfl) M.all (by decide +kernel) (pa_cons (pe_lc (own := [("k", 2)]) (g := gName 2) (tt := tYes) rfl sc__law_same.nd (pi_range1 (by rfl) M.range (pa_cons (pe_callB (len_seqK K) (by rfl) M.len PySem.boot_len (pa_cons (pv 1) pa_nil)) pa_nil)) (blkOk_by (N := N__law_same) (sc := defScope s__law_same) (by decide +kernel)) (fun _ _ _ _ _ => (pg_name (i := 2) sc__law_same.nd rfl (.inl rfl))) (fun _ _ _ _ _ => pts_nil) (fun _ _ _ _ _ => (pe_u c__law_same hr (by first | decide | omega) (by rfl) (pa_cons (pe_ix (ix_seqK K) (pv 0) (pv 2) (fun _ _ => rfl)) (pa_cons (pe_ix (ix_seqK K) (pv 1) (pv 2) (fun _ _ => rfl)) pa_nil))))) pa_nil)))))) pss_nil)
      (pss_cons (ps_if (pt_cmpR op_isN (pv 1) pe_non (nomark _)) (pss_one (ps_ret (pe_cmpR op_isN (pv 0) pe_non (nomark _)))) pss_nil)
      (pss_cons (ps_if (pt_cmpR op_ne (pe_callB (isiK K) (by rfl) M.isinstance (by decide +kernel) (pa_cons (pv 1) (pa_cons (pe_bltn (v := .ty "bool") (by rfl) M.bool (by decide +kernel) rfl) pa_nil))) (pe_callB (isiK K) (by rfl) M.isinstance (by decide +kernel) (pa_cons (pv 0) (pa_cons (pe_bltn (v := .ty "bool") (by rfl) M.bool (by decide +kernel) rfl) pa_nil))) (nomark _)) (pss_one (ps_ret pe_bl)) pss_nil)
      (pss_cons (ps_if (pt_val (pe_callB (isiK K) (by rfl) M.isinstance (by decide +kernel) (pa_cons (pv 1) (pa_cons (pe_bltn (v := .ty "str") (by rfl) M.str (by decide +kernel) rfl) pa_nil)))) (pss_one (ps_ret (pe_and (pe_callB (isiK K) (by rfl) M.isinstance (by decide +kernel) (pa_cons (pv 0) (pa_cons (pe_bltn (v := .ty "str") (by rfl) M.str (by decide +kernel) rfl) pa_nil))) (pe_one (pe_cmpR op_eq (pv 0) (pv 1) (nomark _)))))) pss_nil)
      (pss_one (ps_ret (pe_and (pe_callB (isiK K) (by rfl) M.isinstance (by decide +kernel) (pa_cons (pv 0) (pa_cons (pe_bltn (v := .ty "int") (by rfl) M.int (by decide +kernel) rfl) pa_nil))) (pe_one (pe_cmpR op_eq (pv 0) (pv 1) (nomark _)))))))))), ?_⟩
    refine ⟨_, rfl, by show 2 ≤ sizeLine; decide, fun p np => ?_⟩
    have s1 : Same H (upd H p (.tup [.ty "list", .ty "tuple"])) := same_upd np
    have h1 : (upd H p (.tup [.ty "list", .ty "tuple"])) p = some (.tup [.ty "list", .ty "tuple"]) := upd_same
    generalize upd H p (.tup [.ty "list", .ty "tuple"]) = H1 at s1 h1
    have hx1 := Dp.ext s1 D x hx
    have hy1 := Dp.ext s1 D y hy
    have key : (∃ (a b : Addr) (xs ys : List V) (ds : List PyData) (k : Nat) (tn : String) (r1 r2 : Bool), x = .ref a ∧ y = .ref b ∧ (SqL K H1 a xs ∧ SqL K H1 b ys ∨ SqT K H1 a xs ∧ SqT K H1 b ys) ∧ DpAll K H1 xs ds ∧ DpAll K H1 ys ds ∧ ds.length ≤ 100000 ∧ m = k + 1 ∧ (∀ d ∈ ds, Sh k d) ∧
        TyX K H1 x (.type tn) ∧ TyX K H1 y (.type tn) ∧ kitB tn "list" = some r1 ∧ kitB tn "tuple" = some r2 ∧ (r1 || r2) = true) ∨
        (∃ (tn : String), TyX K H1 x (.type tn) ∧ TyX K H1 y (.type tn) ∧ kitB tn "list" = some false ∧ kitB tn "tuple" = some false ∧ (x = .non ∧ y = .non ∨ (∃ b, x = .bl b ∧ y = .bl b ∧ tn = "bool") ∨ (∃ i, x = .int i ∧ y = .int i ∧ tn = "int") ∨ (∃ z, x = .str z ∧ y = .str z ∧ tn = "str"))) := by
      cases sh with
      | non => cases hx1; cases hy1; exact .inr ⟨"NoneType", .base .non, .base .non, by decide +kernel, by decide +kernel, .inl ⟨rfl, rfl⟩⟩
      | bl b => cases hx1; cases hy1; exact .inr ⟨"bool", .base (.bl b), .base (.bl b), by decide +kernel, by decide +kernel, .inr (.inl ⟨b, rfl, rfl, rfl⟩)⟩
      | int i => cases hx1; cases hy1; exact .inr ⟨"int", .base (.int i), .base (.int i), by decide +kernel, by decide +kernel, .inr (.inr (.inl ⟨i, rfl, rfl, rfl⟩))⟩
      | str z => cases hx1; cases hy1; exact .inr ⟨"str", .base (.str z), .base (.str z), by decide +kernel, by decide +kernel, .inr (.inr (.inr ⟨z, rfl, rfl, rfl⟩))⟩
      | lst l h =>
        cases hx1 with
        | lst hs ha =>
          cases hy1 with
          | lst hs' ha' => exact .inl ⟨_, _, _, _, _, _, "list", true, false, rfl, rfl, .inl ⟨hs, hs'⟩, ha, ha', l, rfl, h, tyL hs, tyL hs', by decide +kernel, by decide +kernel, rfl⟩
      | tup l h =>
        cases hx1 with
        | tup hs ha =>
          cases hy1 with
          | tup hs' ha' => exact .inl ⟨_, _, _, _, _, _, "tuple", false, true, rfl, rfl, .inr ⟨hs, hs'⟩, ha, ha', l, rfl, h, tyT hs, tyT hs', by decide +kernel, by decide +kernel, rfl⟩
    rcases key with ⟨a, b, xs, ys, ds, k, tn, r1, r2, rfl, rfl, hq, ha, hb, hl, ek, hk, tx, ty, k1, k2, kr⟩ | ⟨tn, tx, ty, k1, k2, hs⟩
    · -- a list or a tuple
      have ex := DpAll.len ha
      have ey := DpAll.len hb
      have hqa : SqL K H1 a xs ∨ SqT K H1 a xs := hq.elim (fun z => .inl z.1) (fun z => .inr z.1)
      have hqb : SqL K H1 b ys ∨ SqT K H1 b ys := hq.elim (fun z => .inl z.2) (fun z => .inr z.2)
      refine ⟨_, _, _, _, _, _, rfl, h1, .cons (.ty _) (.cons (.ty _) .nil), ty, k_any2 k1 k2, ?_⟩
      refine ⟨_, rfl, ?_⟩
      rw [kr]
      refine iteT ?_
      -- the kinds
      refine ⟨_, rfl, ⟨_, _, _, _, _, rfl, .ty _, ty, kit_ty k1, _, rfl, ⟨_, _, _, _, _, rfl, .ty _, tx, kit_ty k1, rfl, _, rfl, ?_⟩⟩⟩
      rw [decide_eq_true (rfl : V.bl r1 = V.bl r1)]
      refine iteF ?_
      refine ⟨_, rfl, ⟨_, _, _, _, _, rfl, .ty _, ty, kit_ty k2, _, rfl, ⟨_, _, _, _, _, rfl, .ty _, tx, kit_ty k2, rfl, _, rfl, ?_⟩⟩⟩
      rw [decide_eq_true (rfl : V.bl r2 = V.bl r2)]
      refine iteF ?_
      -- the lengths
      refine ⟨_, rfl, a, xs, rfl, hqa, ⟨_, rfl, b, ys, rfl, hqb, rfl, _, rfl, ?_⟩⟩
      rw [ex, ey, decide_eq_true (rfl : V.int (ds.length : Int) = V.int (ds.length : Int))]
      refine iteF ?_
      -- by places
      refine ⟨_, rfl, b, ys, rfl, hqb, _, rfl, by omega, by omega, fun D nD => ?_⟩
      rw [ey]
      refine lc_range (lo := 0) (n := ((ds.length : Nat) : Int).toNat) (fun i Hi => Same H1 Hi ∧ Hi D = some (.lst ((List.replicate i true).map V.bl))) ⟨same_upd nD, upd_same⟩ (fun i Hi hi hp => ?_) (fun Hn hp => ?_)
      · obtain ⟨si, eD⟩ := hp
        have hi2 : i < ds.length := by omega
        obtain ⟨va, hva, da⟩ := DpAll.get (DpAll.ext si ds xs ha) (List.getElem?_eq_getElem hi2)
        obtain ⟨vb, hvb, db⟩ := DpAll.get (DpAll.ext si ds ys hb) (List.getElem?_eq_getElem hi2)
        have ia : rIx K (.ref a) (.int (0 + (i : Int))) Hi = rIx K (.ref a) (.int (0 + (i : Int))) Hi := rfl
        refine ⟨rfl, ?_⟩
        have go : ∀ (c : Addr) (zs : List V) (v : V) (Q : VK), (SqL K H1 c zs ∨ SqT K H1 c zs) → zs[i]? = some v → Q v Hi → rIx K (.ref c) (.int (0 + (i : Int))) Hi Q := fun c zs v Q hz hv hQ => by
          rcases hz with hz | hz
          · exact .inl ⟨c, zs, _, v, rfl, rfl, si.seq hz, at_0 hv, hQ⟩
          · exact .inr (.inl ⟨c, zs, _, v, rfl, rfl, SqT.ext si hz, at_0 hv, hQ⟩)
        refine ⟨_, rfl, _, rfl, go a xs va _ hqa hva ⟨_, rfl, _, rfl, go b ys vb _ hqb hvb ?_⟩⟩
        refine ⟨va, vb, ds[i], k, by omega, rfl, hk _ (List.getElem_mem hi2), da, db, fun H' s' => ?_⟩
        refine ⟨_, s' _ _ eD, ?_, fun b o e => ?_, ?_⟩
        · rw [List.length_map, List.length_replicate]
          exact Nat.lt_of_lt_of_le (m := 100000) (by omega) (by decide)
        · have nb : b ≠ D := ne_of_none e nD
          rw [upd_ne nb]
          exact s' _ _ (si _ _ e)
        · rw [upd_same, List.replicate_succ', List.map_append]
          rfl
      · obtain ⟨si, eD⟩ := hp
        refine ⟨D, _, rfl, .of eD, ?_⟩
        rw [rep_bl]
        exact q _ (s1.trans si)
    · -- neither
      refine ⟨_, _, _, _, _, _, rfl, h1, .cons (.ty _) (.cons (.ty _) .nil), ty, k_any2 k1 k2, ?_⟩
      refine ⟨_, rfl, iteF ?_⟩
      rcases hs with ⟨rfl, rfl⟩ | ⟨b, rfl, rfl, rfl⟩ | ⟨i, rfl, rfl, rfl⟩ | ⟨z, rfl, rfl, rfl⟩
      · -- None
        refine ⟨_, rfl, rfl, _, rfl, iteT ?_⟩
        refine ⟨_, rfl, rfl, ?_⟩
        exact q _ s1
      · refine ⟨_, rfl, rfl, _, rfl, iteF ?_⟩
        refine ⟨_, rfl, ⟨_, _, _, _, _, rfl, .ty _, ty, kit_ty (show kitB _ _ = some true by decide +kernel), _, rfl, ⟨_, _, _, _, _, rfl, .ty _, tx, kit_ty (show kitB _ _ = some true by decide +kernel), rfl, _, rfl, iteF ?_⟩⟩⟩
        refine ⟨_, rfl, ⟨_, _, _, _, _, rfl, .ty _, ty, kit_ty (show kitB _ _ = some false by decide +kernel), _, rfl, iteF ?_⟩⟩
        refine ⟨_, rfl, ⟨_, _, _, _, _, rfl, .ty _, tx, kit_ty (show kitB _ _ = some true by decide +kernel), _, rfl, iteT ?_⟩⟩
        refine ⟨_, rfl, _, rfl, by cases b <;> rfl, ?_⟩
        rw [decide_eq_true (rfl : V.bl b = V.bl b)]
        exact q _ s1
      · refine ⟨_, rfl, rfl, _, rfl, iteF ?_⟩
        refine ⟨_, rfl, ⟨_, _, _, _, _, rfl, .ty _, ty, kit_ty (show kitB _ _ = some false by decide +kernel), _, rfl, ⟨_, _, _, _, _, rfl, .ty _, tx, kit_ty (show kitB _ _ = some false by decide +kernel), rfl, _, rfl, iteF ?_⟩⟩⟩
        refine ⟨_, rfl, ⟨_, _, _, _, _, rfl, .ty _, ty, kit_ty (show kitB _ _ = some false by decide +kernel), _, rfl, iteF ?_⟩⟩
        refine ⟨_, rfl, ⟨_, _, _, _, _, rfl, .ty _, tx, kit_ty (show kitB _ _ = some true by decide +kernel), _, rfl, iteT ?_⟩⟩
        refine ⟨_, rfl, _, rfl, rfl, ?_⟩
        rw [decide_eq_true (rfl : V.int i = V.int i)]
        exact q _ s1
      · refine ⟨_, rfl, rfl, _, rfl, iteF ?_⟩
        refine ⟨_, rfl, ⟨_, _, _, _, _, rfl, .ty _, ty, kit_ty (show kitB _ _ = some false by decide +kernel), _, rfl, ⟨_, _, _, _, _, rfl, .ty _, tx, kit_ty (show kitB _ _ = some false by decide +kernel), rfl, _, rfl, iteF ?_⟩⟩⟩
        refine ⟨_, rfl, ⟨_, _, _, _, _, rfl, .ty _, ty, kit_ty (show kitB _ _ = some true by decide +kernel), _, rfl, iteT ?_⟩⟩
        refine ⟨_, rfl, ⟨_, _, _, _, _, rfl, .ty _, tx, kit_ty (show kitB _ _ = some true by decide +kernel), _, rfl, iteT ?_⟩⟩
        refine ⟨_, rfl, _, rfl, rfl, ?_⟩
        rw [decide_eq_true (rfl : V.str z = V.str z)]
        exact q _ s1
/-- no data at all: where the recursion ends -/
theorem ok_same0 {f : Addr} {fd : FuncData} (F : Fun K "_law_same" "_law_same" s__law_same f fd) : FnOk P w K mg base CX0 1 f fd ["actual", "due"] (sp_same K 0) := by
  refine F.ok sc__law_same (fun vs H Q E h => ?_) (fun cdv A outer s H vs Q E hr h => ?_)
  · obtain ⟨x, y, D, m, e, _⟩ := h
    exact absurd e (by omega)
  · obtain ⟨x, y, D, m, e, _⟩ := h
    exact absurd e (by omega)
/-- of any depth -/
theorem cl_same {f : Addr} {fd : FuncData} (F : Fun K "_law_same" "_law_same" s__law_same f fd) (M : Mg mg) (g : mg "_law_same" = some (.ref f)) (b : Binds K fd ["actual", "due"] []) : ∀ n : Nat, Cl P w K mg base (n + 1) "_law_same" (sp_same K n)
  | 0 => FnOk.cl (ok_same0 F) F g b
  | n + 1 => FnOk.cl (ok_same F M (cl_same F M g b n)) F g b
end

/-! ### t < u of tuples whose first different place alone can be compared -/
section
open PySem.SeqAt AutoSeq1 MeetsSeq MeetsSeq2 MeetsSeq3 SeqRoads2
/-- what the first different place says; fin where there is none -/
def fstLt (e r : Nat → Bool) (fin : Bool) (n : Nat) : Bool := SeqAt.firstLt e r fin (List.range n)
theorem ltFirst (p q : Addr) (xs ys : Array Value) (n1 n2 : Nat) (d1 d2 : Option Addr) (z1 z2 : Array (Option Value)) (e r : Nat → Bool) :
    Meets (Builtin.«tuple.__lt__» ⟨[.ref p, .ref q], []⟩) (fun A R s =>
      s.heap.get? p = some { cls := .type "tuple", dict := d1, data := .seq xs n1, slots := z1 } ∧
      s.heap.get? q = some { cls := .type "tuple", dict := d2, data := .seq ys n2, slots := z2 } ∧
      (∀ j (a : j < xs.size) (b : j < ys.size), (∀ i < j, e i = true) → EqAt A.in1 s xs[j] ys[j] (e j)) ∧
      (∀ j (a : j < xs.size) (b : j < ys.size), (∀ i < j, e i = true) → e j = false → RcLt A.in1 s xs[j] ys[j] (r j)) ∧
      R (.ok (.ret (.bool (fstLt e r (decide (xs.size < ys.size)) (min xs.size ys.size))))) s) :=
  .of_wp fun prog w A R s h => by
    obtain ⟨h0, g, d, tk, os⟩ := s
    obtain ⟨hp, hq, he, hr, h⟩ := h
    have sub := AutoSeq1.sub_tuple_tuple
    have len : (xs.toList.zip ys.toList).length = min xs.size ys.size := by simp
    unfold fstLt at h
    wp_walk using wpAny_loadPart' hp, wpAny_loadPart' hq,
      wpAny_forIn_list _ (fun rest b s' => b.1 = none ∧ s' = ⟨h0, g, d, tk, os⟩ ∧ ∃ i, rest = (xs.toList.zip ys.toList).drop i ∧ (∀ k < i, e k = true) ∧
        R (.ok (.ret (.bool (firstLt e r (decide (xs.size < ys.size)) ((List.range (min xs.size ys.size)).drop i))))) ⟨h0, g, d, tk, os⟩) _
    case turn =>
      rintro ⟨y, x⟩ rest b s' ⟨eb, rfl, i, ez, ei, hR⟩
      have lt : i < (xs.toList.zip ys.toList).length := by
        refine Nat.lt_of_not_le fun z => ?_
        rw [List.drop_of_length_le z] at ez
        cases ez
      have lm : i < min xs.size ys.size := len ▸ lt
      have l1 : i < xs.size := by omega
      have l2 : i < ys.size := by omega
      rw [List.drop_eq_getElem_cons lt] at ez
      injection ez with e1 e2
      have ey : y = xs[i] := by simpa using congrArg Prod.fst e1
      have ex : x = ys[i] := by simpa using congrArg Prod.snd e1
      subst ey ex
      have er : (List.range (min xs.size ys.size)).drop i = i :: (List.range (min xs.size ys.size)).drop (i + 1) := by
        rw [List.drop_eq_getElem_cons (by simpa using lm)]
        simp
      rw [er] at hR
      have hq : e i = false → ∀ (E : Value → Shared → Prop) (Q : Value → Shared → Prop), Q (.bool (r i)) ⟨h0, g, d, tk, os⟩ → wpAny (model prog w) A.in1 (PySem.richCompare .Lt xs[i] ys[i]) Q E ⟨h0, g, d, tk, os⟩ := fun ee E Q z => hr i l1 l2 ei ee prog w E Q z
      have hb : ∀ (E : Value → Shared → Prop) (Q : Bool → Shared → Prop), Q (e i) ⟨h0, g, d, tk, os⟩ → wpAny (model prog w) A.in1 (PySem.eqBool xs[i] ys[i]) Q E ⟨h0, g, d, tk, os⟩ := fun E Q z => he i l1 l2 ei prog w E Q z
      refine wpAny_bind (hb _ _ ?_)
      cases ee : e i with
      | true =>
        rw [firstLt_yes ee] at hR
        wp_walk
        refine ⟨rfl, rfl, i + 1, e2, fun k hk => ?_, hR⟩
        by_cases z : k = i
        · exact z ▸ ee
        · exact ei k (by omega)
      | false =>
        rw [firstLt_no ee] at hR
        generalize PySem.richCompare .Lt xs[i] ys[i] = less at hq ⊢
        wp_walk
        refine hq ee _ _ ?_
        wp_walk
        exact ⟨_, rfl, hR⟩
    case fin =>
      rintro ⟨b1, b2⟩ s' ⟨eb, rfl, i, ez, ei, hR⟩
      simp only at eb
      subst eb
      have ge : min xs.size ys.size ≤ i := by
        refine Nat.le_of_not_lt fun z => ?_
        rw [List.drop_eq_getElem_cons (by rw [len]; exact z)] at ez
        cases ez
      rw [List.drop_of_length_le (by simpa using ge)] at hR
      wp_walk
      exact ⟨_, rfl, by simpa [Builtin.Tuple.tupleCompareSizes, firstLt] using hR⟩
    case h => exact ⟨rfl, rfl, 0, rfl, (fun k hk => absurd hk (Nat.not_lt_zero k)), by simpa using h⟩
theorem rcLt_first {A : Around} {s : Shared} {p q : Addr} {xs ys : Array Value} {e r : Nat → Bool} (hp : s.heap.IsTuple p xs) (hq : s.heap.IsTuple q ys) (hu : A.units < cLine)
    (he : ∀ j (a : j < xs.size) (b : j < ys.size), (∀ i < j, e i = true) → EqAt A.in1 s xs[j] ys[j] (e j)) (hr : ∀ j (a : j < xs.size) (b : j < ys.size), (∀ i < j, e i = true) → e j = false → RcLt A.in1 s xs[j] ys[j] (r j)) :
    RcLt A s (.ref p) (.ref q) (fstLt e r (decide (xs.size < ys.size)) (min xs.size ys.size)) := fun prog w E Q h => by
  obtain ⟨⟨c1, d1, t1, z1⟩, o1, k1, n1, m1⟩ := id hp
  obtain ⟨⟨c2, d2, t2, z2⟩, o2, k2, n2, m2⟩ := id hq
  simp only at k1 m1 k2 m2
  subst k1 m1 k2 m2
  exact richCompare_meets_room (op := .Lt) ⟨_, o1, rfl⟩ ⟨_, o2, rfl⟩ F.slot_tuple_lt F.entry_tuple_lt (F.args_tuple_lt_2 _ _) (ltFirst p q xs ys n1 n2 d1 d2 z1 z2 e r)
    ⟨o1, o2, he, hr, show Value.bool (fstLt e r (decide (xs.size < ys.size)) (min xs.size ys.size)) ≠ Value.notImplemented ∧ Q (.bool (fstLt e r (decide (xs.size < ys.size)) (min xs.size ys.size))) s from ⟨(fun z => nomatch z), h⟩⟩ hu
end
/-! the order of data, and where it may be asked -/
mutual
def ltD : PyData → PyData → Bool
  | .int a, .int b => decide (a < b)
  | .str a, .str b => decide (a.cps.toList < b.cps.toList)
  | .tuple xs, .tuple ys => ltDs xs ys
  | .list xs, .list ys => PySem.W.dataLt (.list xs) (.list ys)
  | _, _ => false
def ltDs : List PyData → List PyData → Bool
  | [], [] => false
  | [], _ :: _ => true
  | _ :: _, [] => false
  | x :: xs, y :: ys => if PyData.eqv x y = true then ltDs xs ys else ltD x y
end
mutual
def okD : PyData → PyData → Bool
  | .int _, .int _ => true
  | .str _, .str _ => true
  | .tuple xs, .tuple ys => okDs xs ys
  | .list xs, .list ys => PySem.W.alike (.list xs) (.list ys)
  | _, _ => false
def okDs : List PyData → List PyData → Bool
  | x :: xs, y :: ys => if PyData.eqv x y = true then okDs xs ys else okD x y
  | [], _ => true
  | _ :: _, [] => true
end
theorem fst_all (f : Nat → Nat → Bool) (e r e' r' : Nat → Bool) (fin : Bool) : ∀ l : List Nat, (∀ j, e (j + 1) = e' j) → (∀ j, r (j + 1) = r' j) → SeqAt.firstLt e r fin (l.map (· + 1)) = SeqAt.firstLt e' r' fin l
  | [], _, _ => rfl
  | j :: l, he, hr => by
    rw [List.map_cons]
    unfold SeqAt.firstLt
    rw [he, hr, fst_all f e r e' r' fin l he hr]
theorem fst_cons (e r : Nat → Bool) (fin : Bool) (n : Nat) : fstLt e r fin (n + 1) = if e 0 = true then fstLt (fun j => e (j + 1)) (fun j => r (j + 1)) fin n else r 0 := by
  unfold fstLt
  rw [List.range_succ_eq_map]
  show (if e 0 = true then SeqAt.firstLt e r fin ((List.range n).map Nat.succ) else r 0) = _
  rw [show (List.range n).map Nat.succ = (List.range n).map (· + 1) from rfl, fst_all (fun _ _ => true) e r (fun j => e (j + 1)) (fun j => r (j + 1)) fin _ (fun _ => rfl) (fun _ => rfl)]
/-- what the places of two lists say -/
def eqP (xs ys : List PyData) (j : Nat) : Bool := PyData.eqv (xs.getD j .none) (ys.getD j .none)
def ltP (xs ys : List PyData) (j : Nat) : Bool := ltD (xs.getD j .none) (ys.getD j .none)
theorem ltDs_first : ∀ xs ys : List PyData, ltDs xs ys = fstLt (eqP xs ys) (ltP xs ys) (decide (xs.length < ys.length)) (min xs.length ys.length)
  | [], [] => by unfold ltDs; rfl
  | [], y :: ys => by
    unfold ltDs
    rw [List.length_nil, Nat.zero_min]
    rfl
  | x :: xs, [] => by
    unfold ltDs
    rw [List.length_nil, Nat.min_zero]
    rfl
  | x :: xs, y :: ys => by
    unfold ltDs
    rw [List.length_cons, List.length_cons, Nat.succ_min_succ, fst_cons, ltDs_first xs ys]
    have e : decide (xs.length + 1 < ys.length + 1) = decide (xs.length < ys.length) := by
      rw [decide_eq_decide]
      omega
    rw [e]
    rfl
theorem okDs_at : ∀ (xs ys : List PyData) (j : Nat), okDs xs ys = true → j < xs.length → j < ys.length → (∀ i < j, eqP xs ys i = true) → eqP xs ys j = false → okD (xs.getD j .none) (ys.getD j .none) = true
  | [], _, j, _, h, _, _, _ => absurd h (Nat.not_lt_zero _)
  | _ :: _, [], j, _, _, h, _, _ => absurd h (Nat.not_lt_zero _)
  | x :: xs, y :: ys, 0, h, _, _, _, e => by
    have e' : PyData.eqv x y = false := e
    unfold okDs at h
    rw [e', if_neg Bool.false_ne_true] at h
    exact h
  | x :: xs, y :: ys, j + 1, h, h1, h2, ei, e => by
    have e0 : PyData.eqv x y = true := ei 0 (Nat.succ_pos j)
    unfold okDs at h
    rw [if_pos e0] at h
    exact okDs_at xs ys j h (Nat.lt_of_succ_lt_succ h1) (Nat.lt_of_succ_lt_succ h2) (fun i hi => ei (i + 1) (Nat.succ_lt_succ hi)) e
theorem pairEq_eqP : ∀ (xs ys : List PyData) (j : Nat), SeqAt.pairEq xs ys j = eqP xs ys j := fun xs ys j => rfl
section
open PySem.SeqAt
mutual
theorem rcLt_D : ∀ (x y : PyData) (A : Around) (s : Shared) (u v : Value) (as bs : List Addr), Reads s.heap u x as → Reads s.heap v y bs → x.canLay0 = true → y.canLay0 = true → okD x y = true → A.units + min x.depth y.depth < cLine → RcLt A s u v (ltD x y)
  | .none, _, _, _, _, _, _, _, _, _, _, _, h, _ => by unfold okD at h; cases h
  | .bool _, _, _, _, _, _, _, _, _, _, _, _, h, _ => by unfold okD at h; cases h
  | .list xs, y, A, s, u, v, as, bs, ra, rb, _, _, h, hu => by
    cases y with
    | list ys =>
      have ho : PySem.W.alike (.list xs) (.list ys) = true := by unfold okD at h; exact h
      have e : ltD (.list xs) (.list ys) = PySem.W.dataLt (.list xs) (.list ys) := by unfold ltD; rfl
      rw [e]
      exact PySem.W.rcLt_alike _ _ A s u v as bs ra rb ho (fun z => nomatch z) hu
    | _ => unfold okD at h; cases h
  | .dict _, _, _, _, _, _, _, _, _, _, _, _, h, _ => by unfold okD at h; cases h
  | .int a, y, A, s, u, v, as, bs, ra, rb, _, _, h, _ => by
    cases y with
    | int b =>
      cases ra
      cases rb
      intro prog w E Q hq
      exact P.lt_int (by unfold ltD at hq; exact hq)
    | _ => unfold okD at h; cases h
  | .str a, y, A, s, u, v, as, bs, ra, rb, _, _, h, _ => by
    cases y with
    | str b =>
      cases ra
      cases rb
      intro prog w E Q hq
      exact P.lt_str (by unfold ltD at hq; exact hq)
    | _ => unfold okD at h; cases h
  | .tuple xs, y, A, s, u, v, as, bs, ra, rb, ca, cb, h, hu => by
    cases y with
    | tuple ys =>
      have ho : okDs xs ys = true := by unfold okD at h; exact h
      have c1 : PyData.canLayAll0 xs = true := by simpa [PyData.canLay0] using ca
      have c2 : PyData.canLayAll0 ys = true := by simpa [PyData.canLay0] using cb
      cases ra with
      | @tuple p o vs n _ as1 a1 a2 a3 a4 =>
        cases rb with
        | @tuple q o' ws n' _ bs1 b1 b2 b3 b4 =>
          have l1 : vs.size = xs.length := by simpa using ReadsAll.length _ _ _ a4
          have l2 : ws.size = ys.length := by simpa using ReadsAll.length _ _ _ b4
          have e : ltD (.tuple xs) (.tuple ys) = ltDs xs ys := by unfold ltD; rfl
          rw [e, ltDs_first, ← l1, ← l2]
          refine rcLt_first ⟨_, a1, a2, _, a3⟩ ⟨_, b1, b2, _, b3⟩ (room_here hu) (fun j j1 j2 _ => ?_) (fun j j1 j2 hi hj => ?_)
          · have z : EqAt A.in1 s (vs.toList[j]'(by simpa using j1)) (ws.toList[j]'(by simpa using j2)) (eqP xs ys j) := eqAt_readsAll xs ys A.in1 s vs.toList ws.toList _ _ a4 b4 c1 c2 (room_in hu) j (by simpa using j1) (by simpa using j2)
            simpa using z
          · have := rcLt_Ds xs ys A.in1 s vs.toList ws.toList _ _ a4 b4 c1 c2 (room_in hu) j (by simpa using j1) (by simpa using j2) (okDs_at xs ys j ho (by omega) (by omega) hi hj)
            simpa using this
    | _ => unfold okD at h; cases h
theorem rcLt_Ds : ∀ (xs ys : List PyData) (A : Around) (s : Shared) (vs ws : List Value) (as bs : List Addr), ReadsAll s.heap vs xs as → ReadsAll s.heap ws ys bs → PyData.canLayAll0 xs = true → PyData.canLayAll0 ys = true →
    A.units + min (PyData.depthAll xs) (PyData.depthAll ys) < cLine → ∀ j (a : j < vs.length) (b : j < ws.length), okD (xs.getD j .none) (ys.getD j .none) = true → RcLt A s vs[j] ws[j] (ltP xs ys j)
  | [], _, _, _, _, _, _, _, ra, _, _, _, _, j, h, _, _ => by cases ra; exact absurd h (Nat.not_lt_zero _)
  | _ :: _, [], _, _, _, _, _, _, _, rb, _, _, _, j, _, h, _ => by cases rb; exact absurd h (Nat.not_lt_zero _)
  | x :: xs, y :: ys, A, s, _, _, _, _, ra, rb, ca, cb, hu, j, h1, h2, hk => by
    have c1 : x.canLay0 = true ∧ PyData.canLayAll0 xs = true := by simpa [PyData.canLayAll0] using ca
    have c2 : y.canLay0 = true ∧ PyData.canLayAll0 ys = true := by simpa [PyData.canLayAll0] using cb
    cases ra with
    | cons r rs =>
      cases rb with
      | cons r' rs' =>
        cases j with
        | zero => exact rcLt_D x y A s _ _ _ _ r r' c1.1 c2.1 hk (room_head hu)
        | succ j => exact rcLt_Ds xs ys A s _ _ _ _ rs rs' c1.2 c2.2 (room_tail hu) j (Nat.lt_of_succ_lt_succ h1) (Nat.lt_of_succ_lt_succ h2) hk
end
end
def rLtD (K : PySem.W.Frag) : R2 := fun x y H Q => ∃ d e, Dp K H x d ∧ Dp K H y e ∧ SeqAt.shaped d = true ∧ SeqAt.shaped e = true ∧ okD d e = true ∧ Q (.bl (ltD d e)) H
theorem ltDK {X : Cx} (K : PySem.W.Frag) (hu : X.A.units + 64 < cLine) (h : X.K = K := by rfl) : OpR X (compareOp .Lt) (rLtD K) := by
  subst h
  intro pins s σ H x y v u Q I rx ry h
  obtain ⟨d, e, hd, he, sd, se, ho, q⟩ := h
  obtain ⟨as, r1⟩ := Dp.reads I d x v hd rx
  obtain ⟨bs, r2⟩ := Dp.reads I e y u he ry
  have go := rcLt_D d e X.A s v u as bs r1 r2 (SeqAt.canLay_of_shaped sd) (SeqAt.canLay_of_shaped se) ho (SeqAt.room_of_shaped sd hu)
  exact go X.prog X.w X.xe _ ⟨.bl _, H, I, rfl, q⟩

/-! ### the nodes of diagrams in their order -/
def Bd.sz : Bd → Nat
  | .lf _ => 0
  | .nd _ w t => w.sz + t.sz + 1
def knw (acc : List Bd) : Bd → Bool
  | .lf _ => true
  | a => decide (a ∈ acc)
/-- all of one side, all of the other, then the node: what is known already is passed over -/
def post : List Bd → Bd → List Bd
  | acc, .lf _ => acc
  | acc, .nd e w t => if Bd.nd e w t ∈ acc then acc else post (post acc w) t ++ [.nd e w t]
def Clo (acc : List Bd) : Prop := ∀ e w t, Bd.nd e w t ∈ acc → knw acc w = true ∧ knw acc t = true
theorem knw_nd {acc : List Bd} {e : Int} {w t : Bd} : knw acc (.nd e w t) = true ↔ Bd.nd e w t ∈ acc := by
  unfold knw
  exact decide_eq_true_iff
theorem post_knw {acc : List Bd} {a : Bd} (h : knw acc a = true) : post acc a = acc := by
  cases a with
  | lf b => rfl
  | nd e w t => unfold post; exact if_pos (knw_nd.mp h)
theorem post_pre : ∀ (a : Bd) (acc : List Bd), acc <+: post acc a
  | .lf _, acc => List.prefix_refl acc
  | .nd e w t, acc => by
    unfold post
    split
    · exact List.prefix_refl acc
    · exact ((post_pre w acc).trans (post_pre t _)).trans (List.prefix_append _ _)
theorem knw_pre {acc bcc : List Bd} (h : acc <+: bcc) {a : Bd} (k : knw acc a = true) : knw bcc a = true := by
  cases a with
  | lf b => rfl
  | nd e w t => exact knw_nd.mpr (h.subset (knw_nd.mp k))
theorem post_self : ∀ (a : Bd) (acc : List Bd), knw (post acc a) a = true
  | .lf _, _ => rfl
  | .nd e w t, acc => by
    rw [knw_nd]
    unfold post
    split
    · assumption
    · exact List.mem_append_right _ (List.mem_singleton.mpr rfl)
theorem post_mem : ∀ (a : Bd) (acc : List Bd) (b : Bd), b ∈ post acc a → b ∈ acc ∨ b.sz ≤ a.sz
  | .lf _, acc, b, h => .inl h
  | .nd e w t, acc, b, h => by
    unfold post at h
    split at h
    · exact .inl h
    · rcases List.mem_append.mp h with h | h
      · rcases post_mem t _ b h with h | h
        · rcases post_mem w acc b h with h | h
          · exact .inl h
          · right; show _ ≤ w.sz + t.sz + 1; omega
        · right; show _ ≤ w.sz + t.sz + 1; omega
      · rw [List.mem_singleton.mp h]
        exact .inr (Nat.le_refl _)
theorem post_new {e : Int} {w t : Bd} {acc : List Bd} (h : Bd.nd e w t ∉ acc) : Bd.nd e w t ∉ post (post acc w) t := by
  intro z
  rcases post_mem t _ _ z with z | z
  · rcases post_mem w _ _ z with z | z
    · exact h z
    · have : w.sz + t.sz + 1 ≤ w.sz := z
      omega
  · have : w.sz + t.sz + 1 ≤ t.sz := z
    omega
theorem post_nd {e : Int} {w t : Bd} {acc : List Bd} (h : Bd.nd e w t ∉ acc) : post acc (.nd e w t) = post (post acc w) t ++ [.nd e w t] := by
  rw [post]
  exact if_neg h
/-- once more behind its sides -/
theorem post_again {e : Int} {w t : Bd} {acc : List Bd} (h : Bd.nd e w t ∉ acc) : post (post (post acc w) t) (.nd e w t) = post acc (.nd e w t) := by
  have k1 : knw (post (post acc w) t) w = true := knw_pre (post_pre t _) (post_self w acc)
  have k2 : knw (post (post acc w) t) t = true := post_self t _
  rw [post_nd (post_new h), post_nd h, post_knw k1, post_knw k2]
theorem post_clo : ∀ (a : Bd) (acc : List Bd), Clo acc → Clo (post acc a)
  | .lf _, _, h => h
  | .nd e w t, acc, h => by
    unfold post
    split
    · exact h
    · have h2 := post_clo t _ (post_clo w acc h)
      have k1 : knw (post (post acc w) t) w = true := knw_pre (post_pre t _) (post_self w acc)
      have k2 : knw (post (post acc w) t) t = true := post_self t _
      intro e' w' t' hm
      rcases List.mem_append.mp hm with hm | hm
      · obtain ⟨g1, g2⟩ := h2 _ _ _ hm
        exact ⟨knw_pre (List.prefix_append _ _) g1, knw_pre (List.prefix_append _ _) g2⟩
      · rw [List.mem_singleton] at hm
        cases hm
        exact ⟨knw_pre (List.prefix_append _ _) k1, knw_pre (List.prefix_append _ _) k2⟩
theorem post_nodup : ∀ (a : Bd) (acc : List Bd), acc.Nodup → (post acc a).Nodup
  | .lf _, _, h => h
  | .nd e w t, acc, h => by
    unfold post
    split
    · exact h
    · rename_i hn
      rw [List.nodup_append]
      refine ⟨post_nodup t _ (post_nodup w acc h), List.nodup_cons.mpr ⟨List.not_mem_nil, List.nodup_nil⟩, fun x hx y hy z => ?_⟩
      rw [List.mem_singleton] at hy
      subst z hy
      exact post_new hn hx
/-- how many turns of the loop -/
def itn : List Bd → Bd → Nat
  | _, .lf _ => 1
  | acc, .nd e w t => if Bd.nd e w t ∈ acc then 1 else if (knw acc w && knw acc t) = true then 2 else 3 + (if knw acc w = true then 0 else itn acc w) + (if knw acc t = true then 0 else itn (post acc w) t)
def itns : List Bd → List Bd → Nat
  | _, [] => 0
  | acc, a :: as => itn acc a + itns (post acc a) as
theorem itn_knw {acc : List Bd} {a : Bd} (h : knw acc a = true) : itn acc a = 1 := by
  cases a with
  | lf b => rfl
  | nd e w t => unfold itn; exact if_pos (knw_nd.mp h)
/-- what is put on the pile -/
def wts (acc : List Bd) (w t : Bd) : List Bd := (if knw acc w = true then [] else [w]) ++ (if knw acc t = true then [] else [t])
theorem wts_nil {acc : List Bd} {w t : Bd} : wts acc w t = [] ↔ knw acc w = true ∧ knw acc t = true := by
  unfold wts
  cases knw acc w <;> cases knw acc t <;> simp
theorem foldl_wts {acc : List Bd} {w t : Bd} : (wts acc w t).foldl post acc = post (post acc w) t := by
  unfold wts
  by_cases h1 : knw acc w = true
  · rw [if_pos h1, post_knw h1]
    by_cases h2 : knw acc t = true
    · rw [if_pos h2, post_knw h2]
      rfl
    · rw [if_neg h2]
      rfl
  · rw [if_neg h1]
    by_cases h2 : knw acc t = true
    · rw [if_pos h2, post_knw (knw_pre (post_pre w acc) h2)]
      rfl
    · rw [if_neg h2]
      rfl
theorem itns_app : ∀ (as bs : List Bd) (acc : List Bd), itns acc (as ++ bs) = itns acc as + itns (as.foldl post acc) bs
  | [], bs, acc => by rw [List.nil_append]; show _ = 0 + _; rw [Nat.zero_add]; rfl
  | a :: as, bs, acc => by
    rw [List.cons_append]
    show itn acc a + itns (post acc a) (as ++ bs) = itn acc a + itns (post acc a) as + _
    rw [itns_app as bs, List.foldl_cons, Nat.add_assoc]
theorem itns_push {acc : List Bd} {e : Int} {w t : Bd} {as : List Bd} (h : Bd.nd e w t ∉ acc) (hw : wts acc w t ≠ []) : itns acc (wts acc w t ++ .nd e w t :: as) + 1 = itns acc (.nd e w t :: as) ∧ (wts acc w t ++ .nd e w t :: as).foldl post acc = (Bd.nd e w t :: as).foldl post acc := by
  have hk : ¬ (knw acc w && knw acc t) = true := fun z => hw (wts_nil.mpr (by rw [Bool.and_eq_true] at z; exact z))
  constructor
  · rw [itns_app, foldl_wts]
    have k1 : knw (post (post acc w) t) w = true := knw_pre (post_pre t _) (post_self w acc)
    have k2 : knw (post (post acc w) t) t = true := post_self t _
    have e1 : itn (post (post acc w) t) (.nd e w t) = 2 := by
      unfold itn
      rw [if_neg (post_new h), k1, k2]
      rfl
    have e2 : itn acc (.nd e w t) = 3 + (if knw acc w = true then 0 else itn acc w) + (if knw acc t = true then 0 else itn (post acc w) t) := by
      rw [itn]
      rw [if_neg h, if_neg hk]
    show itns acc (wts acc w t) + (itn _ _ + itns _ as) + 1 = itn acc _ + itns _ as
    rw [e1, e2, post_again h]
    have e3 : itns acc (wts acc w t) = (if knw acc w = true then 0 else itn acc w) + (if knw acc t = true then 0 else itn (post acc w) t) := by
      unfold wts
      by_cases h1 : knw acc w = true
      · rw [if_pos h1, if_pos h1]
        by_cases h2 : knw acc t = true
        · rw [if_pos h2, if_pos h2]; rfl
        · rw [if_neg h2, if_neg h2, List.nil_append, post_knw h1]
          show itn acc t + 0 = 0 + itn acc t
          omega
      · rw [if_neg h1, if_neg h1]
        by_cases h2 : knw acc t = true
        · rw [if_pos h2, if_pos h2, List.append_nil]
          rfl
        · rw [if_neg h2, if_neg h2]
          show itn acc w + (itn (post acc w) t + 0) = _
          omega
    omega
  · rw [List.foldl_append, foldl_wts, List.foldl_cons, List.foldl_cons, post_again h]
/-- both sides known: it gets its number -/
theorem itns_num {acc : List Bd} {e : Int} {w t : Bd} {as : List Bd} (h : Bd.nd e w t ∉ acc) (k1 : knw acc w = true) (k2 : knw acc t = true) : itns (acc ++ [.nd e w t]) (.nd e w t :: as) + 1 = itns acc (.nd e w t :: as) ∧ (Bd.nd e w t :: as).foldl post (acc ++ [.nd e w t]) = (Bd.nd e w t :: as).foldl post acc := by
  have e0 : post acc (.nd e w t) = acc ++ [.nd e w t] := by rw [post_nd h, post_knw k1, post_knw k2]
  have hm : Bd.nd e w t ∈ acc ++ [.nd e w t] := List.mem_append_right _ (List.mem_singleton.mpr rfl)
  have e1 : post (acc ++ [.nd e w t]) (.nd e w t) = acc ++ [.nd e w t] := post_knw (knw_nd.mpr hm)
  constructor
  · show itn _ _ + itns _ as + 1 = itn _ _ + itns _ as
    rw [e0, e1, itn_knw (knw_nd.mpr hm)]
    have : itn acc (.nd e w t) = 2 := by
      unfold itn
      rw [if_neg h, k1, k2]
      rfl
    omega
  · rw [List.foldl_cons, List.foldl_cons, e0, e1]
/-- the numbers by which nodes tell conditions -/
def nmb (acc : List Bd) : Bd → Nat
  | .lf b => if b = true then 1 else 0
  | a => acc.idxOf a + 2
theorem nmb_pre {acc bcc : List Bd} (h : acc <+: bcc) {a : Bd} (k : knw acc a = true) : nmb bcc a = nmb acc a := by
  cases a with
  | lf b => rfl
  | nd e w t =>
    obtain ⟨r, rfl⟩ := h
    show (acc ++ r).idxOf _ + 2 = acc.idxOf _ + 2
    rw [List.idxOf_append, if_pos (knw_nd.mp k)]

/-! ### the table of a condition -/
def Rel2 (N : Nds) : List Nat → List Bd → Prop
  | [], [] => True
  | c :: cs, a :: as => At N c a ∧ Rel2 N cs as
  | _, _ => False
theorem Rel2.len {N : Nds} : ∀ {cs : List Nat} {as : List Bd}, Rel2 N cs as → cs.length = as.length
  | [], [], _ => rfl
  | [], _ :: _, h => h.elim
  | _ :: _, [], h => h.elim
  | _ :: cs, _ :: as, h => congrArg (· + 1) (Rel2.len h.2)
theorem Rel2.app {N : Nds} : ∀ {cs : List Nat} {as : List Bd} {ds : List Nat} {bs : List Bd}, Rel2 N cs as → Rel2 N ds bs → Rel2 N (cs ++ ds) (as ++ bs)
  | [], [], _, _, _, h => h
  | [], _ :: _, _, _, h, _ => h.elim
  | _ :: _, [], _, _, h, _ => h.elim
  | _ :: cs, _ :: as, _, _, h, g => ⟨h.1, Rel2.app h.2 g⟩
def nbl : Nat → List Nat → List (Key × V)
  | _, [] => []
  | n, c :: cs => (.inl (c : Int), .int (n : Int)) :: nbl (n + 1) cs
/-- the numbers that are told so far -/
def nbs (cs : List Nat) : List (Key × V) := (.inl 0, .int 0) :: (.inl 1, .int 1) :: nbl 2 cs
theorem nbl_len : ∀ (cs : List Nat) (n : Nat), (nbl n cs).length = cs.length
  | [], _ => rfl
  | _ :: cs, n => congrArg (· + 1) (nbl_len cs (n + 1))
theorem nbs_len (cs : List Nat) : (nbs cs).length = cs.length + 2 := by
  unfold nbs
  rw [List.length_cons, List.length_cons, nbl_len]
theorem nbl_snoc : ∀ (cs : List Nat) (n c : Nat), nbl n (cs ++ [c]) = nbl n cs ++ [(.inl (c : Int), .int ((n + cs.length : Nat) : Int))]
  | [], n, c => rfl
  | d :: cs, n, c => by
    show _ :: nbl (n + 1) (cs ++ [c]) = _ :: (nbl (n + 1) cs ++ _)
    rw [nbl_snoc cs (n + 1) c, List.length_cons, show n + 1 + cs.length = n + (cs.length + 1) by omega]
theorem nbs_snoc (cs : List Nat) (c : Nat) : nbs (cs ++ [c]) = nbs cs ++ [(.inl (c : Int), .int ((cs.length + 2 : Nat) : Int))] := by
  unfold nbs
  rw [nbl_snoc, Nat.add_comm 2]
  rfl
theorem key_ne {c d : Nat} (h : c ≠ d) : ¬ (Sum.inl (c : Int) : Key) = Sum.inl (d : Int) := fun z => h (by
  injection z with z
  omega)
theorem nbl_val {N : Nds} (hN : N.Nodup) {c : Nat} {a : Bd} (hA : At N c a) : ∀ {cs : List Nat} {as : List Bd} {n : Nat}, Rel2 N cs as → valV (nbl n cs) (.inl (c : Int)) = if a ∈ as then some (.int ((as.idxOf a + n : Nat) : Int)) else none
  | [], [], n, _ => by
    rw [if_neg List.not_mem_nil]
    rfl
  | [], _ :: _, _, h => h.elim
  | _ :: _, [], _, h => h.elim
  | d :: cs, b :: as, n, h => by
    by_cases e : d = c
    · subst e
      have eb := h.1.fn hA
      subst eb
      rw [if_pos List.mem_cons_self, List.idxOf_cons_self, Nat.zero_add]
      exact valV_pos rfl
    · have eb : b ≠ a := fun z => e (by subst z; exact h.1.inj hN hA)
      show valV ((.inl (d : Int), .int (n : Int)) :: nbl (n + 1) cs) _ = _
      rw [valV_neg (key_ne e), nbl_val hN hA h.2]
      by_cases ha : a ∈ as
      · rw [if_pos ha, if_pos (List.mem_cons_of_mem _ ha), show (b :: as).idxOf a = as.idxOf a + 1 by rw [List.idxOf_cons, beq_false_of_ne eb]; rfl]
        exact congrArg (fun z => some (V.int z)) (by omega)
      · rw [if_neg ha, if_neg (fun z => by
          rcases List.mem_cons.mp z with z | z
          · exact eb z.symm
          · exact ha z)]
theorem nbs_val {N : Nds} (hN : N.Nodup) {c : Nat} {a : Bd} (hA : At N c a) {cs : List Nat} {as : List Bd} (h : Rel2 N cs as) : valV (nbs cs) (.inl (c : Int)) = if knw as a = true then some (.int ((nmb as a : Nat) : Int)) else none := by
  unfold nbs
  cases hA with
  | f => exact valV_pos (p := ((.inl 0 : Key), V.int 0)) rfl
  | t => exact (valV_neg (p := ((.inl 0 : Key), V.int 0)) (by intro z; cases z)).trans (valV_pos (p := ((.inl 1 : Key), V.int 1)) rfl)
  | @nd k e w t A B hk ha hb =>
    have e1 : ¬ (Sum.inl 0 : Key) = Sum.inl ((k + 2 : Nat) : Int) := fun z => by
      injection z with z
      omega
    have e2 : ¬ (Sum.inl 1 : Key) = Sum.inl ((k + 2 : Nat) : Int) := fun z => by
      injection z with z
      omega
    rw [valV_neg (p := ((.inl 0 : Key), V.int 0)) e1, valV_neg (p := ((.inl 1 : Key), V.int 1)) e2, nbl_val hN (.nd hk ha hb) h]
    by_cases hm : Bd.nd e A B ∈ as
    · rw [if_pos hm, if_pos (knw_nd.mpr hm)]
      rfl
    · rw [if_neg hm, if_neg (fun z => hm (knw_nd.mp z))]
def rowD (acc : List Bd) : Bd → PyData
  | .nd e w t => .tuple [.int e, .int ((nmb acc w : Nat) : Int), .int ((nmb acc t : Nat) : Int)]
  | .lf _ => .none
theorem row_pre {acc bcc : List Bd} (hc : Clo acc) (h : acc <+: bcc) {a : Bd} (ha : a ∈ acc) : rowD bcc a = rowD acc a := by
  cases a with
  | lf b => rfl
  | nd e w t =>
    obtain ⟨k1, k2⟩ := hc _ _ _ ha
    show PyData.tuple _ = PyData.tuple _
    rw [nmb_pre h k1, nmb_pre h k2]
theorem rows_snoc {acc : List Bd} (hc : Clo acc) (a : Bd) : (acc ++ [a]).map (rowD (acc ++ [a])) = acc.map (rowD acc) ++ [rowD (acc ++ [a]) a] := by
  rw [List.map_append]
  refine congrArg (· ++ _) ?_
  exact List.map_congr_left fun b hb => row_pre hc (List.prefix_append _ _) hb
theorem rows_only (acc bcc : List Bd) : tupOnlys (bcc.map (rowD acc)) = true := by
  induction bcc with
  | nil => rfl
  | cons a bcc ih =>
    rw [List.map_cons]
    unfold tupOnlys
    rw [ih]
    cases a <;> rfl
theorem foldl_pre : ∀ (as acc : List Bd), acc <+: as.foldl post acc
  | [], acc => List.prefix_refl acc
  | a :: as, acc => (post_pre a acc).trans (foldl_pre as _)
theorem itns_len : ∀ (as acc : List Bd), as.length ≤ itns acc as
  | [], _ => Nat.le_refl _
  | a :: as, acc => by
    have h1 := itns_len as (post acc a)
    have h2 : 1 ≤ itn acc a := by
      cases a with
      | lf b => exact Nat.le_refl _
      | nd e w t =>
        unfold itn
        split
        · exact Nat.le_refl _
        · split <;> omega
    show as.length + 1 ≤ itn acc a + itns _ as
    omega
theorem itn_le : ∀ (a : Bd) (acc : List Bd), itn acc a ≤ 4 * a.sz + 1
  | .lf _, _ => Nat.le_refl _
  | .nd e w t, acc => by
    have h1 := itn_le w acc
    have h2 := itn_le t (post acc w)
    unfold itn
    show _ ≤ 4 * (w.sz + t.sz + 1) + 1
    split
    · omega
    · split
      · omega
      · split <;> split <;> omega
theorem itns_le : ∀ (as acc : List Bd) (b : Nat), (∀ a ∈ as, a.sz ≤ b) → itns acc as ≤ as.length * (4 * b + 1)
  | [], _, _, _ => Nat.zero_le _
  | a :: as, acc, b, h => by
    have h1 := itn_le a acc
    have h2 := itns_le as (post acc a) b fun x hx => h x (List.mem_cons_of_mem _ hx)
    have h3 := h a List.mem_cons_self
    show itn acc a + itns _ as ≤ (as.length + 1) * _
    rw [Nat.succ_mul]
    omega
theorem post_len : ∀ (a : Bd) (acc : List Bd), (post acc a).length ≤ acc.length + a.sz
  | .lf _, _ => Nat.le_refl _
  | .nd e w t, acc => by
    have h1 := post_len w acc
    have h2 := post_len t (post acc w)
    unfold post
    show _ ≤ acc.length + (w.sz + t.sz + 1)
    split
    · omega
    · rw [List.length_append]
      show _ + 1 ≤ _
      omega
theorem posts_len : ∀ (as acc : List Bd) (b : Nat), (∀ a ∈ as, a.sz ≤ b) → (as.foldl post acc).length ≤ acc.length + as.length * b
  | [], acc, _, _ => by simp
  | a :: as, acc, b, h => by
    have h1 := post_len a acc
    have h2 := posts_len as (post acc a) b fun x hx => h x (List.mem_cons_of_mem _ hx)
    have h3 := h a List.mem_cons_self
    rw [List.foldl_cons, List.length_cons, Nat.succ_mul]
    omega
theorem wf_sz {es : List Int} {a : Bd} (h : Wf es a) : a.sz + 1 ≤ 2 ^ es.length := by
  induction h with
  | lf => exact Nat.one_le_two_pow
  | @here x es w t _ _ _ iw it =>
    show w.sz + t.sz + 1 + 1 ≤ 2 ^ (es.length + 1)
    rw [Nat.pow_succ]
    omega
  | @skip x es a _ ih =>
    show _ ≤ 2 ^ (es.length + 1)
    rw [Nat.pow_succ]
    omega
def natsV (cs : List Nat) : List V := cs.map fun c => .int ((c : Nat) : Int)
theorem post_nds : ∀ (a : Bd) (acc : List Bd), (∀ b ∈ acc, ∃ e w t, b = Bd.nd e w t) → ∀ b ∈ post acc a, ∃ e w t, b = Bd.nd e w t
  | .lf _, _, h => h
  | .nd e w t, acc, h => by
    unfold post
    split
    · exact h
    · intro b hb
      rcases List.mem_append.mp hb with hb | hb
      · exact post_nds t _ (post_nds w acc h) b hb
      · rw [List.mem_singleton.mp hb]
        exact ⟨_, _, _, rfl⟩
theorem Rel2.get {N : Nds} : ∀ {cs : List Nat} {as : List Bd} {i : Nat} {c : Nat} {a : Bd}, Rel2 N cs as → cs[i]? = some c → as[i]? = some a → At N c a
  | [], _, _, _, _, _, h, _ => by simp at h
  | _ :: _, [], _, _, _, h, _, _ => h.elim
  | c :: cs, a :: as, 0, c', a', h, h1, h2 => by
    have e1 : c = c' := Option.some.inj h1
    have e2 : a = a' := Option.some.inj h2
    subst e1 e2
    exact h.1
  | c :: cs, a :: as, i + 1, c', a', h, h1, h2 => Rel2.get h.2 (by simpa using h1) (by simpa using h2)
/-- what listed leaves: the nodes and the numbers -/
def sp_listed (C : Addr) (K : PySem.W.Frag) : Sp := fun vs H Q _ => ∃ s N es L a cs as, vs = [.ref s.p, .ref a] ∧ Sto C K H s N es L ∧ SqL K H a (natsV cs) ∧ Rel2 N cs as ∧ cs.length ≤ 100 ∧ (∀ b ∈ as, b.sz ≤ 1000) ∧
  ∀ H' q nl nu xs ks, Same H H' → H' q = some (.tup [.ref nl, .ref nu]) → H nl = none → H' nl = some (.lst xs) → H' nu = some (.dK (nbs ks)) → Rel2 N ks (as.reverse.foldl post []) → DpAll K H' xs ((as.reverse.foldl post []).map (rowD (as.reverse.foldl post []))) → Q (.ref q) H'
def sp_table (C : Addr) (K : PySem.W.Frag) : Sp := fun vs H Q _ => ∃ s N es L c a, vs = [.ref s.p, .int ((c : Nat) : Int)] ∧ Sto C K H s N es L ∧ At N c a ∧ a.sz ≤ 1000 ∧
  ∀ H' q nl xs, Same H H' → H' q = some (.tup [.ref nl, .int ((nmb (post [] a) a : Nat) : Int)]) → H nl = none → H' nl = some (.lst xs) → DpAll K H' xs ((post [] a).map (rowD (post [] a))) → Q (.ref q) H'
section
variable {P : Program} {w : World} {K : PySem.W.Frag} {mg : Str → Option Value} {base : Heap}
theorem Rel2.rev {N : Nds} : ∀ {cs : List Nat} {as : List Bd}, Rel2 N cs as → Rel2 N cs.reverse as.reverse
  | [], [], h => h
  | [], _ :: _, h => h.elim
  | _ :: _, [], h => h.elim
  | c :: cs, a :: as, h => by
    rw [List.reverse_cons, List.reverse_cons]
    exact Rel2.app (Rel2.rev h.2) ⟨h.1, trivial⟩
/-- the state of listed's loop: a pile, top first; the numbers and nodes so far -/
def LiW (K : PySem.W.Frag) (H : Hp) (N : Nds) (s : SA) (a nl nu lf : Addr) (fin : List Bd) (m : Nat) (σ : L2.St) (Hi : Hp) : Prop :=
  ∃ ks acc sc sT xs z5 z6 z7 z8 z9 z10, m = itns acc sT ∧ itns acc sT ≤ 500000 ∧ σ = [some (.ref s.p), some (.ref a), some (.ref nl), some (.ref nu), some (.ref lf), z5, z6, z7, z8, z9, z10] ∧ Same H Hi ∧ Hi nl = some (.lst xs) ∧ DpAll K Hi xs (acc.map (rowD acc)) ∧ Hi nu = some (.dK (nbs ks)) ∧
    Hi lf = some (.lst (natsV sc.reverse)) ∧ Rel2 N ks acc ∧ Rel2 N sc sT ∧ Clo acc ∧ sT.foldl post acc = fin
theorem natsV_app (as bs : List Nat) : natsV (as ++ bs) = natsV as ++ natsV bs := by unfold natsV; rw [List.map_append]
theorem mk_nbs : mergeK ([] : List (Key × V)) [(.inl 0, .int 0), (.inl 1, .int 1)] = nbs [] := by rfl
set_option maxHeartbeats 4000000 in
theorem ok_listed {f C : Addr} {fd : FuncData} (F : Fun K "listed" "Diagrams.listed" s_Diagrams_listed f fd) (M : Mg mg) (G : DgC K C mg) (c_Diagrams_node_of : ClM P w K mg base 1 C "node_of" (sp_nof C K)) : FnOk P w K mg base CX0 2 f fd ["self", "conditions"] (sp_listed C K) := by
  refine F.ok sc_Diagrams_listed (fun vs H Q E h => ?_) (fun cdv A outer s H vs Q E hr h => ?_)
  · obtain ⟨s, N, es, L, a, cs, as, rfl, _⟩ := h
    rfl
  · obtain ⟨s, N, es, L, a, cs, as, rfl, st, ha, rel, hl, hsz, q⟩ := h
    have hnd := st.nd
    generalize hfin : as.reverse.foldl post [] = fin at q
    have lfin : fin.length ≤ 100000 := by
      have h1 := posts_len as.reverse [] 1000 fun b hb => hsz b (List.mem_reverse.mp hb)
      rw [hfin, List.length_reverse, ← rel.len] at h1
      have h2 : ([] : List Bd).length = 0 := rfl
      have h3 := Nat.mul_le_mul_right 1000 hl
      omega
    have sl : (1000000 : Nat) < sizeLine := by decide
    refine ⟨_, (pss_cons (ps_set (i := 2) sc_Diagrams_listed.nd rfl (.inl rfl) (pe_lst pa_nil))
      (pss_cons (ps_set (i := 3) sc_Diagrams_listed.nd rfl (.inr rfl) (pe_disp (pps_cons (C8.pe_gc (by rfl) G.NEVER) pe_int (pps_cons (C8.pe_gc (by rfl) G.ALWAYS) pe_int pps_nil)) (by rfl) (by rfl) (fun z => by cases z) (by decide)))
      (pss_cons (ps_set (i := 4) sc_Diagrams_listed.nd rfl (.inl rfl) (pe_callTy (listK K) (by rfl) M.list (by decide +kernel) (pa_cons (pv 1) pa_nil)))
      (pss_cons (ps_while PassesOwn.never (pt_truthK K (pv 4) (by intro _; rfl)) (pss_cons (ps_set (i := 5) sc_Diagrams_listed.nd rfl (.inl rfl) (pe_ix (ix_listK K) (pv 4) (pe_un un_neg pe_int) (fun _ _ => rfl)))
      (pss_cons (ps_if (pt_cmp (pc_din (hu_of hr) (pv 5) (pv 3))) (pss_cons (ps_expr (pe_bm0 PySem.F.plainAttrs_list PySem.F.slot_list_pop PySem.F.type_list_pop mt_pop (pv 4)))
      (pss_one ps_continue)) pss_nil)
      (pss_cons (ps_asg (pe_mt c_Diagrams_node_of hr (by first | decide | omega) (pv 0) (pa_cons (pv 5) pa_nil)) (pg_tup (by rfl) (pgs_cons (pg_name (i := 6) sc_Diagrams_listed.nd rfl (.inl rfl)) (pgs_cons (pg_name (i := 7) sc_Diagrams_listed.nd rfl (.inl rfl)) (pgs_cons (pg_name (i := 8) sc_Diagrams_listed.nd rfl (.inl rfl)) pgs_nil)))))
      (pss_cons (ps_setLc (i := 9) (own := [("part", 10)]) (g := gName 10) rfl sc_Diagrams_listed.nd rfl rfl (sw_true rfl rfl rfl (by decide +kernel)) (pi_tup (pe_tup (pa_cons (pv 8) (pa_cons (pv 7) pa_nil)))) (blkOk_by (N := N_Diagrams_listed) (sc := defScope s_Diagrams_listed) (by decide +kernel)) (fun _ _ _ _ _ => (pg_name (i := 10) sc_Diagrams_listed.nd rfl (.inl rfl))) (fun _ _ _ _ _ => (pts_one (pt_cmp (pc_dnotin (hu_of hr) (pv 10) (pv 3))))) (fun _ _ _ _ _ => (pv 10)))
      (pss_cons (ps_expr (pe_bmK K PySem.F.plainAttrs_list PySem.F.slot_list_extend PySem.F.type_list_extend mt_extend (pv 4) (pa_cons (pv 9) pa_nil)))
      (pss_one (ps_if (pt_not (pt_truthK K (pv 9) (by intro _; rfl))) (pss_cons (ps_dput (hu_of hr) (pv 3) (pv 5) (pe_callB call_lenD (by rfl) M.len PySem.boot_len (pa_cons (pv 3) pa_nil)) rfl)
      (pss_one (ps_expr (pe_bmK K PySem.F.plainAttrs_list PySem.F.slot_list_append PySem.F.type_list_append mt_append (pv 2) (pa_cons (pe_tup (pa_cons (pv 6) (pa_cons (pe_dget (hu_of hr) (pv 3) (pv 7) (fun _ _ => rfl)) (pa_cons (pe_dget (hu_of hr) (pv 3) (pv 8) (fun _ _ => rfl)) pa_nil)))) pa_nil))))) pss_nil))))))))
      (pss_one (ps_ret (pe_tup (pa_cons (pv 2) (pa_cons (pv 3) pa_nil))))))))), ?_⟩
    refine ⟨by show 0 ≤ sizeLine; decide, fun nl nnl => ?_⟩
    have s1 := same_upd nnl (o := .lst [])
    have e1 : (upd H nl (.lst [])) nl = some (.lst []) := upd_same
    generalize upd H nl (.lst []) = H1 at s1 e1
    intro nu nnu
    refine ⟨upd_same, [(.inl 0, .int 0), (.inl 1, .int 1)], rfl, by decide, ?_⟩
    rw [mk_nbs, upd_upd]
    have s2 := same_upd nnu (o := .dK (nbs []))
    have e2 : (upd H1 nu (.dK (nbs []))) nu = some (.dK (nbs [])) := upd_same
    generalize upd H1 nu (.dK (nbs [])) = H2 at s2 e2
    refine ⟨_, rfl, a, _, rfl, .inl ((s1.trans s2).seq ha), fun lf nlf => ?_⟩
    have s3 := same_upd nlf (o := .lst (natsV cs))
    have e3 : (upd H2 lf (.lst (natsV cs))) lf = some (.lst (natsV cs)) := upd_same
    have nlfl : lf ≠ nl := (ne_of_none (s2 _ _ e1) nlf).symm
    generalize upd H2 lf (.lst (natsV cs)) = H3 at s3 e3
    have nnu0 := s1.free nnu
    have nlf0 := (s1.trans s2).free nlf
    have fresh : ∀ {Hi : Hp} {p : Addr} {o : HO}, Same H Hi → H p = none → Same H (upd Hi p o) := fun sm np b o e => by
      rw [upd_ne (ne_of_none e np)]
      exact sm b o e
    refine ⟨LiW K H N s a nl nu lf fin, ⟨_, [], [], cs.reverse, as.reverse, [], none, none, none, none, none, none, rfl, ?_, rfl, (s1.trans s2).trans s3, (s2.trans s3) _ _ e1, .nil, s3 _ _ e2, by rw [List.reverse_reverse]; exact e3, trivial, rel.rev, (by intro _ _ _ h; cases h), hfin⟩, ?_⟩
    · have h1 := itns_le as.reverse [] 1000 fun b hb => hsz b (List.mem_reverse.mp hb)
      rw [List.length_reverse, ← rel.len] at h1
      have h3 := Nat.mul_le_mul_right (4 * 1000 + 1) hl
      omega
    rintro m σ Hi ⟨ks, acc, sc, sT, xs, z5, z6, z7, z8, z9, z10, rfl, hm, rfl, si, enl, dxs, enu, elf, rk, rs, hclo, hf⟩
    have nnlu : nl ≠ nu := ne_of enl enu (fun z => nomatch z)
    have nlfu : lf ≠ nu := ne_of elf enu (fun z => nomatch z)
    have lacc : acc.length ≤ 100000 := by
      have := (foldl_pre sT acc).length_le
      rw [hf] at this
      omega
    have lks : ks.length ≤ 100000 := by rw [rk.len]; exact lacc
    have lxs : xs.length = acc.length := by rw [DpAll.len dxs, List.length_map]
    refine ⟨_, rfl, _, .inl ⟨_, .of elf, rfl⟩, ?_⟩
    cases sc with
    | nil =>
      cases sT with
      | cons b sT => exact rs.elim
      | nil =>
        refine iteF ?_
        have hf : acc = fin := hf
        refine ⟨_, rfl, _, rfl, by show 2 ≤ sizeLine; decide, fun q' nq' => ?_⟩
        subst hf
        exact q _ q' nl nu xs ks (si.trans (same_upd nq')) upd_same nnl (same_upd nq' _ _ enl) (same_upd nq' _ _ enu) rk (DpAll.ext (same_upd nq') _ _ dxs)
    | cons c sc =>
      cases sT with
      | nil => exact rs.elim
      | cons b sT =>
        rw [List.reverse_cons, natsV_app] at elf ⊢
        have hne : (natsV sc.reverse ++ natsV [c]).isEmpty = false := by
          cases natsV sc.reverse <;> rfl
        rw [hne]
        refine iteT ⟨fun σ' H' => ∃ m', m' < itns acc (b :: sT) ∧ LiW K H N s a nl nu lf fin m' σ' H', fun _ _ h => h, ?_⟩
        have hb := rs.1
        have sti := st.ext si
        refine ⟨_, rfl, _, rfl, lf, _, _, .int ((c : Nat) : Int), rfl, rfl, .of elf, atI_last _ _, ?_⟩
        refine ⟨_, rfl, _, rfl, nu, _, rfl, DGet.k (k := .inl (c : Int)) enu, _, rfl, ?_⟩
        rw [nbs_val hnd hb rk]
        by_cases hk : knw acc b = true
        · -- known: it goes off the pile
          rw [if_pos hk]
          refine iteT ⟨_, rfl, .inl ⟨rfl, _, .inl (.inl elf)⟩, lf, _, .int ((c : Nat) : Int), rfl, rfl, elf, ?_, ?_⟩
          · rw [List.length_append]
            show (natsV sc.reverse ++ [V.int ((c : Nat) : Int)])[(natsV sc.reverse).length + 1 - 1]? = _
            rw [Nat.add_sub_cancel, List.getElem?_append_right (Nat.le_refl _), Nat.sub_self]
            rfl
          · have ed : (natsV sc.reverse ++ natsV [c]).dropLast = natsV sc.reverse := by
              show (natsV sc.reverse ++ [V.int ((c : Nat) : Int)]).dropLast = _
              rw [List.dropLast_concat]
            rw [ed]
            have ei := itn_knw hk
            have ep := post_knw hk
            refine ⟨itns acc sT, ?_, ks, acc, sc, sT, xs, _, _, _, _, _, _, rfl, ?_, rfl, fresh si nlf0, by rw [upd_ne nlfl.symm]; exact enl, DpAll.away elf _ _ (rows_only acc acc) dxs, by rw [upd_ne nlfu.symm]; exact enu, upd_same, rk, rs.2, hclo, ?_⟩
            · show _ < itn acc b + itns (post acc b) sT
              rw [ei, ep]
              omega
            · have : itns acc (b :: sT) = itn acc b + itns (post acc b) sT := rfl
              rw [this, ep] at hm
              omega
            · rw [List.foldl_cons, ep] at hf
              exact hf
        · rw [if_neg hk]
          refine iteF ?_
          have h2 : 2 ≤ c := by
            cases hb with
            | f => exact absurd rfl hk
            | t => exact absurd rfl hk
            | nd _ _ _ => omega
          obtain ⟨e1, w1, t1, A1, B1, hn, hw1, ht1, rfl⟩ := hb.ge h2
          have hnm : Bd.nd e1 A1 B1 ∉ acc := fun z => hk (knw_nd.mpr z)
          refine ⟨_, rfl, sti.go (by decide +kernel) (by decide +kernel) (by decide +kernel) ⟨_, rfl, ?_⟩⟩
          refine ⟨s, N, es, L, c, _, rfl, sti, h2, hn, fun qa hq => ?_⟩
          refine ⟨qa, _, rfl, hq, rfl, _, _, rfl, _, _, rfl, _, _, rfl, rfl, ?_⟩
          -- those that wait
          refine ⟨_, rfl, _, rfl, by show 2 ≤ sizeLine; decide, fun tp ntp => ?_⟩
          have s4 := same_upd ntp (o := .tup [.int ((t1 : Nat) : Int), .int ((w1 : Nat) : Int)])
          have e4 : (upd Hi tp (.tup [.int ((t1 : Nat) : Int), .int ((w1 : Nat) : Int)])) tp = some (.tup (([(t1, B1), (w1, A1)] : List (Nat × Bd)).map fun p => .int ((p.1 : Nat) : Int))) := upd_same
          generalize upd Hi tp (.tup [.int ((t1 : Nat) : Int), .int ((w1 : Nat) : Int)]) = H4 at s4 e4
          refine ⟨tp, rfl, ⟨_, .of e4⟩, fun D nD => ?_⟩
          refine lc_tup (K := K) (a := tp) (xs := ([(t1, B1), (w1, A1)] : List (Nat × Bd)).map fun p => .int ((p.1 : Nat) : Int)) (fun i Hj => Same H4 Hj ∧ Hj D = some (.lst (natsV (((([(t1, B1), (w1, A1)] : List (Nat × Bd)).take i).filter fun p => !knw acc p.2).map (·.1))))) ⟨same_upd nD, upd_same⟩ (fun i Hj _ hp => .of (hp.1 _ _ e4)) (fun i x Hj hx hp => ?_) (fun Hm hp => ?_)
          · obtain ⟨sj, eD⟩ := hp
            rw [List.getElem?_map] at hx
            obtain ⟨p, hpv, rfl⟩ := Option.map_eq_some_iff.mp hx
            have hp2 : At N p.1 p.2 := by
              have := List.mem_of_getElem? hpv
              simp only [List.mem_cons, List.not_mem_nil, or_false] at this
              rcases this with rfl | rfl
              · exact ht1
              · exact hw1
            refine ⟨rfl, ?_⟩
            refine ⟨_, rfl, _, rfl, nu, _, rfl, DGet.k (k := .inl (p.1 : Int)) ((s4.trans sj) _ _ enu), _, rfl, ?_⟩
            rw [nbs_val hnd hp2 rk]
            have etk : (([(t1, B1), (w1, A1)] : List (Nat × Bd)).take (i + 1)).filter (fun p => !knw acc p.2) = (([(t1, B1), (w1, A1)] : List (Nat × Bd)).take i).filter (fun p => !knw acc p.2) ++ (if knw acc p.2 = true then [] else [p]) := by
              rw [List.take_add_one, hpv, List.filter_append]
              congr 1
              show List.filter _ [p] = _
              rw [List.filter_cons]
              cases knw acc p.2 <;> rfl
            by_cases hkp : knw acc p.2 = true
            · rw [if_pos hkp] at etk ⊢
              rw [List.append_nil] at etk
              refine iteF ⟨sj, ?_⟩
              rw [etk]
              exact eD
            · rw [if_neg hkp] at etk ⊢
              refine iteT ⟨_, rfl, _, eD, ?_, fun z o hz => ?_, ?_⟩
              · unfold natsV
                rw [List.length_map, List.length_map]
                have h1 := List.length_filter_le (fun p : Nat × Bd => !knw acc p.2) (([(t1, B1), (w1, A1)] : List (Nat × Bd)).take i)
                have h2 : (([(t1, B1), (w1, A1)] : List (Nat × Bd)).take i).length ≤ 2 := by
                  rw [List.length_take]
                  exact Nat.min_le_right _ _
                omega
              · rw [upd_ne (ne_of_none hz nD)]
                exact sj _ _ hz
              · rw [upd_same, etk, List.map_append, natsV_app]
                rfl
          · obtain ⟨sm, eD⟩ := hp
            have s4m := s4.trans sm
            have efl : (((([(t1, B1), (w1, A1)] : List (Nat × Bd)).take ((([(t1, B1), (w1, A1)] : List (Nat × Bd)).map fun p => (V.int ((p.1 : Nat) : Int))).length)).filter fun p => !knw acc p.2).map (·.1)) = ((if knw acc A1 = true then [] else [w1]) ++ (if knw acc B1 = true then [] else [t1])).reverse := by
              show (List.filter (fun p : Nat × Bd => !knw acc p.2) [(t1, B1), (w1, A1)]).map (·.1) = _
              rw [List.filter_cons, List.filter_cons]
              cases knw acc A1 <;> cases knw acc B1 <;> rfl
            rw [efl] at eD
            have rw2 : Rel2 N ((if knw acc A1 = true then [] else [w1]) ++ (if knw acc B1 = true then [] else [t1])) (wts acc A1 B1) := by
              unfold wts
              refine Rel2.app ?_ ?_
              · cases knw acc A1
                · exact ⟨hw1, trivial⟩
                · exact trivial
              · cases knw acc B1
                · exact ⟨ht1, trivial⟩
                · exact trivial
            have lwt : ((if knw acc A1 = true then [] else [w1]) ++ (if knw acc B1 = true then [] else [t1])).length ≤ 2 := by
              cases knw acc A1 <;> cases knw acc B1 <;> simp
            generalize ((if knw acc A1 = true then [] else [w1]) ++ (if knw acc B1 = true then [] else [t1])) = wt at eD rw2 lwt
            have elf4 := s4m _ _ elf
            have enl4 := s4m _ _ enl
            have enu4 := s4m _ _ enu
            have dx4 := DpAll.ext s4m _ _ dxs
            have nDlf : D ≠ lf := (ne_of_none (s4 _ _ elf) nD).symm
            have nDnl : D ≠ nl := (ne_of_none (s4 _ _ enl) nD).symm
            have lsc := itns_len (Bd.nd e1 A1 B1 :: sT) acc
            have lsc2 : sc.length = sT.length := rs.2.len
            refine ⟨_, rfl, .inl ⟨rfl, _, .inl (.inl elf4)⟩, _, rfl, lf, D, _, _, rfl, rfl, elf4, eD, ?_, ?_⟩
            · unfold natsV
              rw [List.length_append, List.length_map, List.length_map, List.length_map, List.length_reverse, List.length_reverse]
              rw [List.length_cons] at lsc
              show sc.length + 1 + wt.length ≤ _
              omega
            have elf5 : (upd Hm lf (.lst (natsV sc.reverse ++ natsV [c] ++ natsV wt.reverse))) lf = some (.lst (natsV (wt ++ c :: sc).reverse)) := by
              rw [upd_same, List.reverse_append, List.reverse_cons, natsV_app, natsV_app]
            have enl5 : (upd Hm lf (.lst (natsV sc.reverse ++ natsV [c] ++ natsV wt.reverse))) nl = some (.lst xs) := by rw [upd_ne nlfl.symm]; exact enl4
            have enu5 : (upd Hm lf (.lst (natsV sc.reverse ++ natsV [c] ++ natsV wt.reverse))) nu = some (.dK (nbs ks)) := by rw [upd_ne nlfu.symm]; exact enu4
            have eD5 : (upd Hm lf (.lst (natsV sc.reverse ++ natsV [c] ++ natsV wt.reverse))) D = some (.lst (natsV wt.reverse)) := by rw [upd_ne nDlf]; exact eD
            have dx5 : DpAll K (upd Hm lf (.lst (natsV sc.reverse ++ natsV [c] ++ natsV wt.reverse))) xs (acc.map (rowD acc)) := DpAll.away elf4 _ _ (rows_only acc acc) dx4
            have s5 : Same H (upd Hm lf (.lst (natsV sc.reverse ++ natsV [c] ++ natsV wt.reverse))) := fresh (si.trans s4m) nlf0
            generalize upd Hm lf (.lst (natsV sc.reverse ++ natsV [c] ++ natsV wt.reverse)) = H5 at elf5 enl5 enu5 eD5 dx5 s5
            refine ⟨_, rfl, _, .inl ⟨_, .of eD5, rfl⟩, ?_⟩
            by_cases hwn : wts acc A1 B1 = []
            · -- both sides known
              have hwt : wt = [] := by
                rw [hwn] at rw2
                cases wt with
                | nil => rfl
                | cons _ _ => exact rw2.elim
              subst hwt
              obtain ⟨k1, k2⟩ := wts_nil.mp hwn
              show if (!!true) = true then _ else _
              refine iteT ?_
              refine ⟨_, rfl, nu, _, rfl, enu5, _, rfl, _, rfl, nu, _, rfl, DPut.k (k := .inl (c : Int)) enu5 (by rw [nbs_len]; omega), ?_⟩
              have hnone : valV (nbs ks) (.inl (c : Int)) = none := by
                rw [nbs_val hnd hb rk, if_neg hk]
              rw [putK_new _ hnone, nbs_len, ← nbs_snoc]
              have enl6 : (upd H5 nu (.dK (nbs (ks ++ [c])))) nl = some (.lst xs) := by rw [upd_ne nnlu]; exact enl5
              have elf6 : (upd H5 nu (.dK (nbs (ks ++ [c])))) lf = some (.lst (natsV (c :: sc).reverse)) := by rw [upd_ne nlfu]; exact elf5
              have enu6 : (upd H5 nu (.dK (nbs (ks ++ [c])))) nu = some (.dK (nbs (ks ++ [c]))) := upd_same
              have dx6 : DpAll K (upd H5 nu (.dK (nbs (ks ++ [c])))) xs (acc.map (rowD acc)) := DpAll.tsn (fun b o ho hb => by
                rw [upd_ne]
                · exact hb
                · rintro rfl
                  rw [enu5] at hb
                  rcases ho with ⟨ys, rfl⟩ | ⟨q, u, rfl⟩ <;> cases hb) _ _ (rows_only acc acc) dx5
              have s6 : Same H (upd H5 nu (.dK (nbs (ks ++ [c])))) := fresh s5 nnu0
              generalize upd H5 nu (.dK (nbs (ks ++ [c]))) = H6 at enl6 elf6 enu6 dx6 s6
              have rk6 : Rel2 N (ks ++ [c]) (acc ++ [Bd.nd e1 A1 B1]) := rk.app ⟨hb, trivial⟩
              have pre := List.prefix_append acc [Bd.nd e1 A1 B1]
              have getv : ∀ (x : Nat) (X : Bd), At N x X → knw acc X = true → DGet H6 nu (.int ((x : Nat) : Int)) (some (.int ((nmb (acc ++ [Bd.nd e1 A1 B1]) X : Nat) : Int))) := fun x X hX kX => by
                have := DGet.k (k := .inl (x : Int)) enu6
                rw [nbs_val hnd hX rk6, if_pos (knw_pre pre kX)] at this
                exact this
              refine ⟨_, rfl, .inl ⟨rfl, _, .inl (.inl enl6)⟩, ?_⟩
              refine ⟨_, rfl, _, rfl, _, rfl, nu, _, rfl, getv w1 A1 hw1 k1, _, rfl, _, rfl, nu, _, rfl, getv t1 B1 ht1 k2, by show 3 ≤ sizeLine; decide, fun tq ntq => ?_⟩
              have s7 := same_upd ntq (o := .tup [.int e1, .int ((nmb (acc ++ [Bd.nd e1 A1 B1]) A1 : Nat) : Int), .int ((nmb (acc ++ [Bd.nd e1 A1 B1]) B1 : Nat) : Int)])
              have d7 : Dp K (upd H6 tq (.tup [.int e1, .int ((nmb (acc ++ [Bd.nd e1 A1 B1]) A1 : Nat) : Int), .int ((nmb (acc ++ [Bd.nd e1 A1 B1]) B1 : Nat) : Int)])) (.ref tq) (rowD (acc ++ [Bd.nd e1 A1 B1]) (Bd.nd e1 A1 B1)) := .tup (.of upd_same) (.cons (.int _) (.cons (.int _) (.cons (.int _) .nil)))
              generalize upd H6 tq (.tup [.int e1, .int ((nmb (acc ++ [Bd.nd e1 A1 B1]) A1 : Nat) : Int), .int ((nmb (acc ++ [Bd.nd e1 A1 B1]) B1 : Nat) : Int)]) = H7 at s7 d7
              have enl7 := s7 _ _ enl6
              refine ⟨nl, _, _, rfl, rfl, enl7, by omega, ?_⟩
              obtain ⟨j1, j2⟩ := itns_num (as := sT) hnm k1 k2
              refine ⟨itns (acc ++ [Bd.nd e1 A1 B1]) (Bd.nd e1 A1 B1 :: sT), by omega, ks ++ [c], acc ++ [Bd.nd e1 A1 B1], c :: sc, Bd.nd e1 A1 B1 :: sT, xs ++ [.ref tq], _, _, _, _, _, _, rfl, by omega, rfl, fresh (s6.trans s7) nnl, upd_same, ?_, by rw [upd_ne nnlu.symm]; exact s7 _ _ enu6, by rw [upd_ne nlfl]; exact s7 _ _ elf6, rk6, rs, ?_, ?_⟩
              · rw [rows_snoc hclo]
                exact DpAll.snoc (DpAll.away enl7 _ _ (rows_only acc acc) (DpAll.ext s7 _ _ dx6)) (Dp.away enl7 _ _ rfl d7)
              · have := post_clo (Bd.nd e1 A1 B1) acc hclo
                rw [post_nd hnm, post_knw k1, post_knw k2] at this
                exact this
              · rw [j2]
                exact hf
            · -- some wait
              have hwt : wt.reverse ≠ [] := fun z => by
                rw [List.reverse_eq_nil_iff] at z
                subst z
                have := rw2.len
                exact hwn (List.eq_nil_of_length_eq_zero this.symm)
              have hne2 : (natsV wt.reverse).isEmpty = false := by
                cases h : wt.reverse with
                | nil => exact absurd h hwt
                | cons _ _ => rfl
              rw [hne2]
              show if (!!false) = true then _ else _
              refine iteF ?_
              obtain ⟨j1, j2⟩ := itns_push (as := sT) hnm hwn
              exact ⟨itns acc (wts acc A1 B1 ++ Bd.nd e1 A1 B1 :: sT), by omega, ks, acc, wt ++ c :: sc, wts acc A1 B1 ++ Bd.nd e1 A1 B1 :: sT, xs, _, _, _, _, _, _, rfl, by omega, rfl, s5, enl5, dx5, enu5, elf5, rk, rw2.app rs, hclo, by rw [j2]; exact hf⟩
theorem ok_table {f C : Addr} {fd : FuncData} (F : Fun K "table" "Diagrams.table" s_Diagrams_table f fd) (M : Mg mg) (G : DgC K C mg) (c_Diagrams_listed : ClM P w K mg base 2 C "listed" (sp_listed C K)) : FnOk P w K mg base CX0 3 f fd ["self", "condition"] (sp_table C K) := by
  refine F.ok sc_Diagrams_table (fun vs H Q E h => ?_) (fun cdv A outer s H vs Q E hr h => ?_)
  · obtain ⟨s, N, es, L, c, a, rfl, _⟩ := h
    rfl
  · obtain ⟨s, N, es, L, c, a, rfl, st, hA, hsz, q⟩ := h
    refine ⟨_, (pss_cons (ps_asg (pe_mt c_Diagrams_listed hr (by first | decide | omega) (pv 0) (pa_cons (pe_lst (pa_cons (pv 1) pa_nil)) pa_nil)) (pg_tup (by rfl) (pgs_cons (pg_name (i := 2) sc_Diagrams_table.nd rfl (.inl rfl)) (pgs_cons (pg_name (i := 3) sc_Diagrams_table.nd rfl (.inl rfl)) pgs_nil))))
      (pss_one (ps_ret (pe_tup (pa_cons (pv 2) (pa_cons (pe_dget (hu_of hr) (pv 3) (pv 1) (fun _ _ => rfl)) pa_nil)))))), ?_⟩
    refine ⟨_, rfl, st.go (by decide +kernel) (by decide +kernel) (by decide +kernel) ⟨_, rfl, by show 1 ≤ sizeLine; decide, fun p np => ?_⟩⟩
    have s1 := same_upd np (o := .lst [.int ((c : Nat) : Int)])
    have e1 : (upd H p (.lst [.int ((c : Nat) : Int)])) p = some (.lst (natsV [c])) := upd_same
    generalize upd H p (.lst [.int ((c : Nat) : Int)]) = H1 at s1 e1
    refine ⟨s, N, es, L, p, [c], [a], rfl, st.ext s1, .of e1, ⟨hA, trivial⟩, by show 1 ≤ 100; decide, fun b hb => by rw [List.mem_singleton.mp hb]; exact hsz, fun H2 q2 nl nu xs ks s2 e2 nnl enl enu rk dx => ?_⟩
    have rk : Rel2 N ks (post [] a) := rk
    have dx : DpAll K H2 xs ((post [] a).map (rowD (post [] a))) := dx
    refine ⟨q2, _, rfl, .of e2, rfl, _, _, rfl, _, _, rfl, rfl, ?_⟩
    have hv : DGet H2 nu (.int ((c : Nat) : Int)) (some (.int ((nmb (post [] a) a : Nat) : Int))) := by
      have := DGet.k (k := .inl (c : Int)) enu
      rw [nbs_val st.nd hA rk, if_pos (post_self a [])] at this
      exact this
    refine ⟨_, rfl, _, rfl, _, rfl, nu, _, rfl, hv, by show 2 ≤ sizeLine; decide, fun q3 nq3 => ?_⟩
    exact q _ q3 nl xs ((s1.trans s2).trans (same_upd nq3)) upd_same (s1.free nnl) (same_upd nq3 _ _ enl) (DpAll.ext (same_upd nq3) _ _ dx)
end

/-- where a node's question stands, and what comes ahead of it does not matter -/
theorem wf_nd {es : List Int} {x : Int} {w t : Bd} (h : Wf es (.nd x w t)) : ∃ pre post, es = pre ++ x :: post ∧ Wf post w ∧ Wf post t ∧ w ≠ t := by
  generalize e : Bd.nd x w t = a at h
  induction h with
  | lf => cases e
  | @here y es w' t' hw ht hn _ _ =>
    cases e
    exact ⟨[], _, rfl, hw, ht, hn⟩
  | @skip y es a _ ih =>
    obtain ⟨pre, po, rfl, h1, h2, h3⟩ := ih e
    exact ⟨y :: pre, po, rfl, h1, h2, h3⟩
theorem wf_kids {es : List Int} {x : Int} {w t : Bd} (h : Wf es (.nd x w t)) : Wf es w ∧ Wf es t := by
  obtain ⟨pre, po, rfl, h1, h2, _⟩ := wf_nd h
  exact ⟨(Wf.skip h1).skips pre, (Wf.skip h2).skips pre⟩
/-- all nodes of a diagram -/
def subN : Bd → List Bd
  | .lf _ => []
  | .nd e w t => .nd e w t :: (subN w ++ subN t)
theorem clo_sub {acc : List Bd} (h : Clo acc) : ∀ {a : Bd}, knw acc a = true → ∀ x ∈ subN a, x ∈ acc
  | .lf _, _, x, hx => by cases hx
  | .nd e w t, hk, x, hx => by
    have hm := knw_nd.mp hk
    obtain ⟨k1, k2⟩ := h e w t hm
    rcases List.mem_cons.mp hx with rfl | hx
    · exact hm
    · rcases List.mem_append.mp hx with hx | hx
      · exact clo_sub h k1 x hx
      · exact clo_sub h k2 x hx
theorem post_iff : ∀ {a : Bd} {acc : List Bd}, Clo acc → ∀ x, x ∈ post acc a ↔ x ∈ acc ∨ x ∈ subN a
  | .lf _, acc, _, x => by
    show x ∈ acc ↔ _
    exact ⟨.inl, fun h => h.elim id (fun z => by cases z)⟩
  | .nd e w t, acc, hc, x => by
    by_cases hm : Bd.nd e w t ∈ acc
    · rw [post_knw (knw_nd.mpr hm)]
      exact ⟨.inl, fun h => h.elim id (clo_sub hc (knw_nd.mpr hm) x)⟩
    · rw [post_nd hm, List.mem_append, List.mem_singleton, post_iff (post_clo w acc hc), post_iff hc]
      constructor
      · rintro (((h | h) | h) | h)
        · exact .inl h
        · exact .inr (List.mem_cons_of_mem _ (List.mem_append_left _ h))
        · exact .inr (List.mem_cons_of_mem _ (List.mem_append_right _ h))
        · subst h; exact .inr List.mem_cons_self
      · rintro (h | h)
        · exact .inl (.inl (.inl h))
        · rcases List.mem_cons.mp h with h | h
          · exact .inr h
          · rcases List.mem_append.mp h with h | h
            · exact .inl (.inl (.inr h))
            · exact .inl (.inr h)
theorem posts_iff : ∀ {as acc : List Bd}, Clo acc → ∀ x, x ∈ as.foldl post acc ↔ x ∈ acc ∨ ∃ a ∈ as, x ∈ subN a
  | [], acc, _, x => ⟨.inl, fun h => h.elim id (fun ⟨a, h, _⟩ => by cases h)⟩
  | a :: as, acc, hc, x => by
    rw [List.foldl_cons, posts_iff (post_clo a acc hc), post_iff hc]
    constructor
    · rintro ((h | h) | ⟨b, hb, h⟩)
      · exact .inl h
      · exact .inr ⟨a, List.mem_cons_self, h⟩
      · exact .inr ⟨b, List.mem_cons_of_mem _ hb, h⟩
    · rintro (h | ⟨b, hb, h⟩)
      · exact .inl (.inl h)
      · rcases List.mem_cons.mp hb with rfl | hb
        · exact .inl (.inr h)
        · exact .inr ⟨b, hb, h⟩
theorem posts_nodup : ∀ (as acc : List Bd), acc.Nodup → (as.foldl post acc).Nodup
  | [], _, h => h
  | a :: as, acc, h => posts_nodup as _ (post_nodup a acc h)
theorem same_len {xs ys : List Bd} (h1 : xs.Nodup) (h2 : ys.Nodup) (h : ∀ x, x ∈ xs ↔ x ∈ ys) : xs.length = ys.length := ((List.perm_ext_iff_of_nodup h1 h2).mpr h).length_eq
theorem post_wf {es : List Int} : ∀ (a : Bd) (acc : List Bd), Wf es a → (∀ b ∈ acc, Wf es b) → ∀ b ∈ post acc a, Wf es b
  | .lf _, _, _, h => h
  | .nd e w t, acc, hw, h => by
    obtain ⟨w1, w2⟩ := wf_kids hw
    unfold post
    split
    · exact h
    · intro b hb
      rcases List.mem_append.mp hb with hb | hb
      · exact post_wf t _ w2 (post_wf w acc w1 h) b hb
      · rw [List.mem_singleton.mp hb]
        exact hw
def Ordd (acc : List Bd) : Prop := ∀ (i : Nat) e w t, acc[i]? = some (Bd.nd e w t) → knw (acc.take i) w = true ∧ knw (acc.take i) t = true
theorem post_ord : ∀ (a : Bd) (acc : List Bd), Ordd acc → Ordd (post acc a)
  | .lf _, _, h => h
  | .nd e w t, acc, h => by
    unfold post
    split
    · exact h
    · have h2 := post_ord t _ (post_ord w acc h)
      intro i e' w' t' hi
      by_cases hl : i < (post (post acc w) t).length
      · rw [List.getElem?_append_left hl] at hi
        rw [List.take_append_of_le_length (Nat.le_of_lt hl)]
        exact h2 i e' w' t' hi
      · rw [List.getElem?_append_right (by omega)] at hi
        have hk : i = (post (post acc w) t).length := by
          cases hh : i - (post (post acc w) t).length with
          | zero => omega
          | succ j => rw [hh] at hi; simp at hi
        subst hk
        rw [Nat.sub_self] at hi
        cases hi
        rw [List.take_append_of_le_length (Nat.le_refl _), List.take_of_length_le (Nat.le_refl _)]
        exact ⟨knw_pre (post_pre t _) (post_self w acc), post_self t _⟩

theorem kw_get {bs : List Bd} {a : Bd} (hk : knw bs a = true) : (Bd.lf false :: Bd.lf true :: bs)[nmb bs a]? = some a := by
  cases a with
  | lf v => cases v <;> rfl
  | nd e w t =>
    have hm := knw_nd.mp hk
    have hj := List.idxOf_lt_length_of_mem hm
    show bs[bs.idxOf (.nd e w t)]? = _
    rw [List.getElem?_eq_getElem hj, List.getElem_idxOf hj]

/-! ### sets as masks -/
def sbm (a b : Nat) : Prop := ∀ i, a.testBit i = true → b.testBit i = true
theorem sbm_and {a b : Nat} : (a &&& b = a) ↔ sbm a b := by
  constructor
  · intro h i hi
    rw [← h, Nat.testBit_and, Bool.and_eq_true] at hi
    exact hi.2
  · intro h
    refine Nat.eq_of_testBit_eq fun i => ?_
    rw [Nat.testBit_and]
    cases ha : a.testBit i with
    | false => rfl
    | true => rw [h i ha]; rfl
theorem sbm_refl (a : Nat) : sbm a a := fun _ h => h
theorem sbm_trans {a b c : Nat} (h : sbm a b) (k : sbm b c) : sbm a c := fun i hi => k i (h i hi)
theorem sbm_anti {a b : Nat} (h : sbm a b) (k : sbm b a) : a = b := Nat.eq_of_testBit_eq fun i => by
  cases ha : a.testBit i with
  | true => rw [h i ha]
  | false =>
    cases hb : b.testBit i with
    | false => rfl
    | true => rw [k i hb] at ha; cases ha
theorem sbm_le {a b : Nat} (h : sbm a b) : a ≤ b := by
  rw [← sbm_and.mpr h]
  exact Nat.and_le_right
theorem sbm_or {a b c : Nat} (h : sbm a c) (k : sbm b c) : sbm (a ||| b) c := fun i hi => by
  rw [Nat.testBit_or, Bool.or_eq_true] at hi
  exact hi.elim (h i) (k i)
theorem sbm_l (a b : Nat) : sbm a (a ||| b) := fun i hi => by rw [Nat.testBit_or, hi]; rfl
theorem sbm_r (a b : Nat) : sbm b (a ||| b) := fun i hi => by rw [Nat.testBit_or, hi, Bool.or_true]
def clr (m i : Nat) : Nat := m ^^^ (m &&& 2 ^ i)
theorem clr_bit (m i j : Nat) : (clr m i).testBit j = (m.testBit j && !decide (i = j)) := by
  unfold clr
  rw [Nat.testBit_xor, Nat.testBit_and, Nat.testBit_two_pow]
  cases m.testBit j <;> cases decide (i = j) <;> rfl
theorem clr_sub (m i : Nat) : sbm (clr m i) m := fun j hj => by
  rw [clr_bit, Bool.and_eq_true] at hj
  exact hj.1
theorem clr_id {m i : Nat} (h : m.testBit i = false) : clr m i = m := Nat.eq_of_testBit_eq fun j => by
  rw [clr_bit]
  by_cases e : i = j
  · subst e
    rw [h]
    rfl
  · rw [decide_eq_false e]
    cases m.testBit j <;> rfl
theorem clr_off (m i : Nat) : (clr m i).testBit i = false := by
  rw [clr_bit, decide_eq_true rfl]
  cases m.testBit i <;> rfl
theorem pow_or_bit (i a j : Nat) : (2 ^ i ||| a).testBit j = (decide (i = j) || a.testBit j) := by rw [Nat.testBit_or, Nat.testBit_two_pow]
theorem pow_or_clr {m i : Nat} (h : m.testBit i = true) : 2 ^ i ||| clr m i = m := Nat.eq_of_testBit_eq fun j => by
  rw [pow_or_bit, clr_bit]
  by_cases e : i = j
  · subst e
    rw [decide_eq_true rfl, h]
    rfl
  · rw [decide_eq_false e]
    cases m.testBit j <;> rfl
theorem clr_pow_or {a i : Nat} (h : a.testBit i = false) : clr (2 ^ i ||| a) i = a := Nat.eq_of_testBit_eq fun j => by
  rw [clr_bit, pow_or_bit]
  by_cases e : i = j
  · subst e
    rw [decide_eq_true rfl, h]
    rfl
  · rw [decide_eq_false e]
    cases a.testBit j <;> rfl
theorem no_bit {a b i : Nat} (h : sbm a b) (k : b.testBit i = false) : a.testBit i = false := by
  cases e : a.testBit i with
  | false => rfl
  | true => rw [h i e] at k; cases k
/-- a least set for which F holds -/
def Mn (F : Nat → Prop) (m : Nat) : Prop := F m ∧ ∀ m', sbm m' m → F m' → m' = m
theorem mn_below (F : Nat → Prop) : ∀ m, F m → ∃ m', sbm m' m ∧ Mn F m' := by
  intro m
  induction m using Nat.strongRecOn with
  | ind m ih =>
    intro h
    by_cases hx : ∃ m', sbm m' m ∧ F m' ∧ m' ≠ m
    · obtain ⟨m', h1, h2, h3⟩ := hx
      obtain ⟨m2, h4, h5⟩ := ih m' (Nat.lt_of_le_of_ne (sbm_le h1) h3) h2
      exact ⟨m2, sbm_trans h4 h1, h5⟩
    · refine ⟨m, sbm_refl m, h, fun m' h1 h2 => ?_⟩
      by_cases e : m' = m
      · exact e
      · exact absurd ⟨m', h1, h2, e⟩ hx
def hasP (m : Nat) (os : List Nat) : Bool := os.any fun o => o &&& m == o
theorem hasP_iff {m : Nat} {os : List Nat} : hasP m os = true ↔ ∃ o ∈ os, sbm o m := by
  unfold hasP
  rw [List.any_eq_true]
  constructor
  · rintro ⟨o, h1, h2⟩
    exact ⟨o, h1, sbm_and.mp (eq_of_beq h2)⟩
  · rintro ⟨o, h1, h2⟩
    exact ⟨o, h1, beq_iff_eq.mpr (sbm_and.mpr h2)⟩
/-- those that have no part ahead of them -/
def minM (s : List Nat) : List Nat := s.foldl (fun l m => if hasP m l = true then l else l ++ [m]) []
theorem minM_snoc (s : List Nat) (m : Nat) : minM (s ++ [m]) = if hasP m (minM s) = true then minM s else minM s ++ [m] := by
  unfold minM
  rw [List.foldl_append]
  rfl
theorem snoc_ind {α : Type} {P : List α → Prop} (h0 : P []) (hs : ∀ l a, P l → P (l ++ [a])) : ∀ l, P l := by
  have : ∀ n (l : List α), l.length = n → P l := by
    intro n
    induction n with
    | zero => intro l hl; rw [List.eq_nil_of_length_eq_zero hl]; exact h0
    | succ n ih =>
      intro l hl
      have hne : l ≠ [] := by intro z; rw [z] at hl; cases hl
      rw [← List.dropLast_concat_getLast hne]
      exact hs _ _ (ih _ (by rw [List.length_dropLast, hl]; rfl))
  exact fun l => this _ l rfl
theorem minM_ok : ∀ s : List Nat, s.Pairwise (· < ·) → (∀ x, x ∈ minM s ↔ x ∈ s ∧ ∀ y ∈ s, sbm y x → y = x) ∧ (∀ y ∈ s, ∃ z ∈ minM s, sbm z y) ∧ (minM s).Nodup := by
  refine snoc_ind ?_ ?_
  · intro _
    refine ⟨fun x => ⟨fun h => (by cases h), fun h => absurd h.1 (by simp)⟩,  (fun y h => by cases h), List.Pairwise.nil⟩
  · intro s m ih hs
    rw [List.pairwise_append] at hs
    obtain ⟨h1, _, h3⟩ := hs
    have hlt : ∀ x ∈ s, x < m := fun x hx => h3 x hx m (List.mem_singleton.mpr rfl)
    obtain ⟨g1, g2, g3⟩ := ih h1
    have sub : ∀ x, x ∈ minM s → x ∈ s := fun x hx => ((g1 x).mp hx).1
    have keep : ∀ x ∈ s, ((∀ y ∈ s ++ [m], sbm y x → y = x) ↔ ∀ y ∈ s, sbm y x → y = x) := fun x hx => by
      constructor
      · exact fun h y hy => h y (List.mem_append_left _ hy)
      · intro h y hy hyx
        rcases List.mem_append.mp hy with hy | hy
        · exact h y hy hyx
        · rw [List.mem_singleton.mp hy] at hyx
          have := sbm_le hyx
          have := hlt x hx
          omega
    rw [minM_snoc]
    by_cases hp : hasP m (minM s) = true
    · rw [if_pos hp]
      obtain ⟨o, o1, o2⟩ := hasP_iff.mp hp
      refine ⟨fun x => ?_, fun y hy => ?_, g3⟩
      · constructor
        · intro hx
          have hxs := sub x hx
          exact ⟨List.mem_append_left _ hxs, (keep x hxs).mpr ((g1 x).mp hx).2⟩
        · rintro ⟨hx, hm⟩
          rcases List.mem_append.mp hx with hx | hx
          · exact (g1 x).mpr ⟨hx, (keep x hx).mp hm⟩
          · rw [List.mem_singleton.mp hx] at hm
            have := hm o (List.mem_append_left _ (sub o o1)) o2
            have := hlt o (sub o o1)
            omega
      · rcases List.mem_append.mp hy with hy | hy
        · exact g2 y hy
        · rw [List.mem_singleton.mp hy]
          exact ⟨o, o1, o2⟩
    · rw [if_neg hp]
      have hno : ∀ y ∈ s, ¬ sbm y m := fun y hy hym => by
        obtain ⟨z, z1, z2⟩ := g2 y hy
        exact hp (hasP_iff.mpr ⟨z, z1, sbm_trans z2 hym⟩)
      refine ⟨fun x => ?_, fun y hy => ?_, ?_⟩
      · rw [List.mem_append, List.mem_singleton]
        constructor
        · rintro (hx | rfl)
          · have hxs := sub x hx
            exact ⟨List.mem_append_left _ hxs, (keep x hxs).mpr ((g1 x).mp hx).2⟩
          · refine ⟨List.mem_append_right _ (List.mem_singleton.mpr rfl), fun y hy hyx => ?_⟩
            rcases List.mem_append.mp hy with hy | hy
            · exact absurd hyx (hno y hy)
            · exact List.mem_singleton.mp hy
        · rintro ⟨hx, hm⟩
          rcases List.mem_append.mp hx with hx | hx
          · exact .inl ((g1 x).mpr ⟨hx, (keep x hx).mp hm⟩)
          · exact .inr (List.mem_singleton.mp hx)
      · rcases List.mem_append.mp hy with hy | hy
        · obtain ⟨z, z1, z2⟩ := g2 y hy
          exact ⟨z, List.mem_append_left _ z1, z2⟩
        · rw [List.mem_singleton.mp hy]
          exact ⟨m, List.mem_append_right _ (List.mem_singleton.mpr rfl), sbm_refl m⟩
      · rw [List.nodup_append]
        refine ⟨g3, List.pairwise_singleton _ _, fun a ha b hb e => ?_⟩
        rw [List.mem_singleton.mp hb] at e
        have := hlt a (sub a ha)
        omega
/-- in order, each once -/
def srtD (l : List Nat) : List Nat := (List.range (l.foldl max 0 + 1)).filter fun x => decide (x ∈ l)
theorem foldl_max : ∀ (l : List Nat) (z : Nat), z ≤ l.foldl max z ∧ ∀ x ∈ l, x ≤ l.foldl max z
  | [], z => ⟨Nat.le_refl _, fun _ h => by cases h⟩
  | y :: l, z => by
    obtain ⟨h1, h2⟩ := foldl_max l (max z y)
    rw [List.foldl_cons]
    refine ⟨by omega, fun x hx => ?_⟩
    rcases List.mem_cons.mp hx with rfl | hx
    · omega
    · exact h2 x hx
theorem srtD_ok (l : List Nat) : (srtD l).Pairwise (· < ·) ∧ ∀ x, x ∈ srtD l ↔ x ∈ l := by
  refine ⟨List.pairwise_lt_range.sublist List.filter_sublist, fun x => ?_⟩
  unfold srtD
  rw [List.mem_filter, List.mem_range, decide_eq_true_eq]
  refine ⟨fun h => h.2, fun h => ⟨?_, h⟩⟩
  have := (foldl_max l 0).2 x h
  omega
theorem minS_iff {l : List Nat} {x : Nat} : x ∈ minM (srtD l) ↔ x ∈ l ∧ ∀ y ∈ l, sbm y x → y = x := by
  obtain ⟨h1, h2⟩ := srtD_ok l
  rw [(minM_ok _ h1).1 x, h2]
  constructor
  · rintro ⟨a, b⟩
    exact ⟨a, fun y hy => b y ((h2 y).mpr hy)⟩
  · rintro ⟨a, b⟩
    exact ⟨a, fun y hy => b y ((h2 y).mp hy)⟩
/-- the least sets of a node that force it -/
def bothR (now other : List Nat) : List Nat := minM (srtD (now.flatMap fun a => other.map fun b => a ||| b))
def nodeR (bit : Nat) (now other : List Nat) : List Nat := bothR now other ++ (now.filter fun m => !decide (m ∈ bothR now other)).map (bit ||| ·)
section
variable {F1 F2 : Nat → Prop} {i : Nat} {now other : List Nat}
theorem bothR_iff (u1 : ∀ a b, sbm a b → F1 a → F1 b) (u2 : ∀ a b, sbm a b → F2 a → F2 b) (h1 : ∀ m, m ∈ now ↔ Mn F1 m) (h2 : ∀ m, m ∈ other ↔ Mn F2 m) (m : Nat) : m ∈ bothR now other ↔ Mn (fun m => F1 m ∧ F2 m) m := by
  have mu : ∀ x, x ∈ (now.flatMap fun a => other.map fun b => a ||| b) ↔ ∃ a b, Mn F1 a ∧ Mn F2 b ∧ x = a ||| b := fun x => by
    rw [List.mem_flatMap]
    constructor
    · rintro ⟨a, ha, hx⟩
      obtain ⟨b, hb, rfl⟩ := List.mem_map.mp hx
      exact ⟨a, b, (h1 a).mp ha, (h2 b).mp hb, rfl⟩
    · rintro ⟨a, b, ha, hb, rfl⟩
      exact ⟨a, (h1 a).mpr ha, List.mem_map.mpr ⟨b, (h2 b).mpr hb, rfl⟩⟩
  have fu : ∀ x a b, Mn F1 a → Mn F2 b → x = a ||| b → F1 x ∧ F2 x := fun x a b ha hb e => by
    rw [e]
    exact ⟨u1 _ _ (sbm_l a b) ha.1, u2 _ _ (sbm_r a b) hb.1⟩
  unfold bothR
  rw [minS_iff]
  constructor
  · rintro ⟨hm, hmin⟩
    obtain ⟨a, b, ha, hb, e⟩ := (mu m).mp hm
    refine ⟨fu m a b ha hb e, fun m' hs hF => ?_⟩
    obtain ⟨a', sa, na⟩ := mn_below F1 m' hF.1
    obtain ⟨b', sb, nb⟩ := mn_below F2 m' hF.2
    have so := sbm_or sa sb
    have e2 := hmin (a' ||| b') ((mu _).mpr ⟨a', b', na, nb, rfl⟩) (sbm_trans so hs)
    rw [e2] at so
    exact sbm_anti hs so
  · rintro ⟨hF, hmin⟩
    obtain ⟨a', sa, na⟩ := mn_below F1 m hF.1
    obtain ⟨b', sb, nb⟩ := mn_below F2 m hF.2
    have e := hmin (a' ||| b') (sbm_or sa sb) (fu _ a' b' na nb rfl)
    refine ⟨(mu m).mpr ⟨a', b', na, nb, e.symm⟩, fun y hy hs => ?_⟩
    obtain ⟨a, b, ha, hb, e⟩ := (mu y).mp hy
    exact hmin y hs (fu y a b ha hb e)
theorem mn_off {F : Nat → Prop} {m i : Nat} (c : ∀ m, F m → F (clr m i)) (h : Mn F m) : m.testBit i = false := by
  have := h.2 (clr m i) (clr_sub m i) (c m h.1)
  rw [← this]
  exact clr_off m i
theorem nodeR_iff (u1 : ∀ a b, sbm a b → F1 a → F1 b) (u2 : ∀ a b, sbm a b → F2 a → F2 b) (c1 : ∀ m, F1 m → F1 (clr m i)) (c2 : ∀ m, F2 m → F2 (clr m i)) (h1 : ∀ m, m ∈ now ↔ Mn F1 m) (h2 : ∀ m, m ∈ other ↔ Mn F2 m) (m : Nat) :
    m ∈ nodeR (2 ^ i) now other ↔ Mn (fun m => F1 m ∧ (m.testBit i = true ∨ F2 m)) m := by
  have hb := bothR_iff u1 u2 h1 h2
  unfold nodeR
  rw [List.mem_append, List.mem_map]
  constructor
  · rintro (hm | ⟨a, ha, rfl⟩)
    · have hB := (hb m).mp hm
      have off := mn_off (i := i) (fun m h => ⟨c1 m h.1, c2 m h.2⟩) hB
      refine ⟨⟨hB.1.1, .inr hB.1.2⟩, fun m' hs hF => hB.2 m' hs ⟨hF.1, ?_⟩⟩
      rcases hF.2 with h | h
      · rw [no_bit hs off] at h
        cases h
      · exact h
    · rw [List.mem_filter] at ha
      have hA := (h1 a).mp ha.1
      have off := mn_off c1 hA
      refine ⟨⟨u1 _ _ (sbm_r _ a) hA.1, .inl (by rw [pow_or_bit, decide_eq_true rfl]; rfl)⟩, fun m' hs hF => ?_⟩
      cases hbit : m'.testBit i with
      | true =>
        have s2 : sbm (clr m' i) a := fun j hj => by
          rw [clr_bit, Bool.and_eq_true] at hj
          have := hs j hj.1
          rw [pow_or_bit, Bool.or_eq_true] at this
          rcases this with z | z
          · rw [z] at hj
            cases hj.2
          · exact z
        have := hA.2 _ s2 (c1 _ hF.1)
        rw [← pow_or_clr hbit, this]
      | false =>
        have s2 : sbm m' a := fun j hj => by
          have := hs j hj
          rw [pow_or_bit, Bool.or_eq_true] at this
          rcases this with z | z
          · have : i = j := of_decide_eq_true z
            subst this
            rw [hbit] at hj
            cases hj
          · exact z
        have e := hA.2 _ s2 hF.1
        have f2 : F2 a := by
          rcases hF.2 with z | z
          · rw [hbit] at z
            cases z
          · rw [← e]
            exact z
        have : a ∈ bothR now other := (hb a).mpr ⟨⟨hA.1, f2⟩, fun m2 s3 h3 => hA.2 m2 s3 h3.1⟩
        rw [decide_eq_true this] at ha
        cases ha.2
  · rintro ⟨hF, hmin⟩
    cases hbit : m.testBit i with
    | false =>
      have f2 : F2 m := by
        rcases hF.2 with z | z
        · rw [hbit] at z
          cases z
        · exact z
      exact .inl ((hb m).mpr ⟨⟨hF.1, f2⟩, fun m' hs h => hmin m' hs ⟨h.1, .inr h.2⟩⟩)
    | true =>
      refine .inr ⟨clr m i, ?_, pow_or_clr hbit⟩
      have hA : Mn F1 (clr m i) := ⟨c1 m hF.1, fun m' hs h => by
        have off := no_bit hs (clr_off m i)
        have s2 : sbm (2 ^ i ||| m') m := by
          refine sbm_or (fun j hj => ?_) (sbm_trans hs (clr_sub m i))
          rw [Nat.testBit_two_pow] at hj
          rw [← of_decide_eq_true hj]
          exact hbit
        have := hmin _ s2 ⟨u1 _ _ (sbm_r _ m') h, .inl (by rw [pow_or_bit, decide_eq_true rfl]; rfl)⟩
        rw [← this, clr_pow_or off]⟩
      rw [List.mem_filter]
      refine ⟨(h1 _).mpr hA, ?_⟩
      rw [decide_eq_false (fun z => ?_)]
      · rfl
      · have h2 := (hb _).mp z
        have := hmin _ (clr_sub m i) ⟨h2.1.1, .inr h2.1.2⟩
        rw [← this, clr_off] at hbit
        cases hbit
theorem nodeR_nodup (c1 : ∀ m, F1 m → F1 (clr m i)) (u1 : ∀ a b, sbm a b → F1 a → F1 b) (u2 : ∀ a b, sbm a b → F2 a → F2 b) (c2 : ∀ m, F2 m → F2 (clr m i)) (h1 : ∀ m, m ∈ now ↔ Mn F1 m) (h2 : ∀ m, m ∈ other ↔ Mn F2 m) (hn : now.Nodup) : (nodeR (2 ^ i) now other).Nodup := by
  have hb := bothR_iff u1 u2 h1 h2
  unfold nodeR
  rw [List.nodup_append]
  refine ⟨(minM_ok _ (srtD_ok _).1).2.2, ?_, fun a ha b hb2 e => ?_⟩
  · refine List.Pairwise.map _ (fun a b (h : a ∈ now.filter _ ∧ b ∈ now.filter _ ∧ a ≠ b) => ?_) (List.Pairwise.imp_of_mem (fun {a b} ha hb h => ⟨ha, hb, h⟩) (hn.sublist List.filter_sublist))
    obtain ⟨ha, hb, hne⟩ := h
    have oa := mn_off c1 ((h1 a).mp (List.mem_filter.mp ha).1)
    have ob := mn_off c1 ((h1 b).mp (List.mem_filter.mp hb).1)
    intro e
    exact hne (by rw [← clr_pow_or oa, e, clr_pow_or ob])
  · obtain ⟨c, _, rfl⟩ := List.mem_map.mp hb2
    have off := mn_off (i := i) (fun m h => ⟨c1 m h.1, c2 m h.2⟩) ((hb a).mp ha)
    rw [e, pow_or_bit, decide_eq_true rfl] at off
    cases off
/-- the least sets of a node's changes -/
def nodeL (bit : Nat) (al : Bool) (now other : List Nat) : List Nat := now ++ ((if al = true then other.map (bit ||| ·) else []).filter fun m => !hasP m now)
/-- what a set of changes does to a node -/
def FL (i : Nat) (al : Bool) (F1 F2 : Nat → Prop) (m : Nat) : Prop := (m.testBit i = true → al = true ∧ F2 (clr m i)) ∧ (m.testBit i = false → F1 m)
theorem fl_on {al : Bool} {m : Nat} (h : m.testBit i = true) (k : al = true ∧ F2 (clr m i)) : FL i al F1 F2 m := ⟨fun _ => k, fun z => by rw [h] at z; cases z⟩
theorem fl_off {al : Bool} {m : Nat} (h : m.testBit i = false) (k : F1 m) : FL i al F1 F2 m := ⟨fun z => (by rw [h] at z; cases z), fun _ => k⟩
theorem nodeL_iff {al : Bool} (c1 : ∀ m, F1 m → F1 (clr m i)) (c2 : ∀ m, F2 m → F2 (clr m i)) (h1 : ∀ m, m ∈ now ↔ Mn F1 m) (h2 : ∀ m, m ∈ other ↔ Mn F2 m) (m : Nat) :
    m ∈ nodeL (2 ^ i) al now other ↔ Mn (FL i al F1 F2) m := by
  have ob : ∀ a, (2 ^ i ||| a).testBit i = true := fun a => by rw [pow_or_bit, decide_eq_true rfl]; rfl
  unfold nodeL
  rw [List.mem_append, List.mem_filter]
  constructor
  · rintro (hm | ⟨hm, hp⟩)
    · have hM := (h1 m).mp hm
      have off := mn_off c1 hM
      exact ⟨fl_off off hM.1, fun m' hs hF => hM.2 m' hs (hF.2 (no_bit hs off))⟩
    · cases al with
      | false =>
        rw [if_neg Bool.false_ne_true] at hm
        cases hm
      | true =>
        rw [if_pos rfl] at hm
        obtain ⟨a, ha, rfl⟩ := List.mem_map.mp hm
        have hA := (h2 a).mp ha
        have off := mn_off c2 hA
        refine ⟨fl_on (ob a) (by rw [clr_pow_or off]; exact ⟨rfl, hA.1⟩), fun m' hs hF => ?_⟩
        cases hb : m'.testBit i with
        | true =>
          have s2 : sbm (clr m' i) a := fun j hj => by
            rw [clr_bit, Bool.and_eq_true] at hj
            have := hs j hj.1
            rw [pow_or_bit, Bool.or_eq_true] at this
            rcases this with z | z
            · rw [z] at hj
              cases hj.2
            · exact z
          have := hA.2 _ s2 (hF.1 hb).2
          rw [← pow_or_clr hb, this]
        | false =>
          obtain ⟨z, z1, z2⟩ := mn_below F1 m' (hF.2 hb)
          have := hasP_iff.mpr ⟨z, (h1 z).mpr z2, sbm_trans z1 hs⟩
          rw [this] at hp
          cases hp
  · rintro ⟨hF, hmin⟩
    cases hb : m.testBit i with
    | false => exact .inl ((h1 m).mpr ⟨hF.2 hb, fun m' hs h => hmin m' hs (fl_off (no_bit hs hb) h)⟩)
    | true =>
      have hF := hF.1 hb
      refine .inr ⟨?_, ?_⟩
      · rw [if_pos hF.1]
        refine List.mem_map.mpr ⟨clr m i, (h2 _).mpr ⟨hF.2, fun m' hs h => ?_⟩, pow_or_clr hb⟩
        have off := no_bit hs (clr_off m i)
        have s2 : sbm (2 ^ i ||| m') m := by
          refine sbm_or (fun j hj => ?_) (sbm_trans hs (clr_sub m i))
          rw [Nat.testBit_two_pow] at hj
          rw [← of_decide_eq_true hj]
          exact hb
        have := hmin _ s2 (fl_on (ob m') (by rw [clr_pow_or off]; exact ⟨hF.1, h⟩))
        rw [← this, clr_pow_or off]
      · cases hp : hasP m now with
        | false => rfl
        | true =>
          obtain ⟨z, z1, z2⟩ := hasP_iff.mp hp
          have hz := (h1 z).mp z1
          have off := mn_off c1 hz
          have := hmin z z2 (fl_off off hz.1)
          rw [← this, off] at hb
          cases hb
theorem nodeL_nodup {al : Bool} (c1 : ∀ m, F1 m → F1 (clr m i)) (c2 : ∀ m, F2 m → F2 (clr m i)) (h1 : ∀ m, m ∈ now ↔ Mn F1 m) (h2 : ∀ m, m ∈ other ↔ Mn F2 m) (hn : now.Nodup) (ho : other.Nodup) : (nodeL (2 ^ i) al now other).Nodup := by
  unfold nodeL
  rw [List.nodup_append]
  refine ⟨hn, ?_, fun a ha b hb e => ?_⟩
  · refine List.Pairwise.sublist List.filter_sublist ?_
    cases al with
    | false => rw [if_neg Bool.false_ne_true]; exact .nil
    | true =>
      rw [if_pos rfl]
      refine List.Pairwise.map _ (fun a b (h : a ∈ other ∧ b ∈ other ∧ a ≠ b) => ?_) (List.Pairwise.imp_of_mem (fun {a b} ha hb h => ⟨ha, hb, h⟩) ho)
      obtain ⟨ha, hb, hne⟩ := h
      have oa := mn_off c2 ((h2 a).mp ha)
      have ob := mn_off c2 ((h2 b).mp hb)
      intro e
      exact hne (by rw [← clr_pow_or oa, e, clr_pow_or ob])
  · have off := mn_off c1 ((h1 a).mp ha)
    have hb := (List.mem_filter.mp hb).1
    cases al with
    | false => rw [if_neg Bool.false_ne_true] at hb; cases hb
    | true =>
      rw [if_pos rfl] at hb
      obtain ⟨c, _, rfl⟩ := List.mem_map.mp hb
      rw [e, pow_or_bit, decide_eq_true rfl] at off
      cases off
end

/-! ### reasons and changes of diagrams, as masks -/
def rsn (ds ps : List Int) : Bd → List Nat
  | .lf b => if b = true then [0] else []
  | .nd e w t => nodeR (2 ^ ds.idxOf e) (if e ∈ ps then rsn ds ps t else rsn ds ps w) (if e ∈ ps then rsn ds ps w else rsn ds ps t)
def chg (ds ps al : List Int) : Bd → List Nat
  | .lf b => if b = true then [0] else []
  | .nd e w t => nodeL (2 ^ ds.idxOf e) (decide (e ∈ al)) (if e ∈ ps then chg ds ps al t else chg ds ps al w) (if e ∈ ps then chg ds ps al w else chg ds ps al t)
/-- what is there of the rows of m is enough for the condition -/
def Fm (ds ps : List Int) (a : Bd) (m : Nat) : Prop := ∀ r : Int → Bool, (∀ x ∈ ds, m.testBit (ds.idxOf x) = true → r x = decide (x ∈ ps)) → a.ev r = true
def flM (ds ps : List Int) (m : Nat) : Int → Bool := fun x => decide (x ∈ ps) != (decide (x ∈ ds) && m.testBit (ds.idxOf x))
/-- the condition holds once the rows of m are turned -/
def Gm (ds ps al : List Int) (a : Bd) (m : Nat) : Prop := a.ev (flM ds ps m) = true ∧ ∀ x ∈ ds, m.testBit (ds.idxOf x) = true → x ∈ al
section
variable {ds ps al : List Int}
theorem idx_inj {x y : Int} (hx : x ∈ ds) (h : ds.idxOf x = ds.idxOf y) : x = y := by
  have h1 := List.idxOf_lt_length_of_mem hx
  have h2 : ds.idxOf y < ds.length := by rw [← h]; exact h1
  have e1 := List.getElem_idxOf h1
  have e2 := List.getElem_idxOf h2
  rw [← e1, ← e2]
  simp only [h]
theorem fm_up {a : Bd} {m m' : Nat} (h : sbm m m') (k : Fm ds ps a m) : Fm ds ps a m' := fun r hr => k r fun x hx hb => hr x hx (h _ hb)
theorem fm_clr {a : Bd} {e : Int} (ha : ∀ r b, a.ev (setR r e b) = a.ev r) {m : Nat} (k : Fm ds ps a m) : Fm ds ps a (clr m (ds.idxOf e)) := fun r hr => by
  rw [← ha r (decide (e ∈ ps))]
  refine k _ fun x hx hb => ?_
  unfold setR
  by_cases hxe : x = e
  · rw [if_pos hxe, hxe]
  · rw [if_neg hxe]
    refine hr x hx ?_
    rw [clr_bit, hb, decide_eq_false (fun z => hxe (idx_inj hx z.symm) : ¬ ds.idxOf e = ds.idxOf x)]
    rfl
theorem fm_node {e : Int} {w t : Bd} (he : e ∈ ds) (hw : ∀ r b, w.ev (setR r e b) = w.ev r) (ht : ∀ r b, t.ev (setR r e b) = t.ev r) (m : Nat) :
    Fm ds ps (.nd e w t) m ↔ Fm ds ps (if e ∈ ps then t else w) m ∧ (m.testBit (ds.idxOf e) = true ∨ Fm ds ps (if e ∈ ps then w else t) m) := by
  have hev : ∀ r : Int → Bool, (Bd.nd e w t).ev r = if r e = true then t.ev r else w.ev r := fun _ => rfl
  constructor
  · intro h
    refine ⟨fun r hr => ?_, ?_⟩
    · have h1 := h (setR r e (decide (e ∈ ps))) fun x hx hb => by
        unfold setR
        by_cases hxe : x = e
        · rw [if_pos hxe, hxe]
        · rw [if_neg hxe]
          exact hr x hx hb
      rw [hev, setR_same, hw, ht] at h1
      by_cases hp : e ∈ ps
      · rw [decide_eq_true hp, if_pos rfl] at h1
        rw [if_pos hp]
        exact h1
      · rw [decide_eq_false hp, if_neg Bool.false_ne_true] at h1
        rw [if_neg hp]
        exact h1
    · cases hb : m.testBit (ds.idxOf e) with
      | true => exact .inl rfl
      | false =>
        refine .inr fun r hr => ?_
        have h1 := h (setR r e (!decide (e ∈ ps))) fun x hx hbx => by
          unfold setR
          by_cases hxe : x = e
          · rw [hxe, hb] at hbx
            cases hbx
          · rw [if_neg hxe]
            exact hr x hx hbx
        rw [hev, setR_same, hw, ht] at h1
        by_cases hp : e ∈ ps
        · rw [decide_eq_true hp] at h1
          rw [if_pos hp]
          exact h1
        · rw [decide_eq_false hp] at h1
          rw [if_neg hp]
          exact h1
  · rintro ⟨h1, h2⟩ r hr
    rw [hev]
    by_cases hre : r e = decide (e ∈ ps)
    · have := h1 r hr
      by_cases hp : e ∈ ps
      · rw [if_pos hp] at this
        rw [hre, decide_eq_true hp, if_pos rfl]
        exact this
      · rw [if_neg hp] at this
        rw [hre, decide_eq_false hp, if_neg Bool.false_ne_true]
        exact this
    · have h3 : Fm ds ps (if e ∈ ps then w else t) m := by
        rcases h2 with z | z
        · exact absurd (hr e he z) hre
        · exact z
      have := h3 r hr
      by_cases hp : e ∈ ps
      · rw [if_pos hp] at this
        rw [decide_eq_true hp] at hre
        rw [if_neg hre]
        exact this
      · rw [if_neg hp] at this
        rw [decide_eq_false hp] at hre
        rw [if_pos (by cases h : r e with | true => rfl | false => exact absurd h hre)]
        exact this
theorem mn_congr {F G : Nat → Prop} (h : ∀ m, F m ↔ G m) (m : Nat) : Mn F m ↔ Mn G m := by
  unfold Mn
  constructor
  · rintro ⟨a, b⟩
    exact ⟨(h m).mp a, fun m' s k => b m' s ((h m').mpr k)⟩
  · rintro ⟨a, b⟩
    exact ⟨(h m).mpr a, fun m' s k => b m' s ((h m').mp k)⟩
theorem mn_zero {F : Nat → Prop} (h : ∀ m, F m) (m : Nat) : m ∈ [0] ↔ Mn F m := by
  have z : sbm 0 m := fun i hi => by rw [Nat.zero_testBit] at hi; cases hi
  rw [List.mem_singleton]
  constructor
  · rintro rfl
    exact ⟨h 0, fun m' s _ => Nat.le_zero.mp (sbm_le s)⟩
  · exact fun k => (k.2 0 z (h 0)).symm
theorem mn_never {F : Nat → Prop} (h : ∀ m, ¬ F m) (m : Nat) : m ∈ ([] : List Nat) ↔ Mn F m := ⟨fun z => (by cases z), fun z => absurd z.1 (h m)⟩
theorem nd_away {es : List Int} (hn : es.Nodup) {e : Int} {w t : Bd} (h : Wf es (.nd e w t)) : (∀ r b, w.ev (setR r e b) = w.ev r) ∧ ∀ r b, t.ev (setR r e b) = t.ev r := by
  obtain ⟨pre, po, rfl, h1, h2, _⟩ := wf_nd h
  have he : e ∉ po := (List.nodup_cons.mp (List.nodup_append.mp hn).2.1).1
  exact ⟨fun r b => h1.away he, fun r b => h2.away he⟩
theorem rsn_ok {es : List Int} (hn : es.Nodup) : ∀ (a : Bd), Wf es a → (∀ e w t, Bd.nd e w t ∈ subN a → e ∈ ds) → (∀ m, m ∈ rsn ds ps a ↔ Mn (Fm ds ps a) m) ∧ (rsn ds ps a).Nodup
  | .lf b, _, _ => by
    cases b with
    | true => exact ⟨mn_zero fun m r _ => rfl, List.pairwise_singleton _ _⟩
    | false => exact ⟨mn_never fun m h => (by have := h (fun x => decide (x ∈ ps)) (fun _ _ _ => rfl); cases this), List.Pairwise.nil⟩
  | .nd e w t, hw, hds => by
    obtain ⟨w1, w2⟩ := wf_kids hw
    obtain ⟨i1, n1⟩ := rsn_ok hn w w1 fun e w t h => hds e w t (List.mem_cons_of_mem _ (List.mem_append_left _ h))
    obtain ⟨i2, n2⟩ := rsn_ok hn t w2 fun e w t h => hds e w t (List.mem_cons_of_mem _ (List.mem_append_right _ h))
    have he : e ∈ ds := hds e w t List.mem_cons_self
    obtain ⟨a1, a2⟩ := nd_away hn hw
    have hx : ∀ m, m ∈ (if e ∈ ps then rsn ds ps t else rsn ds ps w) ↔ Mn (Fm ds ps (if e ∈ ps then t else w)) m := fun m => by
      split
      · exact i2 m
      · exact i1 m
    have hy : ∀ m, m ∈ (if e ∈ ps then rsn ds ps w else rsn ds ps t) ↔ Mn (Fm ds ps (if e ∈ ps then w else t)) m := fun m => by
      split
      · exact i1 m
      · exact i2 m
    have c1 : ∀ m, Fm ds ps (if e ∈ ps then t else w) m → Fm ds ps (if e ∈ ps then t else w) (clr m (ds.idxOf e)) := fun m => by
      split
      · exact fm_clr a2
      · exact fm_clr a1
    have c2 : ∀ m, Fm ds ps (if e ∈ ps then w else t) m → Fm ds ps (if e ∈ ps then w else t) (clr m (ds.idxOf e)) := fun m => by
      split
      · exact fm_clr a1
      · exact fm_clr a2
    have hnn : (if e ∈ ps then rsn ds ps t else rsn ds ps w).Nodup := by
      split
      · exact n2
      · exact n1
    refine ⟨fun m => ?_, nodeR_nodup c1 (fun _ _ => fm_up) (fun _ _ => fm_up) c2 hx hy hnn⟩
    refine (nodeR_iff (fun _ _ => fm_up) (fun _ _ => fm_up) c1 c2 hx hy m).trans (mn_congr (fun m => ?_) m)
    exact (fm_node he a1 a2 m).symm
theorem gm_clr {a : Bd} {e : Int} (ha : ∀ r b, a.ev (setR r e b) = a.ev r) {m : Nat} (k : Gm ds ps al a m) : Gm ds ps al a (clr m (ds.idxOf e)) := by
  refine ⟨?_, fun x hx hb => k.2 x hx (clr_sub _ _ _ hb)⟩
  rw [← k.1, ← ha (flM ds ps (clr m (ds.idxOf e))) (flM ds ps m e)]
  congr 1
  funext x
  unfold setR
  by_cases hxe : x = e
  · rw [if_pos hxe, hxe]
  · rw [if_neg hxe]
    unfold flM
    by_cases hx : x ∈ ds
    · rw [clr_bit, decide_eq_false (fun z => hxe (idx_inj hx z.symm) : ¬ ds.idxOf e = ds.idxOf x)]
      cases m.testBit (ds.idxOf x) <;> rfl
    · rw [decide_eq_false hx]
      rfl
theorem gm_node {e : Int} {w t : Bd} (he : e ∈ ds) (hw : ∀ r b, w.ev (setR r e b) = w.ev r) (ht : ∀ r b, t.ev (setR r e b) = t.ev r) (m : Nat) :
    Gm ds ps al (.nd e w t) m ↔ FL (ds.idxOf e) (decide (e ∈ al)) (Gm ds ps al (if e ∈ ps then t else w)) (Gm ds ps al (if e ∈ ps then w else t)) m := by
  have hev : ∀ r : Int → Bool, (Bd.nd e w t).ev r = if r e = true then t.ev r else w.ev r := fun _ => rfl
  have fe : flM ds ps m e = (decide (e ∈ ps) != m.testBit (ds.idxOf e)) := by
    unfold flM
    rw [decide_eq_true he]
    rfl
  have same : ∀ a : Bd, (∀ r b, a.ev (setR r e b) = a.ev r) → a.ev (flM ds ps (clr m (ds.idxOf e))) = a.ev (flM ds ps m) := fun a ha => by
    rw [← ha (flM ds ps (clr m (ds.idxOf e))) (flM ds ps m e)]
    congr 1
    funext x
    unfold setR
    by_cases hxe : x = e
    · rw [if_pos hxe, hxe]
    · rw [if_neg hxe]
      unfold flM
      by_cases hx : x ∈ ds
      · rw [clr_bit, decide_eq_false (fun z => hxe (idx_inj hx z.symm) : ¬ ds.idxOf e = ds.idxOf x)]
        cases m.testBit (ds.idxOf x) <;> rfl
      · rw [decide_eq_false hx]
        rfl
  cases hb : m.testBit (ds.idxOf e) with
  | false =>
    rw [hb] at fe
    have h1 : (Bd.nd e w t).ev (flM ds ps m) = (if e ∈ ps then t else w).ev (flM ds ps m) := by
      rw [hev, fe]
      by_cases hp : e ∈ ps
      · rw [decide_eq_true hp, if_pos hp]
        rfl
      · rw [decide_eq_false hp, if_neg hp]
        rfl
    unfold Gm
    rw [h1]
    exact ⟨fun h => fl_off hb h, fun h => h.2 hb⟩
  | true =>
    rw [hb] at fe
    have h1 : (Bd.nd e w t).ev (flM ds ps m) = (if e ∈ ps then w else t).ev (flM ds ps (clr m (ds.idxOf e))) := by
      rw [hev, fe]
      by_cases hp : e ∈ ps
      · rw [decide_eq_true hp, if_pos hp, same w hw]
        rfl
      · rw [decide_eq_false hp, if_neg hp, same t ht]
        rfl
    constructor
    · rintro ⟨g1, g2⟩
      refine fl_on hb ⟨decide_eq_true (g2 e he hb), ?_, fun x hx hbx => g2 x hx (clr_sub _ _ _ hbx)⟩
      rw [← h1]
      exact g1
    · intro h
      obtain ⟨k1, k2, k3⟩ := h.1 hb
      refine ⟨by rw [h1]; exact k2, fun x hx hbx => ?_⟩
      by_cases hxe : x = e
      · rw [hxe]
        exact of_decide_eq_true k1
      · refine k3 x hx ?_
        rw [clr_bit, hbx, decide_eq_false (fun z => hxe (idx_inj hx z.symm) : ¬ ds.idxOf e = ds.idxOf x)]
        rfl
theorem chg_ok {es : List Int} (hn : es.Nodup) : ∀ (a : Bd), Wf es a → (∀ e w t, Bd.nd e w t ∈ subN a → e ∈ ds) → (∀ m, m ∈ chg ds ps al a ↔ Mn (Gm ds ps al a) m) ∧ (chg ds ps al a).Nodup
  | .lf b, _, _ => by
    cases b with
    | true =>
      refine ⟨fun m => ?_, List.pairwise_singleton _ _⟩
      show m ∈ [0] ↔ _
      have z : sbm 0 m := fun i hi => by rw [Nat.zero_testBit] at hi; cases hi
      have g0 : Gm ds ps al (.lf true) 0 := ⟨rfl, fun x _ hb => by rw [Nat.zero_testBit] at hb; cases hb⟩
      rw [List.mem_singleton]
      constructor
      · rintro rfl
        exact ⟨g0, fun m' s _ => Nat.le_zero.mp (sbm_le s)⟩
      · exact fun k => (k.2 0 z g0).symm
    | false => exact ⟨mn_never fun m h => (by cases h.1), List.Pairwise.nil⟩
  | .nd e w t, hw, hds => by
    obtain ⟨w1, w2⟩ := wf_kids hw
    obtain ⟨i1, n1⟩ := chg_ok hn w w1 fun e w t h => hds e w t (List.mem_cons_of_mem _ (List.mem_append_left _ h))
    obtain ⟨i2, n2⟩ := chg_ok hn t w2 fun e w t h => hds e w t (List.mem_cons_of_mem _ (List.mem_append_right _ h))
    have he : e ∈ ds := hds e w t List.mem_cons_self
    obtain ⟨a1, a2⟩ := nd_away hn hw
    have hx : ∀ m, m ∈ (if e ∈ ps then chg ds ps al t else chg ds ps al w) ↔ Mn (Gm ds ps al (if e ∈ ps then t else w)) m := fun m => by
      split
      · exact i2 m
      · exact i1 m
    have hy : ∀ m, m ∈ (if e ∈ ps then chg ds ps al w else chg ds ps al t) ↔ Mn (Gm ds ps al (if e ∈ ps then w else t)) m := fun m => by
      split
      · exact i1 m
      · exact i2 m
    have c1 : ∀ m, Gm ds ps al (if e ∈ ps then t else w) m → Gm ds ps al (if e ∈ ps then t else w) (clr m (ds.idxOf e)) := fun m => by
      split
      · exact gm_clr a2
      · exact gm_clr a1
    have c2 : ∀ m, Gm ds ps al (if e ∈ ps then w else t) m → Gm ds ps al (if e ∈ ps then w else t) (clr m (ds.idxOf e)) := fun m => by
      split
      · exact gm_clr a1
      · exact gm_clr a2
    have hnn : (if e ∈ ps then chg ds ps al t else chg ds ps al w).Nodup := by
      split
      · exact n2
      · exact n1
    have hno : (if e ∈ ps then chg ds ps al w else chg ds ps al t).Nodup := by
      split
      · exact n1
      · exact n2
    refine ⟨fun m => ?_, nodeL_nodup c1 c2 hx hy hnn hno⟩
    refine (nodeL_iff c1 c2 hx hy m).trans (mn_congr (fun m => ?_) m)
    exact (gm_node he a1 a2 m).symm
end
/-! ### sets of rows and masks -/
def mbr (ds : List Int) (m : Nat) : List Int := ds.filter fun x => m.testBit (ds.idxOf x)
def msk : List Int → (Int → Bool) → Nat
  | [], _ => 0
  | x :: ds, p => 2 * msk ds p + if p x = true then 1 else 0
theorem msk_bit (p : Int → Bool) : ∀ (ds : List Int) (j : Nat), (msk ds p).testBit j = match ds[j]? with | some x => p x | none => false
  | [], j => by
    show (0 : Nat).testBit j = _
    rw [Nat.zero_testBit]
    rfl
  | x :: ds, 0 => by
    show (2 * msk ds p + if p x = true then 1 else 0).testBit 0 = p x
    rw [Nat.testBit_zero]
    cases p x with
    | true => rw [if_pos rfl]; exact decide_eq_true (by omega)
    | false => rw [if_neg Bool.false_ne_true]; exact decide_eq_false (by omega)
  | x :: ds, j + 1 => by
    show (2 * msk ds p + if p x = true then 1 else 0).testBit (j + 1) = match ds[j]? with | some x => p x | none => false
    rw [Nat.testBit_succ, ← msk_bit p ds j]
    congr 1
    split <;> omega
theorem msk_at {ds : List Int} {p : Int → Bool} {x : Int} (h : x ∈ ds) : (msk ds p).testBit (ds.idxOf x) = p x := by
  rw [msk_bit]
  have h1 := List.idxOf_lt_length_of_mem h
  rw [List.getElem?_eq_getElem h1, List.getElem_idxOf h1]
theorem mbr_mem {ds : List Int} {m : Nat} {x : Int} : x ∈ mbr ds m ↔ x ∈ ds ∧ m.testBit (ds.idxOf x) = true := List.mem_filter
/-- a part of the mask of some rows is a mask of rows -/
theorem msk_sub {ds : List Int} (hn : ds.Nodup) {p : Int → Bool} {m : Nat} (h : ∀ x ∈ ds, m.testBit (ds.idxOf x) = true → p x = true) (k : ∀ j, ds.length ≤ j → m.testBit j = false) : sbm m (msk ds p) := fun j hj => by
  rw [msk_bit]
  by_cases hl : j < ds.length
  · rw [List.getElem?_eq_getElem hl]
    have e : ds.idxOf ds[j] = j := List.Nodup.idxOf_getElem hn j hl
    exact h ds[j] (List.getElem_mem hl) (by rw [e]; exact hj)
  · rw [k j (by omega)] at hj
    cases hj

/-! ### a set of a list's numbers -/
/-- a set without members -/
abbrev eset (w : World) : Obj := ⟨.type "set", none, .set #[] 0 (.fresh 0 0 (!w.params.followText "set-order")), #[]⟩
section
variable {P : Program} {w : World} {A : Around} {E : Value → Shared → Prop} {s : Shared}
set_option maxRecDepth 100000 in
set_option maxHeartbeats 4000000 in
theorem set_of_list {l : Addr} {vs : Array Value} (ns : List Int) {Q : Value → Shared → Prop} (hh : A.handled = none) (hl : s.heap.IsList l vs) (hi : PyProof.Rows.IntsAre vs.toList ns) (room : ns.length + 1 < scanBound)
    (q : ∀ (g : Heap) (tk c : Nat), SetR w g s.heap.objs.size (fun j => decide (j ∈ ns)) c → c ≤ ns.length → (∀ b o, s.heap.get? b = some o → g.get? b = some o) → Q (.ref s.heap.objs.size) { s with heap := g, toks := tk }) :
    wpAny (model P w) A (call (.type "set") [.ref l]) Q E s := by
  have lvs : vs.size = ns.length := by
    rw [← Array.length_toList]
    exact PyProof.Rows.IntsAre.length hi
  obtain ⟨c0, t0, m0⟩ := PySem.F.called_set.mro
  have m1 := PySem.F.called_set.made
  have m2 := PySem.F.called_set.sub
  have m3 := PySem.F.called_set.notType
  have m4 := PySem.F.called_set.canCreate
  have m5 := PySem.F.typeCall_set_1 (.ref l)
  refine wpAny_call (codeAny_of_tree (wpAny_pure ⟨Code.quiet_builtin _ (by decide +kernel), codeAny_builtin PySem.F.entry_type_call ?_⟩))
  rw [Around.under_plain (weight_type_call_type "set" [.ref l] []) rfl]
  repeat' first | assumption | wp_step
  have new0 := code_set_led1 (P := P) (w := w) (A := A.in1) (s := s) (.ref l) (E := E) (Q₁ := fun x t => x = .ref s.heap.objs.size ∧ t = { s with heap := s.heap.push (eset w) }) ⟨rfl, rfl⟩
  refine codeAny_mono new0 fun r s1 hr => ?_
  rcases r with e | fl
  · exact hr
  cases fl with
  | next => exact hr.elim
  | brk => exact hr.elim
  | cont => exact hr.elim
  | ret x =>
    obtain ⟨rfl, rfl⟩ := hr
    have at0 : (s.heap.push (eset w)).get? s.heap.objs.size = some (eset w) := Heap.get?_push_size _ rfl
    have ty0 : Shared.TypeIs { s with heap := s.heap.push (eset w) } (.ref s.heap.objs.size) "set" := ⟨_, at0, rfl⟩
    have i1 := PySem.F.called_set.init.lookup
    have i2 := PySem.F.called_set.init.bind (.ref s.heap.objs.size)
    repeat' first | assumption | wp_step
    have fill : codeAny (model P w) A.in1 (.call (.builtin "set.__init__") ⟨[.ref s.heap.objs.size, .ref l], []⟩) (wants (fun r t => r = .none ∧ ∃ (g : Heap) (tk c : Nat), t = { s with heap := g, toks := tk } ∧ SetR w g s.heap.objs.size (fun j => decide (j ∈ ns)) c ∧ c ≤ ns.length ∧ ∀ b o, s.heap.get? b = some o → g.get? b = some o) E) { s with heap := s.heap.push (eset w) } := by
      refine codeAny_call_builtin PySem.F.called_set.init.plain PySem.F.entry_set_init (check_set_init_1 ty0 ?_)
      obtain ⟨⟨cl, dc, da, sl⟩, a1, a2, nl, a3⟩ := hl
      dsimp only at a2 a3
      subst a2 a3
      have at1 : (s.heap.push (eset w)).get? l = some ⟨.type "list", dc, .seq vs nl, sl⟩ := Heap.get?_push_of_some _ a1
      have k1 := PySem.F.sub_list_set
      have k2 := PySem.F.sub_list_frozenset
      have k3 : (Value.type "list" == Value.type "dict") = false := by decide
      have il : (s.heap.push (eset w)).IsList l vs := ⟨_, at1, rfl, nl, rfl⟩
      have lt0 : l < s.heap.objs.size := Heap.lt_size a1
      unfold Builtin.«set.__init__» noKeywords Builtin.Frozenset.updateFrom
      generalize hy : pyIter = y
      wp_walk
      subst hy
      refine wpAny_pyIter_list il (wpAny_bind (wpAny_runValue ?_))
      have calm : A.in1.in1.in1.handled = none := by simp [hh]
      have sz : (s.heap.push (eset w)).objs.size = s.heap.objs.size + 1 := Heap.size_push ..
      have n1 : l ≠ (s.heap.push (eset w)).objs.size := by rw [sz]; exact Nat.ne_of_lt (Nat.lt_succ_of_lt lt0)
      have n2 : s.heap.objs.size ∉ [(s.heap.push (eset w)).objs.size, l] := by
        rw [sz]
        intro z
        rcases List.mem_cons.mp z with z | z
        · exact Nat.ne_of_lt (Nat.lt_succ_self _) z
        · exact Nat.ne_of_gt lt0 (List.mem_singleton.mp z)
      have val : ∀ (i : Nat) (v : Value), vs[i]? = some v → ∃ k t, ns[i]? = some k ∧ v = .int k t := fun i v hv => by
        have hlt : i < ns.length := by
          rw [← lvs]
          exact (Array.getElem?_eq_some_iff.mp hv).1
        obtain ⟨t, e⟩ := PyProof.Rows.IntsAre.int_at hi i v (by rw [Array.getElem?_toList]; exact hv)
        refine ⟨ns[i], t, List.getElem?_eq_getElem hlt, ?_⟩
        rw [e, List.getD_eq_getElem?_getD, List.getElem?_eq_getElem hlt]
        rfl
      refine set_update_ints (Walks.list calm _ l n1 vs).toS s.heap.objs.size n2 ns lvs room val (vs.size - 0) 0 _ (by omega) (Nat.zero_le _) ⟨⟨_, Heap.get?_push_size _ rfl, rfl, rfl⟩, il.push _⟩ ⟨0, Nat.le_refl 0, setR_new_at (Heap.get?_push_of_some _ at0)⟩ fun t c mv lc R => ?_
      obtain ⟨g, gn, dn, tk, os⟩ := t
      obtain rfl : gn = s.gens := mv.gens
      obtain rfl : dn = s.drawn := mv.drawn
      obtain rfl : os = s.os := mv.os
      refine wpAny_pure (wpAny_pure ⟨rfl, g, tk, c, rfl, R, by omega, fun b o e => ?_⟩)
      have lb : b < s.heap.objs.size := Heap.lt_size e
      refine mv.heap b o (fun z => ?_) (Heap.get?_push_of_some _ (Heap.get?_push_of_some _ e))
      rw [sz] at z
      rcases List.mem_cons.mp z with z | z
      · exact Nat.ne_of_lt lb z
      · exact Nat.ne_of_lt (Nat.lt_succ_of_lt lb) (List.mem_singleton.mp z)
    refine codeAny_mono fill fun r s2 hr => ?_
    rcases r with e | fl
    · exact hr
    cases fl with
    | next => exact hr.elim
    | brk => exact hr.elim
    | cont => exact hr.elim
    | ret x =>
      obtain ⟨rfl, g, tk, c, rfl, R, lc, kp⟩ := hr
      repeat' first | assumption | wp_step
      exact q g tk c R lc kp
end
def rSetI (w : World) (K : PySem.W.Frag) : List V → Hp → VK → Prop := fun zs H Q => ∃ (a : Addr) (ns : List Int), zs = [V.ref a] ∧ SqL K H a (ns.map V.int) ∧ ns.length + 1 < scanBound ∧ ∀ p c (L : List Int), H p = none → c ≤ ns.length → L.Nodup → (∀ k : Int, k ∈ L ↔ k ∈ ns) → L.length = c → Q (.ref p) (upd H p (SetO w p (fun j => decide (j ∈ ns)) c))
theorem cr_setI {X : Cx} (w : World) (K : PySem.W.Frag) (hc : X.calm = true) (h : X.K = K := by rfl) (hw : X.w = w := by rfl) : CallR X (.type "set") (rSetI w K) := by
  subst h
  subst hw
  intro pins s σ H zs us Q I r ⟨a, ns, e, ha, room, q⟩
  subst e
  rw [Vals.ref1 r]
  obtain ⟨its, ri, pl, hz⟩ := I.list ha
  refine set_of_list ns (I.ok.hd hc) pl.isList (by rw [List.toList_toArray]; exact Vals.ints ri) room fun g tk c R lc kp => ?_
  have n0 : H s.heap.objs.size = none := I.hok.fresh (Nat.le_refl _)
  obtain ⟨o, es, ep, t, h1, h2, h3, h4, h5, h6, h7, h8, h9, _⟩ := id R
  exact ⟨.ref s.heap.objs.size, _, I.laid (t' := tk) kp (Nat.le_refl _) (setO_new R), rfl, q _ c (es.toList.map keyOf) n0 lc h5 (fun k => by rw [← h6 k, decide_eq_true_eq]) (by rw [List.length_map, Array.length_toList]; exact h9)⟩
theorem sortedSetK {X : Cx} (w : World) (hc : X.calm = true) (hw : X.w = w := by rfl) : CallR X (.builtin "sorted") (rSortedSet w) := by
  subst hw
  exact cr_sortedSet hc

/-! ### lists in order -/
theorem pw_len {a b : List Int} (ha : a.Pairwise (· < ·)) (hb : b.Pairwise (· < ·)) (h : ∀ x ∈ a, x ∈ b) : a.length ≤ b.length := by
  have h1 : (b.filter fun x => decide (x ∈ a)).Perm a := by
    refine (List.perm_ext_iff_of_nodup ((hb.imp fun h => by omega : b.Nodup).sublist List.filter_sublist) (ha.imp fun h => by omega)).mpr fun x => ?_
    rw [List.mem_filter, decide_eq_true_eq]
    exact ⟨fun h => h.2, fun z => ⟨h x z, z⟩⟩
  rw [← h1.length_eq]
  exact List.length_filter_le _ _
theorem pw_ext3 : ∀ {a b : List Int}, a.Pairwise (· < ·) → b.Pairwise (· < ·) → (∀ x, x ∈ a ↔ x ∈ b) → a = b
  | [], [], _, _, _ => rfl
  | [], y :: b, _, _, h => absurd ((h y).mpr List.mem_cons_self) (by simp)
  | x :: a, [], _, _, h => absurd ((h x).mp List.mem_cons_self) (by simp)
  | x :: a, y :: b, ha, hb, h => by
    obtain ⟨a1, a2⟩ := List.pairwise_cons.mp ha
    obtain ⟨b1, b2⟩ := List.pairwise_cons.mp hb
    have e : x = y := by
      have h1 := (h x).mp List.mem_cons_self
      have h2 := (h y).mpr List.mem_cons_self
      rcases List.mem_cons.mp h1 with h1 | h1
      · exact h1
      · rcases List.mem_cons.mp h2 with h2 | h2
        · exact h2.symm
        · have := b1 x h1
          have := a1 y h2
          omega
    subst e
    rw [pw_ext3 a2 b2 fun z => ⟨fun hz => ?_, fun hz => ?_⟩]
    · rcases List.mem_cons.mp ((h z).mp (List.mem_cons_of_mem _ hz)) with g | g
      · have := a1 z hz
        omega
      · exact g
    · rcases List.mem_cons.mp ((h z).mpr (List.mem_cons_of_mem _ hz)) with g | g
      · have := b1 z hz
        omega
      · exact g

/-! ### own errors without an __init__ of their own -/
structure PlE (K : PySem.W.Frag) (mg : Str → Option Value) (C : Addr) (x : Str) : Prop where
  q : PySem.W.excIn K C [.type "ValueError", .type "Exception", .type "BaseException", .type "object"] "ValueError.__new__" = true
  nm : mg x = some (.ref C)
  k : PySem.W.keepIn K (.ref C) = true
  s : PySem.W.subIn K (.ref C) (.type "BaseException") = some true
  t : PySem.W.typeIn K (.ref C) = some (.type "type")
theorem ps_raiseP {X : Cx} {C : Addr} {W : WX} {x m : Str} {j : Nat} {p p2 pos pos' : Pos} (S : PlE X.K X.mg C x) (hc : X.calm = true) (tk : Takes X W) (hg : L2.Gl X x) (hdb : (x == ("__debug__" : Str)) = false := by decide) :
    PS X (.Raise (some (.Call (.Name x p) [.Constant (.str m) j p2] [] pos)) none pos') (fun _ σ H => W (.ref C) none σ H) := ps_raise hc tk (pmk_own PySem.F.excBase_ValueError S.q S.nm S.k (raises_own S.s S.t) hg hdb)
/-- a def that may raise, called by its name -/
structure ClX (P : Program) (w : World) (K : PySem.W.Frag) (mg : Str → Option Value) (base : Heap) (k : Nat) (x : Str) (sp : Sp) : Prop where
  ex : ∃ (f : Addr) (fd : FuncData) (ps : List Str), FnOk P w K mg base (L2.CX P w) k f fd ps sp ∧ mg x = some (.ref f) ∧ PySem.W.keepIn K (.ref f) = true ∧ Binds K fd ps []
theorem FnOk.clx {P : Program} {w : World} {K : PySem.W.Frag} {mg : Str → Option Value} {base : Heap} {k : Nat} {x q : Str} {st : Stmt} {f : Addr} {fd : FuncData} {ps : List Str} {sp : Sp} (h : FnOk P w K mg base (L2.CX P w) k f fd ps sp) (F : Fun K x q st f fd) (g : mg x = some (.ref f)) (b : Binds K fd ps []) : ClX P w K mg base k x sp := ⟨f, fd, ps, h, g, F.kp, b⟩
theorem passX {X : Cx} {E : XK} (tk : Takes X (fun cls d _ H => E cls d H)) : Passes (L2.CX X.prog X.w) X E := fun pins σ H s e s' I c => passAt (W := fun cls d _ H => E cls d H) tk σ pins H s e s' I c
structure ClDX (P : Program) (w : World) (K : PySem.W.Frag) (mg : Str → Option Value) (base : Heap) (k : Nat) (x : Str) (dvs : List V) (sp : Sp) : Prop where
  ex : ∃ (f : Addr) (fd : FuncData) (ps : List Str) (ds : List Value), FnOk P w K mg base (L2.CX P w) k f fd ps sp ∧ mg x = some (.ref f) ∧ PySem.W.keepIn K (.ref f) = true ∧ Binds K fd ps ds ∧ Vals dvs ds
structure ClNX (P : Program) (w : World) (K : PySem.W.Frag) (mg : Str → Option Value) (base : Heap) (k : Nat) (x : Str) (n : Nat) (ks : List Str) (gV : List V → List V → List V) (sp : Sp) : Prop where
  ex : ∃ (f : Addr) (fd : FuncData) (ps : List Str) (g : List Value → List Value → List Value), FnOk P w K mg base (L2.CX P w) k f fd ps sp ∧ mg x = some (.ref f) ∧ PySem.W.keepIn K (.ref f) = true ∧ KBn K fd ps n ks g gV
section
variable {X : Cx} {k j n : Nat} {x : Str} {sp : Sp} {E : XK} {dvs : List V} {ks : List Str} {gV : List V → List V → List V} {p pos : Pos} {e : Expr} {es : List Expr} {kws : List Keyword} {t tk : TA}
theorem pe_ux (c : ClX X.prog X.w X.K X.mg X.base k x sp) (hr : Room j X.A) (hk : k ≤ j) (hp : Passes (L2.CX X.prog X.w) X E) (hg : L2.Gl X x) (ha : PA X (e :: es) t)
    (hdb : (x == ("__debug__" : Str)) = false := by decide) (he : starEach (e :: es) X.env = (false, eval e X.env) :: starEach es X.env := by rfl) (hpl : (backTo pos (starEach es X.env)).any (·.1) = false := by rfl) :
    PE X (.Call (.Name x p) (e :: es) [] pos) (tCall sp [] E t) := by
  obtain ⟨f, fd, ps, F, hm, kp, b⟩ := c.ex
  exact pe_call F (hr.mono hk) hg hm kp b .nil hp ha hdb he hpl
theorem pe_udx (c : ClDX X.prog X.w X.K X.mg X.base k x dvs sp) (hr : Room j X.A) (hk : k ≤ j) (hp : Passes (L2.CX X.prog X.w) X E) (hg : Gl X x) (ha : PA X (e :: es) t)
    (hdb : (x == ("__debug__" : Str)) = false := by decide) (he : starEach (e :: es) X.env = (false, eval e X.env) :: starEach es X.env := by rfl) (hpl : (backTo pos (starEach es X.env)).any (·.1) = false := by rfl) :
    PE X (.Call (.Name x p) (e :: es) [] pos) (tCall sp dvs E t) := by
  obtain ⟨f, fd, ps, ds, F, hm, kp, b, hd⟩ := c.ex
  exact pe_call F (hr.mono hk) hg hm kp b hd hp ha hdb he hpl
end

/-! ### defs with keyword-only parameters: called with the defaults, or with keywords -/
structure ClD (P : Program) (w : World) (K : PySem.W.Frag) (mg : Str → Option Value) (base : Heap) (k : Nat) (x : Str) (dvs : List V) (sp : Sp) : Prop where
  ex : ∃ (f : Addr) (fd : FuncData) (ps : List Str) (ds : List Value), FnOk P w K mg base CX0 k f fd ps sp ∧ mg x = some (.ref f) ∧ PySem.W.keepIn K (.ref f) = true ∧ Binds K fd ps ds ∧ Vals dvs ds
structure ClN (P : Program) (w : World) (K : PySem.W.Frag) (mg : Str → Option Value) (base : Heap) (k : Nat) (x : Str) (n : Nat) (ks : List Str) (gV : List V → List V → List V) (sp : Sp) : Prop where
  ex : ∃ (f : Addr) (fd : FuncData) (ps : List Str) (g : List Value → List Value → List Value), FnOk P w K mg base CX0 k f fd ps sp ∧ mg x = some (.ref f) ∧ PySem.W.keepIn K (.ref f) = true ∧ KBn K fd ps n ks g gV
section
variable {X : Cx} {k j n : Nat} {x : Str} {sp : Sp} {dvs : List V} {ks : List Str} {gV : List V → List V → List V} {p pos : Pos} {e : Expr} {es : List Expr} {kws : List Keyword} {t tk : TA}
theorem pe_ud (c : ClD X.prog X.w X.K X.mg X.base k x dvs sp) (hr : Room j X.A) (hk : k ≤ j) (hg : Gl X x) (ha : PA X (e :: es) t)
    (hdb : (x == ("__debug__" : Str)) = false := by decide) (he : starEach (e :: es) X.env = (false, eval e X.env) :: starEach es X.env := by rfl) (hpl : (backTo pos (starEach es X.env)).any (·.1) = false := by rfl) :
    PE X (.Call (.Name x p) (e :: es) [] pos) (tCall sp dvs E0 t) := by
  obtain ⟨f, fd, ps, ds, F, hm, kp, b, hd⟩ := c.ex
  exact pe_call F (hr.mono hk) hg hm kp b hd pass0 ha hdb he hpl
theorem pe_kn (c : ClN X.prog X.w X.K X.mg X.base k x n ks gV sp) (hr : Room j X.A) (hk : k ≤ j) (hg : Gl X x) (ha : PA X (e :: es) t) (hkw : PK X kws tk) (hall : (backToKw pos (keywordEach kws X.env)).all (·.1.isSome) = true := by rfl) (hks : (backToKw pos (keywordEach kws X.env)).filterMap (·.1) = ks := by rfl)
    (hdb : (x == ("__debug__" : Str)) = false := by decide) (he : starEach (e :: es) X.env = (false, eval e X.env) :: starEach es X.env := by rfl)
    (hpl : ((backTo pos (starEach (e :: es) X.env)).any (·.1) || (backToKw pos (keywordEach kws X.env)).any (·.1.isNone)) = false := by rfl) :
    PE X (.Call (.Name x p) (e :: es) kws pos) (tCallN n ks.length sp gV E0 t tk) := by
  obtain ⟨f, fd, ps, g, F, hm, kp, b⟩ := c.ex
  exact pe_callN F (hr.mono hk) hg hm kp b pass0 ha hkw hall hks hdb he hpl
end
theorem fund_mk {K : PySem.W.Frag} {x qual : Str} {st : Stmt} {f D : Addr} {oc : Value} {od an : Option Addr} {osl : Array (Option Value)} {doc pm cdv ct : Value} {kws : List (Str × V)} (l : K.lookup f = some ⟨oc, od, .func (PySem.W.fnOf x qual (defArgs st) (defBody st) (defScope st) .none (.ref D) doc pm an cdv ct), osl⟩)
    (c : PySem.W.codeIn K cdv qual = true) (k : PySem.W.keepIn K (.ref f) = true) (h : ∀ q ∈ kws, ∃ u, PySem.W.nsIn K D q.1 = some (some u) ∧ RelV q.2 u) : FunD K x qual (defArgs st) (defBody st) (defScope st) [] kws f (PySem.W.fnOf x qual (defArgs st) (defBody st) (defScope st) .none (.ref D) doc pm an cdv ct) :=
  ⟨⟨oc, od, .none, .ref D, doc, pm, an, cdv, ct, osl, rfl, l, c, .inl ⟨rfl, rfl⟩, .inr ⟨D, rfl, h⟩⟩, k⟩

/-! ### errors that a law catches: calls with keywords, isinstance of what was caught -/
def tCallNS (n m : Nat) (sp : Sp) (gV : List V → List V → List V) (E : L2.St → XK) (t tk : TA) : TE := fun σ H Q => t σ H fun vs H1 => tk σ H1 fun zs H2 => vs.length = n ∧ zs.length = m ∧ sp (gV vs zs) H2 Q (E σ)
section
variable {X : Cx} {k j n : Nat} {x : Str} {sp : Sp} {E : L2.St → XK} {ks : List Str} {gV : List V → List V → List V} {p pos : Pos} {e : Expr} {es : List Expr} {kws : List Keyword} {t tk : TA}
theorem pe_knS (c : ClNX X.prog X.w X.K X.mg X.base k x n ks gV sp) (hr : Room j X.A) (hk : k ≤ j) (hx : ∀ σ, PassesAt (L2.CX X.prog X.w) X σ (E σ)) (hg : Gl X x) (ha : PA X (e :: es) t) (hkw : PK X kws tk) (hall : (backToKw pos (keywordEach kws X.env)).all (·.1.isSome) = true := by rfl) (hks : (backToKw pos (keywordEach kws X.env)).filterMap (·.1) = ks := by rfl)
    (hdb : (x == ("__debug__" : Str)) = false := by decide) (he : starEach (e :: es) X.env = (false, eval e X.env) :: starEach es X.env := by rfl)
    (hpl : ((backTo pos (starEach (e :: es) X.env)).any (·.1) || (backToKw pos (keywordEach kws X.env)).any (·.1.isNone)) = false := by rfl) :
    PE X (.Call (.Name x p) (e :: es) kws pos) (tCallNS n ks.length sp gV E t tk) := by
  obtain ⟨f, fd, ps, g, F, hm, kp, hb⟩ := c.ex
  refine ⟨fun pins s σ H Q I h => ?_⟩
  refine wpAny_Call_Name_kw (ld_glob I hg hm ?_ hdb)
  refine PySem.W.callWith_KW (h₀ := X.base) I.ok.mod.kin kp hall (thn (ha.run pos pins s σ H _ I h) fun us s1 ⟨vs, H1, I1, r, q⟩ => ?_) hpl he
  refine thn (hkw.run pos pins s1 σ H1 _ I1 q) fun ws s2 ⟨zs, H2, I2, rz, l1, l2, q2⟩ => ⟨I2.kIn, ?_⟩
  rw [hks]
  have r2 := hb.rel r rz
  refine wpAny_call (codeAny_mono (F.run X.A X.stack s2 H2 ⟨us, ks.zip ws⟩ (g us ws) (gV vs zs) Q (E σ) (hr.mono hk) I2.env0 (hb.to s2 us ws I2.kIn (r.length.symm.trans l1) (rz.length.symm.trans l2)) r2 q2) fun r s' hq => ?_)
  cases r with
  | error e => exact hx σ pins H2 s2 e s' I2 hq
  | ok fl =>
    cases fl with
    | ret u => exact I2.after hq
    | next => exact False.elim hq
    | brk => exact False.elim hq
    | cont => exact False.elim hq
end
/-- isinstance of what was caught: it is an instance of an own class without a dict of its own -/
def rIsX (K : PySem.W.Frag) (cls : Value) (d : Option Addr) (a : Addr) : List V → Hp → VK → Prop := fun xs H Q => ∃ (D : Addr) (c : V) (cv : Value) (b : Bool), cls = .ref D ∧ d = none ∧ ExcC K D ∧ xs = [.ref a, c] ∧ (∀ u, RelV c u → u = cv) ∧ PySem.W.kitOne K (.ref D) cv = some b ∧ Q (.bl b) H
theorem call_isX {X : Cx} {a : Addr} {oe : Obj} {cls : Value} {d : Option Addr} {pn : List (Addr × Obj)} (hz : Zc cls d oe) (hf : ∃ vs, oe.data = .fields vs) : CallR (X.suite a ((a, oe) :: pn)) (.builtin "isinstance") (rIsX X.K cls d a) := by
  intro pins s σ H xs us Q I r h
  obtain ⟨D, c, cv, b, rfl, rfl, C, h⟩ := h
  exact call_isE C hz hf pins s σ H xs us Q I r ⟨c, cv, b, h⟩
/-- what a law asks of an error that it catches: it is caught as L, and no instance of O -/
structure Cat (K : PySem.W.Frag) (C L O : Addr) : Prop where
  ex : PySem.W.exmOne K (.ref C) (.ref L) = some true
  xc : ExcC K C
  k1 : PySem.W.kitOne K (.ref C) (.ref C) = some true
  k2 : PySem.W.kitOne K (.ref C) (.ref O) = some false
theorem kit_refT {K : PySem.W.Frag} {C : Addr} : PySem.W.kitOne K (.ref C) (.ref C) = some true := by
  unfold PySem.W.kitOne
  rw [if_pos (beq_self_eq_true _)]
theorem kit_refF {K : PySem.W.Frag} {C O : Addr} (hb : PySem.W.subIn K (.ref O) (.type "BaseException") = some true) (hd : PySem.W.hasDictIn K O = true) (ht : PySem.W.typeIn K (.ref O) = some (.type "type")) (h1 : PySem.W.subIn K (.ref C) (.ref C) = some true) (h2 : PySem.W.subIn K (.ref C) (.ref O) = some false) : PySem.W.kitOne K (.ref C) (.ref O) = some false := by
  have h3 := PySem.W.exm_ref hb hd ht h2
  unfold PySem.W.exmOne at h3
  rw [hb, if_pos (beq_self_eq_true _)] at h3
  unfold PySem.W.kitOne
  rw [if_neg, h3]
  intro z
  have e := eq_of_beq z
  cases e
  rw [h1] at h2
  cases h2

/-! ### sets of masks on the heap -/
def natL (l : List Nat) : List V := l.map fun n => V.int ((n : Nat) : Int)
theorem natL_len (l : List Nat) : (natL l).length = l.length := List.length_map ..
theorem natL_get {l : List Nat} {i : Nat} {y : V} (h : (natL l)[i]? = some y) : ∃ m, l[i]? = some m ∧ y = .int ((m : Nat) : Int) := by
  unfold natL at h
  rw [List.getElem?_map] at h
  obtain ⟨m, h1, h2⟩ := Option.map_eq_some_iff.mp h
  exact ⟨m, h1, h2.symm⟩
theorem natL_app (a b : List Nat) : natL (a ++ b) = natL a ++ natL b := List.map_append
theorem band (a b : Nat) : Builtin.bitAnd ((a : Nat) : Int) ((b : Nat) : Int) = ((a &&& b : Nat) : Int) := by
  rw [PyProof.Rows.bitAnd_pp (Int.natCast_nonneg a) (Int.natCast_nonneg b), Int.toNat_natCast, Int.toNat_natCast]
theorem bor (a b : Nat) : Builtin.bitOr ((a : Nat) : Int) ((b : Nat) : Int) = ((a ||| b : Nat) : Int) := by
  rw [bitOr_nn (Int.natCast_nonneg a) (Int.natCast_nonneg b), Int.toNat_natCast, Int.toNat_natCast]
def sp_has : Sp := fun vs H Q _ => ∃ (m : Nat) (a : Addr) (os : List Nat), vs = [.int ((m : Nat) : Int), .ref a] ∧ H a = some (.lst (natL os)) ∧ Q (.bl (hasP m os)) H
/-- all least ones, or more than there may be -/
def cutM (full : List Nat) (most : Nat) : List Nat := if full.length ≤ most then full else full.take (most + 1)
def sp_lms : Sp := fun vs H Q _ => ∃ (a : Addr) (ms : List Nat) (most : Nat), vs = [.ref a, .int ((most : Nat) : Int)] ∧ H a = some (.lst (natL ms)) ∧ (∀ m ∈ ms, m < 32) ∧ ms.length ≤ 2000 ∧ ∀ H' r, Same H H' → H r = none → H' r = some (.lst (natL (cutM (minM (srtD ms)) most))) → Q (.ref r) H'
theorem minM_pre (s : List Nat) : ∀ t : List Nat, minM s <+: minM (s ++ t) := by
  refine snoc_ind ?_ ?_
  · rw [List.append_nil]
    exact List.prefix_refl _
  · intro t m ih
    rw [← List.append_assoc, minM_snoc]
    split
    · exact ih
    · exact ih.trans (List.prefix_append _ _)
theorem minM_le (s : List Nat) : (minM s).length ≤ s.length := by
  revert s
  refine snoc_ind (Nat.le_refl _) ?_
  intro s m ih
  rw [minM_snoc, List.length_append, List.length_singleton]
  split
  · omega
  · rw [List.length_append, List.length_singleton]
    omega
/-- numbers below a bound, each once -/
theorem few_le {l : List Nat} {b : Nat} (hn : l.Nodup) (h : ∀ x ∈ l, x < b) : l.length ≤ b := by
  have hp : ((List.range b).filter fun x => decide (x ∈ l)).Perm l := by
    refine (List.perm_ext_iff_of_nodup (List.nodup_range.sublist List.filter_sublist) hn).mpr fun x => ?_
    rw [List.mem_filter, List.mem_range, decide_eq_true_eq]
    exact ⟨fun z => z.2, fun z => ⟨h x z, z⟩⟩
  rw [← hp.length_eq]
  have := List.length_filter_le (fun x => decide (x ∈ l)) (List.range b)
  rw [List.length_range] at this
  exact this
theorem few_int {l : List Int} {b : Nat} (hn : l.Nodup) (hb : ∀ x ∈ l, 0 ≤ x ∧ x < (b : Int)) : l.length ≤ b := by
  have hp : (l.map Int.toNat).Nodup := by
    refine List.Pairwise.map _ (fun x y (h : x ∈ l ∧ y ∈ l ∧ x ≠ y) => ?_) (List.Pairwise.imp_of_mem (fun {x y} hx hy hne => ⟨hx, hy, hne⟩) hn)
    have h1 := hb x h.1
    have h2 := hb y h.2.1
    have h3 := h.2.2
    intro e
    omega
  have := few_le (b := b) hp fun x hx => by
    obtain ⟨y, hy, rfl⟩ := List.mem_map.mp hx
    have := hb y hy
    omega
  rw [List.length_map] at this
  exact this
theorem ints_srt {ns : List Int} {l : List Nat} (h : ns.Pairwise (· < ·)) (k : ∀ x, x ∈ ns ↔ x ∈ l.map fun n => ((n : Nat) : Int)) : ns = (srtD l).map fun n => ((n : Nat) : Int) := by
  obtain ⟨h1, h2⟩ := srtD_ok l
  refine pw_ext3 h (List.Pairwise.map _ (fun a b hab => by omega) h1) fun x => ?_
  rw [k, List.mem_map, List.mem_map]
  constructor
  · rintro ⟨a, ha, e⟩
    exact ⟨a, (h2 a).mpr ha, e⟩
  · rintro ⟨a, ha, e⟩
    exact ⟨a, (h2 a).mp ha, e⟩
section
variable {P : Program} {w : World} {K : PySem.W.Frag} {mg : Str → Option Value} {base : Heap}
theorem ok_has {f : Addr} {fd : FuncData} (F : Fun K "has_part" "has_part" s_has_part f fd) (M : Mg mg) : FnOk P w K mg base CX0 1 f fd ["mask", "others"] sp_has := by
  refine F.ok sc_has_part (fun vs H Q E h => ?_) (fun cdv A0 outer s0 H vs Q E hr h => ?_)
  · obtain ⟨m, a, os, rfl, _⟩ := h
    rfl
  · obtain ⟨m, a, os, rfl, ha, q⟩ := h
    refine ⟨_, (pss_cons (ps_for PassesOwn.never rfl (pi_list (pv 1)) (pg_name (i := 2) sc_has_part.nd rfl (.inl rfl)) (pss_one (ps_if (pt_cmpR op_eq (pe_op op_and (pv 2) (pv 0)) (pv 2) (nomark _)) (pss_one (ps_ret pe_bl)) pss_nil)))
      (pss_one (ps_ret pe_bl))), ?_⟩
    refine ⟨_, rfl, a, rfl, ⟨_, .of ha⟩, ?_⟩
    refine for_list (K := K) (a := a) (xs := natL os) (fun i σ Hi => Hi = H ∧ hasP m (os.take i) = false ∧ ∃ z, σ = [some (.int ((m : Nat) : Int)), some (.ref a), z]) ⟨rfl, rfl, _, rfl⟩ (fun i σ Hi _ hp => by rw [hp.1]; exact .of ha) (fun i y σ Hi hy hp => ?_) (fun σ Hn hp => ?_)
    · obtain ⟨rfl, hno, z, rfl⟩ := hp
      obtain ⟨o, ho, rfl⟩ := natL_get hy
      have etk : os.take (i + 1) = os.take i ++ [o] := by rw [List.take_add_one, ho]; rfl
      refine ⟨_, rfl, _, rfl, _, _, rfl, rfl, _, rfl, rfl, _, rfl, ?_⟩
      show (if decide (V.int (Builtin.bitAnd ((o : Nat) : Int) ((m : Nat) : Int)) = V.int ((o : Nat) : Int)) = true then _ else _)
      rw [band, dec_int, show (((o &&& m : Nat) : Int) == ((o : Nat) : Int)) = (o &&& m == o) by
        rw [Bool.eq_iff_iff, beq_iff_eq, beq_iff_eq]
        omega]
      refine ite2 (fun g => ?_) (fun g => ?_)
      · have : hasP m os = true := by
          unfold hasP
          exact List.any_eq_true.mpr ⟨o, List.mem_of_getElem? ho, g⟩
        rw [this] at q
        exact q
      · refine ⟨rfl, ?_, _, rfl⟩
        rw [etk]
        unfold hasP at hno ⊢
        rw [List.any_append, hno]
        show (false || ((o &&& m == o) || false)) = false
        cases h : (o &&& m == o) with
        | true => exact absurd h g
        | false => rfl
    · obtain ⟨rfl, hno, z, rfl⟩ := hp
      rw [natL_len, List.take_of_length_le (Nat.le_refl _)] at hno
      rw [hno] at q
      exact q
end

section
variable {P : Program} {w : World} {K : PySem.W.Frag} {mg : Str → Option Value} {base : Heap}
theorem ok_lms {f : Addr} {fd : FuncData} (F : Fun K "least_masks" "least_masks" s_least_masks f fd) (M : Mg mg) (c_has_part : Cl P w K mg base 1 "has_part" sp_has) : FnOk P w K mg base CX0 2 f fd ["masks", "most"] sp_lms := by
  refine F.ok sc_least_masks (fun vs H Q E h => ?_) (fun cdv A0 outer s0 H vs Q E hr h => ?_)
  · obtain ⟨a, ms, most, rfl, _⟩ := h
    rfl
  · obtain ⟨a, ms, most, rfl, ha, hb, hl, q⟩ := h
    obtain ⟨hs1, hs2⟩ := srtD_ok ms
    have lsr : (srtD ms).length ≤ 32 := few_le (hs1.imp fun h => by omega) fun x hx => hb x ((hs2 x).mp hx)
    refine ⟨_, (pss_cons (ps_set (i := 2) sc_least_masks.nd rfl (.inl rfl) (pe_lst pa_nil))
      (pss_cons (ps_for PassesOwn.never rfl (pi_list (pe_callB (sortedSetK w rfl) (by rfl) M.sorted (by decide +kernel) (pa_cons (pe_callTy (cr_setI w K rfl) (by rfl) M.set (by decide +kernel) (pa_cons (pv 0) pa_nil)) pa_nil))) (pg_name (i := 3) sc_least_masks.nd rfl (.inl rfl)) (pss_cons (ps_if (pt_not (pt_val (pe_u c_has_part hr (by first | decide | omega) (by rfl) (pa_cons (pv 3) (pa_cons (pv 2) pa_nil))))) (pss_one (ps_expr (pe_bmK K PySem.F.plainAttrs_list PySem.F.slot_list_append PySem.F.type_list_append mt_append (pv 2) (pa_cons (pv 3) pa_nil)))) pss_nil)
      (pss_one (ps_if (pt_cmpR op_gt (pe_callB (len_seqK K) (by rfl) M.len PySem.boot_len (pa_cons (pv 2) pa_nil)) (pv 1) (nomark _)) (pss_one ps_break) pss_nil))))
      (pss_one (ps_ret (pv 2))))), ?_⟩
    refine ⟨Nat.zero_le _, fun R nR => ?_⟩
    have sR := same_upd nR (o := .lst [])
    have eR : (upd H R (.lst [])) R = some (.lst (natL [])) := upd_same
    generalize upd H R (.lst []) = H1 at sR eR ⊢
    refine ⟨_, rfl, a, ms.map fun n => ((n : Nat) : Int), rfl, .of (by rw [sR _ _ ha]; unfold natL; rw [List.map_map]; rfl), ?_, fun p c L np hcl hLn hLm hLc => ?_⟩
    · rw [List.length_map]
      show _ + 1 < 4096
      omega
    have lc : c < 64 := by
      have := few_int (b := 32) hLn fun x hx => by
        obtain ⟨n, hn, rfl⟩ := List.mem_map.mp ((hLm x).mp hx)
        have := hb n hn
        omega
      omega
    have sp := same_upd np (o := SetO w p (fun j => decide (j ∈ ms.map fun n => ((n : Nat) : Int))) c)
    have ep : (upd H1 p (SetO w p (fun j => decide (j ∈ ms.map fun n => ((n : Nat) : Int))) c)) p = some (SetO w p (fun j => decide (j ∈ ms.map fun n => ((n : Nat) : Int))) c) := upd_same
    generalize upd H1 p (SetO w p (fun j => decide (j ∈ ms.map fun n => ((n : Nat) : Int))) c) = H2 at sp ep ⊢
    refine ⟨p, _, c, rfl, ep, lc, fun ns D hns hnm _ nD => ?_⟩
    have ens := ints_srt (l := ms) hns fun x => by rw [hnm, decide_eq_true_eq]
    have enl : ns.map V.int = natL (srtD ms) := by
      rw [ens]
      unfold natL
      rw [List.map_map]
      rfl
    rw [enl]
    have sD := same_upd nD (o := .lst (natL (srtD ms)))
    have eD : (upd H2 D (.lst (natL (srtD ms)))) D = some (.lst (natL (srtD ms))) := upd_same
    have eR2 := sD _ _ (sp _ _ eR)
    have nDR : D ≠ R := fun z => by rw [z, sp _ _ eR] at nD; cases nD
    have s03 := (sR.trans sp).trans sD
    generalize upd H2 D (.lst (natL (srtD ms))) = H3 at sD eD eR2 s03 ⊢
    refine ⟨D, rfl, ⟨_, .of eD⟩, ?_⟩
    -- the answer
    have fin : ∀ (Hn : Hp) (i : Nat), Same H Hn → Hn R = some (.lst (natL (minM ((srtD ms).take i)))) → ((minM ((srtD ms).take i)).length = most + 1 ∨ (i = (srtD ms).length ∧ (minM ((srtD ms).take i)).length ≤ most)) → Q (.ref R) Hn := fun Hn i sn eRn hor => by
      refine q Hn R sn nR ?_
      rw [eRn]
      congr 3
      have pre := minM_pre ((srtD ms).take i) ((srtD ms).drop i)
      rw [List.take_append_drop] at pre
      unfold cutM
      rcases hor with h | ⟨h1, h2⟩
      · have := pre.length_le
        rw [if_neg (by omega), ← h]
        exact List.prefix_iff_eq_take.mp pre
      · rw [h1, List.take_of_length_le (Nat.le_refl _)] at h2 ⊢
        rw [if_pos h2]
    refine for_list (K := K) (a := D) (xs := natL (srtD ms)) (fun i σ Hi => (∀ b o, b ≠ R → H3 b = some o → Hi b = some o) ∧ Hi R = some (.lst (natL (minM ((srtD ms).take i)))) ∧ (minM ((srtD ms).take i)).length ≤ most ∧ ∃ z, σ = [some (.ref a), some (.int ((most : Nat) : Int)), some (.ref R), z]) ⟨fun _ _ _ h => h, eR2, Nat.zero_le _, _, rfl⟩ (fun i σ Hi _ hp => .of (hp.1 _ _ nDR eD)) (fun i y σ Hi hy hp => ?_) (fun σ Hn hp => ?_)
    · obtain ⟨fi, eRi, li, z, rfl⟩ := hp
      obtain ⟨m, hm, rfl⟩ := natL_get hy
      have hi : i < (srtD ms).length := (List.getElem?_eq_some_iff.mp hm).1
      have etk : (srtD ms).take (i + 1) = (srtD ms).take i ++ [m] := by rw [List.take_add_one, hm]; rfl
      have si : ∀ {Hk : Hp}, (∀ b o, b ≠ R → H3 b = some o → Hk b = some o) → Same H Hk := fun f b o hb => f b o (ne_of_none hb nR) (s03 _ _ hb)
      have lm := minM_le ((srtD ms).take i)
      rw [List.length_take] at lm
      refine ⟨_, rfl, _, rfl, m, R, minM ((srtD ms).take i), rfl, eRi, _, rfl, ?_⟩
      have rest : ∀ (Hk : Hp), (∀ b o, b ≠ R → H3 b = some o → Hk b = some o) → Hk R = some (.lst (natL (minM ((srtD ms).take (i + 1))))) → (minM ((srtD ms).take (i + 1))).length ≤ most + 1 → ∀ (D0 : Ends), D0.bk = (fun σ' H' => ∃ v, σ'[2]? = some (some v) ∧ Q v H') → (∀ σ' H', ((∀ b o, b ≠ R → H3 b = some o → H' b = some o) ∧ H' R = some (.lst (natL (minM ((srtD ms).take (i + 1))))) ∧ (minM ((srtD ms).take (i + 1))).length ≤ most ∧ ∃ z, σ' = [some (.ref a), some (.int ((most : Nat) : Int)), some (.ref R), z]) → D0.nx σ' H') → tIfS (tTest (tOp (rI0 fun i j => V.bl (decide (j < i))) (tCB (fun xs H Q => ∃ p ys, xs = [V.ref p] ∧ (SqL K H p ys ∨ SqT K H p ys) ∧ Q (V.int ((ys.length : Nat) : Int)) H) (tCons (tVar 2) tNil)) (tVar 1))) tBreak tNext D0 [some (.ref a), some (.int ((most : Nat) : Int)), some (.ref R), some (.int ((m : Nat) : Int))] Hk := fun Hk fk ek lk D0 hbk hnx => by
        refine ⟨_, rfl, R, _, rfl, .inl (.of ek), _, rfl, _, _, rfl, rfl, _, rfl, ?_⟩
        rw [natL_len]
        refine ite2 (fun g => ?_) (fun g => ?_)
        · have g := of_decide_eq_true g
          show D0.bk _ _
          rw [hbk]
          exact ⟨_, rfl, fin Hk (i + 1) (si fk) ek (.inl (by omega))⟩
        · have g : ¬ ((most : Nat) : Int) < (((minM ((srtD ms).take (i + 1))).length : Nat) : Int) := fun z => g (decide_eq_true z)
          exact hnx _ _ ⟨fk, ek, by omega, _, rfl⟩
      cases hh : hasP m (minM ((srtD ms).take i)) with
      | true =>
        refine iteF ?_
        have e1 : minM ((srtD ms).take (i + 1)) = minM ((srtD ms).take i) := by rw [etk, minM_snoc, if_pos hh]
        exact rest Hi fi (by rw [e1]; exact eRi) (by rw [e1]; omega) _ rfl fun _ _ h => h
      | false =>
        refine iteT ?_
        have e1 : minM ((srtD ms).take (i + 1)) = minM ((srtD ms).take i) ++ [m] := by rw [etk, minM_snoc, if_neg (by rw [hh]; exact Bool.false_ne_true)]
        refine ⟨_, rfl, .inl ⟨rfl, _, .inl (.inl eRi)⟩, _, rfl, R, _, _, rfl, rfl, eRi, ?_, ?_⟩
        · rw [natL_len]
          exact Nat.lt_of_le_of_lt (m := 32) (by omega) (by decide)
        · refine rest _ (fun b o n hb => by rw [upd_ne n]; exact fi _ _ n hb) ?_ ?_ _ rfl fun _ _ h => h
          · rw [upd_same, e1, natL_app]
            rfl
          · rw [e1, List.length_append, List.length_singleton]
            omega
    · obtain ⟨fn, eRn, ln, z, rfl⟩ := hp
      rw [natL_len] at eRn ln
      exact ⟨_, rfl, fin Hn _ (fun b o hb => fn b o (ne_of_none hb nR) (s03 _ _ hb)) eRn (.inr ⟨rfl, ln⟩)⟩
end

/-! ### a name set to a dict by comprehension, on one line -/
section
variable {X : Cx}
theorem ps_setDc {i : Nat} {y : Str} {py : Pos} {kx vx tg iter : Expr} {ifs : List Expr} {scope : Scope} {own : List (Str × Nat)} {pos spos : Pos} {wi : TI} {g : TG} {tt : TT} {tk tv : TE} (hc : X.calm = true) (hN : X.N.Nodup) (hy : X.N[i]? = some y) (hyl : X.env.scope.names.lookup y = some .local)
    (hsw : swapsWith (.DictComp kx vx [⟨tg, iter, ifs, 0⟩] scope pos) (some (.Name y py)) spos.line X.env = pure true) (hi : PI X tg iter wi) (ok : BlkOk X.N X.env.scope scope own)
    (hg : ∀ (s : Shared) (H : Hp) (C : Addr) (cl : List (Str × Addr)) (fp : List Addr), PG (X.blk s H scope (compEnvC scope cl C X.env) fp) tg g) (ht : ∀ (s : Shared) (H : Hp) (C : Addr) (cl : List (Str × Addr)) (fp : List Addr), PTs (X.blk s H scope (compEnvC scope cl C X.env) fp) ifs tt)
    (hk : ∀ (s : Shared) (H : Hp) (C : Addr) (cl : List (Str × Addr)) (fp : List Addr), PE (X.blk s H scope (compEnvC scope cl C X.env) fp) kx tk)
    (he : ∀ (s : Shared) (H : Hp) (C : Addr) (cl : List (Str × Addr)) (fp : List Addr), PE (X.blk s H scope (compEnvC scope cl C X.env) fp) vx tv) (hs : ∀ x, foldedSetIterable iter X.env x = pure x := by intro _; rfl) :
    PS X (.Assign [.Name y py] (.DictComp kx vx [⟨tg, iter, ifs, 0⟩] scope pos) spos) (tAsg (tDc wi g tt tk tv (own.map (·.2))) (gName i)) := by
  refine ⟨fun pins s σ H D I h => ?_⟩
  rw [exec_Assign_Name_used _ _ _ _ hsw]
  refine wpAny_bind (wpAny_standAt (wpAny_bind ?_))
  show wpAny _ X.A (do let _ ← comprehension (.DictComp kx vx [⟨tg, iter, ifs, 0⟩] scope pos) scope X.env (firstIterPos [⟨tg, iter, ifs, 0⟩] pos) newDict false (eval iter X.env) (some (assign (.Name y py) X.env))) _ _ s
  have h : tDc wi g tt tk tv (own.map (·.2)) σ H (fun x H1 => gName i x σ H1 D.nx) := h
  refine wpAny_bind (thn (dc_core (Qf := fun _ s' => SP X pins D .next s') hc hN I hi ok hg ht hk he hs h fun L C s' m H' I' q hn f => ?_) fun _ s' hq => wpAny_pure (wpAny_pure hq))
  show wpAny _ _ (assign (.Name y py) X.env (.ref L)) _ _ _
  refine wpAny_assign_Name (store_ok2 (v := V.ref L) I' hN hy (.inl hyl) rfl (fun s2 I2 ⟨a, sb, ha⟩ => ?_) (.inr hyl))
  obtain ⟨f0, f1, f2, f3, f4, f5⟩ := f
  have haC : C ≠ a := by
    rcases ha with z | z
    · rw [z]; exact f1
    · exact fun e => f4 y a z e.symm
  refine ⟨m, hn.sameBut sb haC, fun h3 sb3 => ?_⟩
  exact ⟨_, H', I2.turned (t' := s2.toks) (fun b o hb e => (sb3.2 b hb).trans e) f0 f1 f3 f4 f5, q⟩
theorem sw_trueD {kx vx : Expr} {gs : List Comprehension} {scope : Scope} {pos py : Pos} {y : Str} {l : Nat} {env : Env} (hk : env.scope.kind = .function) (hy : env.scope.names.lookup y = some .local) (hl : (py.line == pos.line) = true)
    (ha : (scope.names.any fun (n, k) => n == y && (k == .local || k == .cell)) = false) : swapsWith (.DictComp kx vx gs scope pos) (some (.Name y py)) l env = pure true := by
  have ky : env.kindOf y = some .local := hy
  have hb : env.blockKind = .function := by unfold Env.blockKind; rw [hk]; rfl
  unfold swapsWith
  simp only [hb, ky, ha, Expr.pos, hl]
  rfl
end

/-! ### dicts by comprehension over a list -/
theorem dc_list {K : PySem.W.Frag} {a : Addr} {xs : List V} {g : TG} {tt : TT} {tk tv : TE} {vs : List Nat} {σ : L2.St} {H1 : Hp} {D : Addr} {Qd : Hp → Prop} (Pv : Nat → Hp → Prop) (h0 : Pv 0 (upd H1 D (.dK []))) (hl : ∀ i H, i ≤ xs.length → Pv i H → SqL K H a xs)
    (hs : ∀ i x H, xs[i]? = some x → Pv i H → g x (wipe σ vs) H fun σ2 H2 => wipe σ2 vs = wipe σ vs ∧ tt σ2 H2 fun b H3 =>
      if b = true then tk σ2 H3 fun y H4 => tv σ2 H4 fun z H5 => ∃ kvs k, y = kV k ∧ H5 D = some (.dK kvs) ∧ kvs.length < sizeLine ∧ Pv (i + 1) (upd H5 D (.dK (putK kvs k z))) else Pv (i + 1) H3) (hd : ∀ H, Pv xs.length H → Qd H) :
    ∃ W : Nat → Nat → Hp → Prop, (∃ m, W 0 m (upd H1 D (.dK []))) ∧ ∀ i m H, W i m H →
      ((Itl K a).stop i H ∧ Qd H) ∨ ((Itl K a).go i H ∧ ∃ Nx : Hp → Prop, (∀ H', Nx H' → ∃ m', m' < m ∧ W (i + 1) m' H') ∧ ∀ x H', (Itl K a).yld i H x H' → g x (wipe σ vs) H' fun σ2 H2 => wipe σ2 vs = wipe σ vs ∧ tt σ2 H2 fun b H3 =>
        if b = true then tk σ2 H3 fun y H4 => tv σ2 H4 fun z H5 => ∃ kvs k, y = kV k ∧ H5 D = some (.dK kvs) ∧ kvs.length < sizeLine ∧ Nx (upd H5 D (.dK (putK kvs k z))) else Nx H3) := by
  refine ⟨fun i m H => m = xs.length - i ∧ i ≤ xs.length ∧ Pv i H, ⟨xs.length, by simp, Nat.zero_le _, h0⟩, ?_⟩
  rintro i m H ⟨rfl, hi, p⟩
  have q := hl i H hi p
  by_cases hlt : i < xs.length
  · refine .inr ⟨⟨xs, xs[i], q, by simp [hlt]⟩, Pv (i + 1), fun H' p' => ⟨xs.length - (i + 1), by omega, rfl, hlt, p'⟩, fun x H' y => ?_⟩
    obtain ⟨e, y⟩ := y
    subst e
    exact hs i x _ (y xs q) p
  · have e : i = xs.length := by omega
    subst e
    exact .inl ⟨⟨xs, q, Nat.le_refl _⟩, hd H p⟩

/-- over a list's items with their places, into a dict -/
theorem dc_enum {w : World} {K : PySem.W.Frag} {a : Addr} {xs : List V} {g : TG} {tt : TT} {tk tv : TE} {vs : List Nat} {σ : L2.St} {H1 : Hp} {D : Addr} {Qd : Hp → Prop} (Pv : Nat → Hp → Prop) (h0 : Pv 0 (upd H1 D (.dK []))) (hl : ∀ i H, i ≤ xs.length → Pv i H → SqL K H a xs)
    (hs : ∀ i x H T, xs[i]? = some x → Pv i H → H T = none → g (.ref T) (wipe σ vs) (upd H T (.tup [.int ((i : Nat) : Int), x])) fun σ2 H2 => wipe σ2 vs = wipe σ vs ∧ tt σ2 H2 fun b H3 =>
      if b = true then tk σ2 H3 fun y H4 => tv σ2 H4 fun z H5 => ∃ kvs k, y = kV k ∧ H5 D = some (.dK kvs) ∧ kvs.length < sizeLine ∧ Pv (i + 1) (upd H5 D (.dK (putK kvs k z))) else Pv (i + 1) H3) (hd : ∀ H, Pv xs.length H → Qd H) :
    ∃ W : Nat → Nat → Hp → Prop, (∃ m, W 0 m (upd H1 D (.dK []))) ∧ ∀ i m H, W i m H →
      ((Ite K a).stop i H ∧ Qd H) ∨ ((Ite K a).go i H ∧ ∃ Nx : Hp → Prop, (∀ H', Nx H' → ∃ m', m' < m ∧ W (i + 1) m' H') ∧ ∀ x H', (Ite K a).yld i H x H' → g x (wipe σ vs) H' fun σ2 H2 => wipe σ2 vs = wipe σ vs ∧ tt σ2 H2 fun b H3 =>
        if b = true then tk σ2 H3 fun y H4 => tv σ2 H4 fun z H5 => ∃ kvs k, y = kV k ∧ H5 D = some (.dK kvs) ∧ kvs.length < sizeLine ∧ Nx (upd H5 D (.dK (putK kvs k z))) else Nx H3) := by
  refine ⟨fun i m H => m = xs.length - i ∧ i ≤ xs.length ∧ Pv i H, ⟨xs.length, by simp, Nat.zero_le _, h0⟩, ?_⟩
  rintro i m H ⟨rfl, hi, p⟩
  have q := hl i H hi p
  by_cases hlt : i < xs.length
  · refine .inr ⟨⟨xs, xs[i], q, by simp [hlt]⟩, Pv (i + 1), fun H' p' => ⟨xs.length - (i + 1), by omega, rfl, hlt, p'⟩, fun x H' y => ?_⟩
    obtain ⟨T, z, rfl, nT, rfl, hz⟩ := y
    exact hs i z H T (hz xs q) p nT
  · have e : i = xs.length := by omega
    subst e
    exact .inl ⟨⟨xs, q, Nat.le_refl _⟩, hd H p⟩

/-- over a list's items with their places, into a list -/
theorem lc_enum {K : PySem.W.Frag} {a : Addr} {xs : List V} {g : TG} {tt : TT} {te : TE} {vs : List Nat} {σ : L2.St} {H1 : Hp} {D : Addr} {Qd : Hp → Prop} (Pv : Nat → Hp → Prop) (h0 : Pv 0 (upd H1 D (.lst []))) (hl : ∀ i H, i ≤ xs.length → Pv i H → SqL K H a xs)
    (hs : ∀ i x H T, xs[i]? = some x → Pv i H → H T = none → g (.ref T) (wipe σ vs) (upd H T (.tup [.int ((i : Nat) : Int), x])) fun σ2 H2 => wipe σ2 vs = wipe σ vs ∧ tt σ2 H2 fun b H3 =>
      if b = true then te σ2 H3 fun y H4 => ∃ acc, H4 D = some (.lst acc) ∧ acc.length < sizeLine ∧ Pv (i + 1) (upd H4 D (.lst (acc ++ [y]))) else Pv (i + 1) H3) (hd : ∀ H, Pv xs.length H → Qd H) :
    ∃ W : Nat → Nat → Hp → Prop, (∃ m, W 0 m (upd H1 D (.lst []))) ∧ ∀ i m H, W i m H →
      ((Ite K a).stop i H ∧ Qd H) ∨ ((Ite K a).go i H ∧ ∃ Nx : Hp → Prop, (∀ H', Nx H' → ∃ m', m' < m ∧ W (i + 1) m' H') ∧ ∀ x H', (Ite K a).yld i H x H' → g x (wipe σ vs) H' fun σ2 H2 => wipe σ2 vs = wipe σ vs ∧ tt σ2 H2 fun b H3 =>
        if b = true then te σ2 H3 fun y H4 => ∃ acc, H4 D = some (.lst acc) ∧ acc.length < sizeLine ∧ Nx (upd H4 D (.lst (acc ++ [y]))) else Nx H3) := by
  refine ⟨fun i m H => m = xs.length - i ∧ i ≤ xs.length ∧ Pv i H, ⟨xs.length, by simp, Nat.zero_le _, h0⟩, ?_⟩
  rintro i m H ⟨rfl, hi, p⟩
  have q := hl i H hi p
  by_cases hlt : i < xs.length
  · refine .inr ⟨⟨xs, xs[i], q, by simp [hlt]⟩, Pv (i + 1), fun H' p' => ⟨xs.length - (i + 1), by omega, rfl, hlt, p'⟩, fun x H' y => ?_⟩
    obtain ⟨T, z, rfl, nT, rfl, hz⟩ := y
    exact hs i z H T (hz xs q) p nT
  · have e : i = xs.length := by omega
    subst e
    exact .inl ⟨⟨xs, q, Nat.le_refl _⟩, hd H p⟩

/-! ### the nodes of reasons and changes -/
theorem putK_le (kvs : List (Key × V)) (k : Key) (v : V) : (putK kvs k v).length ≤ kvs.length + 1 := by
  unfold putK
  split
  · rw [List.length_map]; omega
  · rw [List.length_append]; exact Nat.le_refl _
theorem flat_le {α β : Type} {f : α → List β} {B : Nat} : ∀ (l : List α), (∀ a ∈ l, (f a).length ≤ B) → (l.flatMap f).length ≤ l.length * B
  | [], _ => Nat.zero_le _
  | a :: l, h => by
    rw [List.flatMap_cons, List.length_append, List.length_cons, Nat.succ_mul]
    have h1 := flat_le l fun x hx => h x (List.mem_cons_of_mem _ hx)
    have h2 := h a List.mem_cons_self
    omega
def sp_fnode (C : Addr) : Sp := fun vs H Q E => ∃ (bit : Nat) (na oa : Addr) (now other : List Nat) (most : Nat), vs = [.int ((bit : Nat) : Int), .ref na, .ref oa, .int ((most : Nat) : Int)] ∧ H na = some (.lst (natL now)) ∧ H oa = some (.lst (natL other)) ∧ (∀ m ∈ now, m < 32) ∧ (∀ m ∈ other, m < 32) ∧ now.length ≤ 40 ∧ other.length ≤ 40 ∧
  (if (nodeR bit now other).length ≤ most then ∀ H' r, Same H H' → H r = none → H' r = some (.lst (natL (nodeR bit now other))) → Q (.ref r) H' else ∀ H', Same H H' → E (.ref C) none H')
def sp_lnode (C : Addr) : Sp := fun vs H Q E => ∃ (bit : Nat) (al : Bool) (na ta : Addr) (now other : List Nat) (most : Nat), vs = [.ref na, .ref ta, .int ((most : Nat) : Int)] ∧ H na = some (.lst (natL now)) ∧ H ta = some (.lst (natL (if al = true then other.map (bit ||| ·) else []))) ∧ now.length ≤ 40 ∧ other.length ≤ 40 ∧
  (if (nodeL bit al now other).length ≤ most then ∀ H' r, Same H H' → H r = none → H' r = some (.lst (natL (nodeL bit al now other))) → Q (.ref r) H' else ∀ H', Same H H' → E (.ref C) none H')
def sp_mbr : Sp := fun vs H Q _ => ∃ (m : Nat) (a : Addr) (ds : List Int), vs = [.int ((m : Nat) : Int), .ref a] ∧ H a = some (.lst (ds.map V.int)) ∧ ds.Nodup ∧ ds.length ≤ 10 ∧ ∀ H' r, Same H H' → H r = none → H' r = some (.lst ((mbr ds m).map V.int)) → Q (.ref r) H'
section
variable {P : Program} {w : World} {K : PySem.W.Frag} {mg : Str → Option Value} {base : Heap} {C : Addr}
theorem ok_mbr {f : Addr} {fd : FuncData} (F : Fun K "members" "members" s_members f fd) (M : Mg mg) : FnOk P w K mg base CX0 1 f fd ["mask", "entries"] sp_mbr := by
  refine F.ok sc_members (fun vs H Q E h => ?_) (fun cdv A0 outer s0 H vs Q E hr h => ?_)
  · obtain ⟨m, a, ds, rfl, _⟩ := h
    rfl
  · obtain ⟨m, a, ds, rfl, ha, hn, hl, q⟩ := h
    refine ⟨_, (pss_one (ps_ret (pe_lc (own := [("at", 2), ("entry", 3)]) (g := gTup K 2 (gCons (gName 2) (gCons (gName 3) (gNil)))) rfl sc_members.nd (pi_enum (by rfl) M.enumerate (pa_cons (pv 1) pa_nil)) (blkOk_by (N := N_members) (sc := defScope s_members) (by decide +kernel)) (fun _ _ _ _ _ => (pg_tup (by rfl) (pgs_cons (pg_name (i := 2) sc_members.nd rfl (.inl rfl)) (pgs_cons (pg_name (i := 3) sc_members.nd rfl (.inl rfl)) pgs_nil)))) (fun _ _ _ _ _ => (pts_one (pt_truthK K (pe_op op_and (pe_op op_shr (pv 0) (pv 2)) pe_int) (by intro _; rfl)))) (fun _ _ _ _ _ => (pv 3))))), ?_⟩
    refine ⟨_, rfl, a, _, rfl, .of ha, fun D nD => ?_⟩
    refine lc_enum (K := K) (a := a) (xs := ds.map V.int) (tt := fun σ H Q => tOp (rI0 fun i j => V.int (Builtin.bitAnd i j)) (tOp (rI (fun _ j => 0 ≤ j) fun i j => V.int (i / 2 ^ j.toNat)) (tVar 0) (tVar 2)) (tC (V.int 1)) σ H fun x H' => ∃ k, TruV K x H' k ∧ Q k H') (fun j Hj => Same H Hj ∧ Hj D = some (.lst (((ds.take j).filter fun x => m.testBit (ds.idxOf x)).map V.int))) ⟨same_upd nD, upd_same⟩ (fun j Hj _ hp => .of (hp.1 _ _ ha)) (fun j y Hj T hy hp nT => ?_) (fun H1 hp => ?_)
    · obtain ⟨sj, eD⟩ := hp
      rw [List.getElem?_map] at hy
      obtain ⟨x, hx, rfl⟩ := Option.map_eq_some_iff.mp hy
      have hj : j < ds.length := (List.getElem?_eq_some_iff.mp hx).1
      have ei : ds.idxOf x = j := by
        have hxj : ds[j] = x := by rw [List.getElem?_eq_getElem hj] at hx; exact Option.some.inj hx
        rw [← hxj]
        exact List.Nodup.idxOf_getElem hn j hj
      have etk : (ds.take (j + 1)).filter (fun x => m.testBit (ds.idxOf x)) = (ds.take j).filter (fun x => m.testBit (ds.idxOf x)) ++ if m.testBit j = true then [x] else [] := by
        rw [List.take_add_one, hx, List.filter_append]
        show _ ++ List.filter _ [x] = _
        rw [List.filter_cons, List.filter_nil, ei]
      have sT := same_upd nT (o := .tup [.int ((j : Nat) : Int), .int x])
      have eT : (upd Hj T (.tup [.int ((j : Nat) : Int), .int x])) T = some (.tup [.int ((j : Nat) : Int), .int x]) := upd_same
      have eDT := sT _ _ eD
      generalize upd Hj T (.tup [.int ((j : Nat) : Int), .int x]) = Hk at sT eT eDT ⊢
      refine ⟨T, _, rfl, .of eT, rfl, _, _, rfl, _, _, rfl, rfl, rfl, ?_⟩
      refine ⟨_, rfl, _, rfl, _, _, rfl, rfl, by omega, _, _, rfl, rfl, ?_⟩
      have ebit : Builtin.bitAnd (((m : Nat) : Int) / 2 ^ (((j : Nat) : Int)).toNat) 1 = if m.testBit j = true then 1 else 0 := by
        rw [Int.toNat_natCast, show ((m : Nat) : Int) / 2 ^ j = ((m / 2 ^ j : Nat) : Int) by rw [Int.natCast_ediv, Int.natCast_pow]; rfl, show (1 : Int) = ((1 : Nat) : Int) from rfl, band, Nat.and_one_is_mod, Nat.testBit_eq_decide_div_mod_eq]
        by_cases h : m / 2 ^ j % 2 = 1
        · rw [h, if_pos (decide_eq_true rfl)]
        · rw [if_neg (by rw [decide_eq_false h]; exact Bool.false_ne_true)]
          omega
      dsimp only
      rw [ebit]
      refine ⟨_, rfl, ?_⟩
      have eb : ((if m.testBit j = true then (1 : Int) else 0) != 0) = m.testBit j := by cases m.testBit j <;> rfl
      rw [eb]
      · refine ite2 (fun g => ?_) (fun g => ?_)
        · refine ⟨_, rfl, _, eDT, ?_, fun b o hb => ?_, ?_⟩
          · rw [List.length_map]
            exact Nat.lt_of_le_of_lt (m := 10) (Nat.le_trans (List.length_filter_le _ _) (by rw [List.length_take]; omega)) (by decide)
          · rw [upd_ne (ne_of_none hb nD)]
            exact sT _ _ (sj _ _ hb)
          · rw [upd_same, etk, if_pos g, List.map_append]
            rfl
        · refine ⟨sj.trans sT, ?_⟩
          rw [etk, if_neg g, List.append_nil]
          exact eDT
    · obtain ⟨s1, eD⟩ := hp
      rw [List.length_map, List.take_of_length_le (Nat.le_refl _)] at eD
      exact q H1 D s1 nD eD
end

section
variable {P : Program} {w : World} {K : PySem.W.Frag} {mg : Str → Option Value} {base : Heap} {C : Addr}
theorem ok_fnode {f : Addr} {fd : FuncData} (F : Fun K "forcing_node" "forcing_node" s_forcing_node f fd) (M : Mg mg) (PE_TooManyReasons : PlE K mg C "TooManyReasons") (c_least_masks : Cl P w K mg base 2 "least_masks" sp_lms) : FnOk P w K mg base (L2.CX P w) 3 f fd ["bit", "now", "other", "most"] (sp_fnode C) := by
  refine F.okX sc_forcing_node (fun vs H Q E h => ?_) (fun cdv A0 outer s0 H vs Q E hr h => ?_)
  · obtain ⟨bit, na, oa, now, other, most, rfl, _⟩ := h
    rfl
  · obtain ⟨bit, na, oa, now, other, most, rfl, hna, hoa, bn, bo, ln, lo, q⟩ := h
    refine ⟨_, (pss_cons (ps_set (i := 4) sc_forcing_node.nd rfl (.inl rfl) (pe_u c_least_masks hr (by first | decide | omega) (by rfl) (pa_cons (pe_lc2 (own := [("first", 8), ("second", 9)]) (vs1 := [9]) (g := gName 8) (g1 := gName 9) (tt := tYes) (tt1 := tYes) rfl sc_forcing_node.nd (pi_list (pv 1)) (blkOk_by (N := N_forcing_node) (sc := defScope s_forcing_node) (by decide +kernel)) (by decide) (fun _ _ _ _ _ => (pg_name (i := 8) sc_forcing_node.nd rfl (.inl rfl))) (fun _ _ _ _ _ => pts_nil) (fun _ _ _ _ _ => (pi_listK K (pv 2))) (fun _ _ _ _ _ => (pg_name (i := 9) sc_forcing_node.nd rfl (.inl rfl))) (fun _ _ _ _ _ => pts_nil) (fun _ _ _ _ _ => (pe_op op_or (pv 8) (pv 9)))) (pa_cons (pv 3) pa_nil))))
      (pss_cons (ps_set (i := 5) sc_forcing_node.nd rfl (.inr rfl) (pe_dc (own := [("mask", 7)]) (g := gName 7) (tt := tYes) rfl sc_forcing_node.nd (pi_list (pv 4)) (blkOk_by (N := N_forcing_node) (sc := defScope s_forcing_node) (by decide +kernel)) (fun _ _ _ _ _ => (pg_name (i := 7) sc_forcing_node.nd rfl (.inl rfl))) (fun _ _ _ _ _ => pts_nil) (fun _ _ _ _ _ => (pv 7)) (fun _ _ _ _ _ => pe_bl)))
      (pss_cons (ps_set (i := 6) sc_forcing_node.nd rfl (.inl rfl) (pe_op op_cat (pv 4) (pe_lc (own := [("mask", 7)]) (g := gName 7) rfl sc_forcing_node.nd (pi_list (pv 1)) (blkOk_by (N := N_forcing_node) (sc := defScope s_forcing_node) (by decide +kernel)) (fun _ _ _ _ _ => (pg_name (i := 7) sc_forcing_node.nd rfl (.inl rfl))) (fun _ _ _ _ _ => (pts_one (pt_cmp (pc_dnotin (hu_of hr) (pv 7) (pv 5))))) (fun _ _ _ _ _ => (pe_op op_or (pv 0) (pv 7))))))
      (pss_cons (ps_if (pt_cmpR op_gt (pe_callB (len_seqK K) (by rfl) M.len PySem.boot_len (pa_cons (pv 6) pa_nil)) (pv 3) (nomark _)) (pss_one (ps_raiseP PE_TooManyReasons rfl (takes_of rfl rfl rfl rfl) (by rfl))) pss_nil)
      (pss_one (ps_ret (pv 6))))))), ?_⟩
    -- the joined sets
    refine ⟨_, rfl, na, rfl, ⟨_, .of hna⟩, fun D nD => ?_⟩
    refine ⟨fun i m Hi => m = now.length - i ∧ i ≤ now.length ∧ Same H Hi ∧ Hi D = some (.lst (natL ((now.take i).flatMap fun a => other.map fun b => a ||| b))), ⟨now.length, rfl, Nat.zero_le _, same_upd nD, upd_same⟩, ?_⟩
    rintro i m0 Hi ⟨rfl, hi, si, eD⟩
    have hnai := si _ _ hna
    have hoai := si _ _ hoa
    by_cases hlt : i < now.length
    · refine .inr ⟨⟨natL now, _, .of hnai, List.getElem?_eq_getElem (by rw [natL_len]; exact hlt)⟩, fun H' => i + 1 ≤ now.length ∧ Same H H' ∧ H' D = some (.lst (natL ((now.take (i + 1)).flatMap fun a => other.map fun b => a ||| b))), fun H' h => ⟨now.length - (i + 1), by omega, rfl, h⟩, fun x H' y => ?_⟩
      obtain ⟨rfl, y⟩ := y
      obtain ⟨a0, ha0, rfl⟩ := natL_get (y _ (.of hnai))
      have etk : (now.take (i + 1)).flatMap (fun a => other.map fun b => a ||| b) = (now.take i).flatMap (fun a => other.map fun b => a ||| b) ++ other.map fun b => a0 ||| b := by
        rw [List.take_add_one, ha0, List.flatMap_append]
        show _ ++ List.flatMap _ [a0] = _
        rw [List.flatMap_singleton]
      have lpre : ((now.take i).flatMap fun a => other.map fun b => a ||| b).length ≤ 40 * 40 := by
        refine Nat.le_trans (flat_le (B := 40) _ fun x _ => by rw [List.length_map]; exact lo) (Nat.mul_le_mul_right _ ?_)
        rw [List.length_take]
        omega
      rw [etk]
      generalize (now.take i).flatMap (fun a => other.map fun b => a ||| b) = pre at eD lpre ⊢
      refine ⟨rfl, _, rfl, oa, rfl, ⟨_, .of hoai⟩, ?_⟩
      refine ⟨fun j k Hj => k = other.length - j ∧ j ≤ other.length ∧ Same H Hj ∧ Hj D = some (.lst (natL (pre ++ (other.take j).map fun b => a0 ||| b))), ⟨other.length, rfl, Nat.zero_le _, si, by rw [List.take_zero, List.map_nil, List.append_nil]; exact eD⟩, ?_⟩
      rintro j k0 Hj ⟨rfl, hj, sj, eDj⟩
      have hoaj := sj _ _ hoa
      by_cases hlt2 : j < other.length
      · refine .inr ⟨⟨natL other, _, .of hoaj, List.getElem?_eq_getElem (by rw [natL_len]; exact hlt2)⟩, fun H' => j + 1 ≤ other.length ∧ Same H H' ∧ H' D = some (.lst (natL (pre ++ (other.take (j + 1)).map fun b => a0 ||| b))), fun H' h => ⟨other.length - (j + 1), by omega, rfl, h⟩, fun x H' y => ?_⟩
        obtain ⟨rfl, y⟩ := y
        obtain ⟨b0, hb0, rfl⟩ := natL_get (y _ (.of hoaj))
        refine ⟨rfl, _, rfl, _, rfl, _, _, rfl, rfl, _, eDj, ?_, by omega, fun b o hb => ?_, ?_⟩
        · rw [natL_len, List.length_append, List.length_map, List.length_take]
          exact Nat.lt_of_le_of_lt (m := 2000) (by omega) (by decide)
        · rw [upd_ne (ne_of_none hb nD)]
          exact sj _ _ hb
        · have ej : pre ++ (other.take (j + 1)).map (fun b => a0 ||| b) = (pre ++ (other.take j).map fun b => a0 ||| b) ++ [a0 ||| b0] := by
            rw [List.take_add_one, hb0, List.map_append, ← List.append_assoc]
            rfl
          rw [upd_same, ej, natL_app (pre ++ (other.take j).map fun b => a0 ||| b)]
          show some (HO.lst (_ ++ [V.int (Builtin.bitOr ((a0 : Nat) : Int) ((b0 : Nat) : Int))])) = _
          rw [bor]
          rfl
      · obtain rfl : j = other.length := by omega
        rw [List.take_of_length_le (Nat.le_refl _)] at eDj
        exact .inl ⟨⟨natL other, .of hoaj, by rw [natL_len]; exact Nat.le_refl _⟩, by omega, sj, eDj⟩
    obtain rfl : i = now.length := by omega
    rw [List.take_of_length_le (Nat.le_refl _)] at eD
    refine .inl ⟨⟨natL now, .of hnai, by rw [natL_len]; exact Nat.le_refl _⟩, ?_⟩
    have b32 : ∀ m ∈ (now.flatMap fun a => other.map fun b => a ||| b), m < 32 := fun m hm => by
      obtain ⟨x, hx, hm⟩ := List.mem_flatMap.mp hm
      obtain ⟨y, hy, rfl⟩ := List.mem_map.mp hm
      exact Nat.or_lt_two_pow (n := 5) (bn x hx) (bo y hy)
    have lfl : (now.flatMap fun a => other.map fun b => a ||| b).length ≤ 2000 := by
      refine Nat.le_trans (flat_le (B := 40) _ fun x _ => by rw [List.length_map]; exact lo) ?_
      have := Nat.mul_le_mul_right 40 ln
      omega
    refine ⟨_, rfl, D, _, most, rfl, eD, b32, lfl, fun H2 ba s2 nba eB => ?_⟩
    have eR : minM (srtD (now.flatMap fun a => other.map fun b => a ||| b)) = bothR now other := rfl
    rw [eR] at eB
    have lR : (bothR now other).length ≤ 32 := by
      refine few_le (minM_ok _ (srtD_ok _).1).2.2 fun x hx => ?_
      exact b32 x ((srtD_ok _).2 x |>.mp (((minM_ok _ (srtD_ok _).1).1 x).mp hx).1)
    have s02 := si.trans s2
    have eN : nodeR bit now other = bothR now other ++ (now.filter fun m => !decide (m ∈ bothR now other)).map (bit ||| ·) := rfl
    have lB : (cutM (bothR now other) most).length ≤ 32 := by
      unfold cutM
      split
      · exact lR
      · rw [List.length_take]
        omega
    have hB : (bothR now other).length ≤ most ∧ cutM (bothR now other) most = bothR now other ∨ most < (bothR now other).length ∧ (cutM (bothR now other) most).length = most + 1 := by
      unfold cutM
      by_cases h : (bothR now other).length ≤ most
      · rw [if_pos h]
        exact .inl ⟨h, rfl⟩
      · rw [if_neg h, List.length_take]
        exact .inr ⟨by omega, by omega⟩
    generalize bothR now other = R at eN hB lR eB lB
    generalize cutM R most = B at eB hB lB
    -- those that are enough
    refine ⟨_, rfl, ba, rfl, ⟨_, .of eB⟩, fun en nen => ?_⟩
    refine dc_list (K := K) (a := ba) (xs := natL B) (fun j Hj => Same H2 Hj ∧ ∃ kvs, Hj en = some (.dK kvs) ∧ kvs.length ≤ j ∧ ∀ x : Nat, (valV kvs (.inl ((x : Nat) : Int))).isSome = decide (x ∈ B.take j)) ⟨same_upd nen, [], upd_same, Nat.le_refl _, fun x => by simp [valV]⟩ (fun j Hj _ hp => .of (hp.1 _ _ eB)) (fun j y Hj hy hp => ?_) (fun H3 hp => ?_)
    · obtain ⟨sj, kvs, eE, lk, hv⟩ := hp
      obtain ⟨b0, hb0, rfl⟩ := natL_get hy
      have hj : j < B.length := (List.getElem?_eq_some_iff.mp hb0).1
      refine ⟨rfl, _, rfl, kvs, .inl ((b0 : Nat) : Int), rfl, eE, Nat.lt_of_le_of_lt (m := 32) (by omega) (by decide), fun b o hb => ?_, _, upd_same, ?_, fun x => ?_⟩
      · rw [upd_ne (ne_of_none hb nen)]
        exact sj _ _ hb
      · have := putK_le kvs (.inl ((b0 : Nat) : Int) : Key) (.bl true)
        omega
      · rw [valV_put, List.take_add_one, hb0]
        by_cases e : x = b0
        · subst e
          rw [if_pos rfl]
          show true = decide (x ∈ B.take j ++ [x])
          exact (decide_eq_true (List.mem_append_right _ (List.mem_singleton.mpr rfl))).symm
        · rw [if_neg (fun z => e (by have := Sum.inl.inj z; omega)), hv x]
          show _ = decide (x ∈ B.take j ++ [b0])
          rw [decide_eq_decide, List.mem_append]
          exact ⟨.inl, fun z => z.elim id fun z => absurd (List.mem_singleton.mp z) e⟩
    obtain ⟨s23, kvs, eE, _, hv⟩ := hp
    rw [natL_len, List.take_of_length_le (Nat.le_refl _)] at hv
    have s03 := s02.trans s23
    have hna3 := s03 _ _ hna
    have eB3 := s23 _ _ eB
    -- all of them
    refine ⟨_, rfl, _, rfl, na, rfl, ⟨_, .of hna3⟩, fun D2 nD2 => ?_⟩
    refine lc_list (K := K) (a := na) (xs := natL now) (tt := tB (tDNotIn (tVar 7) (tVar 5))) (fun j Hj => Same H3 Hj ∧ Hj D2 = some (.lst (natL (((now.take j).filter fun m => !decide (m ∈ B)).map (bit ||| ·))))) ⟨same_upd nD2, upd_same⟩ (fun j Hj _ hp => .of (hp.1 _ _ hna3)) (fun j y Hj hy hp => ?_) (fun H4 hp => ?_)
    · obtain ⟨sj, eD2⟩ := hp
      obtain ⟨m, hm, rfl⟩ := natL_get hy
      have hj : j < now.length := (List.getElem?_eq_some_iff.mp hm).1
      have etk : (now.take (j + 1)).filter (fun m => !decide (m ∈ B)) = (now.take j).filter (fun m => !decide (m ∈ B)) ++ if (!decide (m ∈ B)) = true then [m] else [] := by
        rw [List.take_add_one, hm, List.filter_append]
        show _ ++ List.filter _ [m] = _
        rw [List.filter_cons, List.filter_nil]
      refine ⟨rfl, _, rfl, _, rfl, en, _, rfl, .inl ⟨kvs, .inl ((m : Nat) : Int), .of (sj _ _ eE), rfl, rfl⟩, _, rfl, ?_⟩
      rw [hv m]
      refine ite2 (fun g => ?_) (fun g => ?_)
      · refine ⟨_, rfl, _, rfl, _, _, rfl, rfl, _, eD2, ?_, fun b o hb => ?_, ?_⟩
        · rw [natL_len, List.length_map]
          exact Nat.lt_of_le_of_lt (m := 40) (Nat.le_trans (List.length_filter_le _ _) (by rw [List.length_take]; omega)) (by decide)
        · rw [upd_ne (ne_of_none hb nD2)]
          exact sj _ _ hb
        · rw [upd_same, etk, if_pos g, List.map_append, natL_app]
          show some (HO.lst (_ ++ [V.int (Builtin.bitOr ((bit : Nat) : Int) ((m : Nat) : Int))])) = _
          rw [bor]
          rfl
      · refine ⟨sj, ?_⟩
        rw [etk, if_neg g, List.append_nil]
        exact eD2
    obtain ⟨s34, eD2⟩ := hp
    rw [natL_len, List.take_of_length_le (Nat.le_refl _)] at eD2
    have lflt : (now.filter fun m => !decide (m ∈ B)).length ≤ 40 := Nat.le_trans (List.length_filter_le _ _) ln
    refine ⟨ba, D2, _, _, rfl, rfl, s34 _ _ eB3, eD2, ?_, fun fa nfa => ?_⟩
    · rw [natL_len, natL_len, List.length_map]
      exact Nat.le_trans (m := 100) (by omega) (by decide)
    rw [← natL_app]
    have s4f := same_upd nfa (o := .lst (natL (B ++ (now.filter fun m => !decide (m ∈ B)).map (bit ||| ·))))
    have efa : (upd H4 fa (.lst (natL (B ++ (now.filter fun m => !decide (m ∈ B)).map (bit ||| ·))))) fa = some (.lst (natL (B ++ (now.filter fun m => !decide (m ∈ B)).map (bit ||| ·)))) := upd_same
    have s04 := s03.trans s34
    have nfH := s04.free nfa
    generalize upd H4 fa (.lst (natL (B ++ (now.filter fun m => !decide (m ∈ B)).map (bit ||| ·)))) = H5 at s4f efa ⊢
    have s05 := s04.trans s4f
    refine ⟨_, rfl, fa, _, rfl, .inl (.of efa), _, rfl, _, _, rfl, rfl, _, rfl, ?_⟩
    rw [natL_len]
    rcases hB with ⟨h1, rfl⟩ | ⟨h1, h2⟩
    · rw [← eN] at efa ⊢
      refine ite2 (fun g => ?_) (fun g => ?_)
      · have g := of_decide_eq_true g
        rw [if_neg (by omega)] at q
        exact q H5 s05
      · have g : ¬ ((most : Nat) : Int) < (((nodeR bit now other).length : Nat) : Int) := fun z => g (decide_eq_true z)
        rw [if_pos (by omega)] at q
        exact ⟨_, rfl, q H5 fa s05 nfH efa⟩
    · rw [decide_eq_true (by rw [List.length_append]; omega)]
      have : ¬ (nodeR bit now other).length ≤ most := by
        rw [eN, List.length_append]
        omega
      rw [if_neg this] at q
      exact iteT (q H5 s05)
end

/-! ### a set of numbers, made by a comprehension without tests (the way of PpSet's sets of truth values, over L2.SetO) -/
section
open PpSet
variable {X : Cx}
/-- the new set is at D; W tells of the turn, of a measure, of the heap -/
def tScI (w : World) (wi : TI) (g : TG) (te : TE) (vs : List Nat) : TE := fun σ H Q =>
  wi σ H fun J Hi => ∀ D, Hi D = none → ∃ W : Nat → Nat → Hp → Prop,
    (∃ m, W 0 m (upd Hi D (SetO w D (fun _ => false) 0))) ∧
    ∀ i m Hw, W i m Hw →
      (J.stop i Hw ∧ Q (.ref D) Hw) ∨
      (J.go i Hw ∧ ∃ Nx : Hp → Prop, (∀ Hn, Nx Hn → ∃ m2, m2 < m ∧ W (i + 1) m2 Hn) ∧
        ∀ x Hy, J.yld i Hw x Hy → g x (wipe σ vs) Hy fun τ Hz => wipe τ vs = wipe σ vs ∧
          te τ Hz fun y Ha => ∃ (k : Int) (S : Int → Bool) (n : Nat), y = .int k ∧ Ha D = some (SetO w D S n) ∧ n + 1 < scanBound ∧
            Nx (upd Ha D (SetO w D (fun j => S j || decide (j = k)) (if S k = true then n else n + 1))))
theorem pe_scI {elt tg iter : Expr} {scope : Scope} {own : List (PySem.Str × Nat)} {pos : Pos} {wi : TI} {g : TG} {te : TE} (hc : X.calm = true) (hN : X.N.Nodup) (hi : PI X tg iter wi) (ok : BlkOk X.N X.env.scope scope own)
    (hg : ∀ s0 H0 C0 cl0 fp0, PG (X.blk s0 H0 scope (compEnvC scope cl0 C0 X.env) fp0) tg g)
    (he : ∀ s0 H0 C0 cl0 fp0, PE (X.blk s0 H0 scope (compEnvC scope cl0 C0 X.env) fp0) elt te)
    (hs : ∀ x, foldedSetIterable iter X.env x = pure x := by intro _; rfl) : PE X (.SetComp elt [⟨tg, iter, [], 0⟩] scope pos) (tScI X.w wi g te (own.map (·.2))) := by
  refine ⟨fun pins s σ H Q I q0 => ?_⟩
  rw [eval_SetComp]
  have cellsThere : ∀ nk ∈ scope.names, nk.2 = .free → ∃ c, X.env.cells.lookup nk.1 = some c := by
    intro nk hm hk
    cases ok.free nk hm hk with
    | inl z => exact I.ok.has _ (.inl z)
    | inr z => exact I.ok.has _ (.inr z)
  refine wpAny_comprehension_free (use := none) rfl hs (closure_ok cellsThere) ok.kind
    (fun nk hm hk => by rw [ok.uniq nk hm, hk])
    (thn (hi.run pins s σ H _ I q0) fun v0 t1 w1 => thn w1 fun itv t2 w2 => ?_)
  obtain ⟨ia, fp, tn, J, Hj, e0, Ij, T, sj, fj, qj⟩ := w2
  subst e0
  refine newSet_ok (newEnv_comp ?_)
  generalize eD : t2.heap.objs.size = D
  have nD : Hj D = none := Ij.hok.fresh (Nat.le_of_eq eD)
  obtain ⟨W, ⟨m0, w0⟩, turn⟩ := qj D nD
  generalize et3 : ({ t2 with heap := t2.heap.push { cls := .type "set", dict := none, data := .set #[] 0 (.fresh 0 0 (!X.w.params.followText "set-order")) } } : Shared) = t3
  have heap3 : t3.heap = t2.heap.push { cls := .type "set", dict := none, data := .set #[] 0 (.fresh 0 0 (!X.w.params.followText "set-order")) } := by
    rw [← et3]
  have Id : Inv X pins σ (upd Hj D (SetO X.w D (fun _ => false) 0)) t3 := by
    rw [← et3]
    refine Ij.laid (t' := t2.toks) (fun bb oo ee => Heap.get?_push_of_some _ ee) (Nat.le_of_eq eD) ?_
    rw [← eD]
    exact setO_new (setR_fresh X.w)
  have below : ∀ b ∈ fp, b < t2.heap.objs.size := by
    intro b hb
    obtain ⟨oo, ee, _⟩ := T.obj _ _ sj b hb
    exact Heap.lt_size ee
  have fd3 : ∀ b ∈ fp, FpOk X pins (upd Hj D (SetO X.w D (fun _ => false) 0)) b ∧ b < t3.heap.objs.size := by
    intro b hb
    have lt := below b hb
    constructor
    · refine ⟨?_, (fj b hb).2⟩
      rw [upd_ne (by rw [← eD]; exact Nat.ne_of_lt lt)]
      exact (fj b hb).1
    · rw [heap3, Heap.size_push]
      exact Nat.lt_succ_of_lt lt
  have sj3 : tn 0 t3.heap := T.keep _ _ _ sj fun b _ oo ee => by
    rw [heap3]
    exact Heap.get?_push_of_some _ ee
  have Ib := block_start Id ok hN fd3
  have G := hg t3 (upd Hj D (SetO X.w D (fun _ => false) 0)) t3.heap.objs.size
    (cellsFrom (t3.heap.objs.size + 1) scope.names (cloFrom X.env.cells scope.names [])) fp
  have EE := he t3 (upd Hj D (SetO X.w D (fun _ => false) 0)) t3.heap.objs.size
    (cellsFrom (t3.heap.objs.size + 1) scope.names (cloFrom X.env.cells scope.names [])) fp
  have off : ∀ b ∈ fp, (upd Hj D (SetO X.w D (fun _ => false) 0)) b = none := fun b hb => (fd3 b hb).1.1
  show codeAny _ _ (.compStart (.SetComp elt [⟨tg, iter, [], 0⟩] scope pos) 0 (.ref ia) (.ref D)
    (compEnvC scope (cellsFrom (t3.heap.objs.size + 1) scope.names (cloFrom X.env.cells scope.names [])) t3.heap.objs.size X.env)) _
    { t3 with heap := pushCells (t3.heap.push { cls := .type "dict", data := .dict #[] }) scope.names }
  generalize ece : compEnvC scope (cellsFrom (t3.heap.objs.size + 1) scope.names (cloFrom X.env.cells scope.names []))
    t3.heap.objs.size X.env = ce at Ib G EE ⊢
  have locC : ce.locals = t3.heap.objs.size := by
    subst ece
    rfl
  generalize eHd : upd Hj D (SetO X.w D (fun _ => false) 0) = Hd at Id Ib G EE w0 off fd3
  generalize et4 : ({ t3 with heap := pushCells (t3.heap.push { cls := .type "dict", data := .dict #[] }) scope.names } : Shared) = t4 at Ib ⊢
  have sj4 : tn 0 t4.heap := T.keep _ _ _ sj3 fun b _ oo ee => by
    rw [← et4]
    exact pushCells_keeps _ _ _ _ (Heap.get?_push_of_some _ ee)
  have iterOk : ∀ {τ : L2.St} {Hx : Hp} {sx : Shared}, Inv (X.blk t3 Hd scope ce fp) [] τ Hx sx → (∀ b ∈ fp, Hx b = none) →
      ∀ b ∈ fp, FpOk (X.blk t3 Hd scope ce fp) [] Hx b := by
    intro τ Hx sx Ix hx b hb
    refine ⟨hx b hb, (Ix.ok.exf b hb).1, Ix.ok.exfs b hb, .inl hb, fun y c ee => (Ix.ok.exf b hb).2 y c ee, fun pp hpp => ?_⟩
    exact absurd (show pp ∈ ([] : List (Addr × Obj)) ++ [] from hpp) (by simp)
  refine codeAny_compStart_set ?lp (T.self X.A 0 _ _ _ sj4 ?lp)
  refine compLoopS_any (fun n sx => ∃ i Hx, Inv (X.blk t3 Hd scope ce fp) [] (wipe σ (own.map (·.2))) Hx sx ∧ tn i sx.heap ∧ (∀ b ∈ fp, Hx b = none) ∧ W i n Hx)
    ?_ m0 ⟨0, Hd, Ib, sj4, off, w0⟩
  rintro n t5 ⟨i, H5, I5, sj5, off5, w5⟩
  rcases turn i n H5 w5 with ⟨stop, fin⟩ | ⟨go, Nx, hNx, step⟩
  · have done := T.done (X.blk t3 Hd scope ce fp) rfl rfl rfl hc i [] t5 _ H5 (fun _ _ => False) I5 (iterOk I5 off5) sj5 stop
    refine thnF done fun r t6 ⟨er, I6⟩ => ?_
    subst er
    have Iout : Inv X pins σ H5 t6 := Id.call' (ch := fp) I6.os I6.base I6.hok I6.bare fun b hb =>
      ⟨(fd3 b hb).1.2.2.2.1, (fd3 b hb).1.2.1, (fd3 b hb).1.2.2.2.2.1, (fd3 b hb).1.2.2.2.2.2⟩
    have freeC : H5 t3.heap.objs.size = none := by
      have z : H5 ce.locals = none := I6.free
      rwa [locC] at z
    obtain ⟨mm, hns, _⟩ := I6.loc
    have hns : t6.heap.Ns ce.locals mm := hns
    rw [locC] at hns
    obtain ⟨f0, f1, f2, f3, f4, f5⟩ := Id.fpOk (Nat.le_refl _) freeC
    exact ⟨mm, hns, fun h'' sb => ⟨.ref D, H5, Iout.turned (t' := t6.toks) (fun bb oo hb ee => (sb.2 bb hb).trans ee) f0 f1 f3 f4 f5, rfl, fin⟩⟩
  · have item := T.item (X.blk t3 Hd scope ce fp) rfl rfl rfl hc i [] t5 _ H5 (fun _ _ => False) I5 (iterOk I5 off5) sj5 go
    refine thnF item fun r t6 ⟨u, er, w6⟩ => ?_
    subst er
    refine thnF w6 fun _ t7 ⟨y, H7, I7, r7, y7, sj7, off7⟩ => ?_
    have I7p := I7.pinned (iterOk I7 off7) (T.obj _ _ sj7)
    refine thnF (G.run _ t7 _ H7 y u _ I7p r7 (step y H7 y7)) fun _ t8 ⟨τ, H8, I8, hw, q8⟩ => ?_
    refine wpAny_tests_nil ?_
    rw [if_pos rfl]
    refine thnF (EE.run _ t8 τ H8 _ I8 q8) fun z t9 ⟨yv, H9, I9, r9, k, S, m, ey, eD9, room, nx⟩ => ?_
    subst ey
    refine thnF (mt_sadd (X := X.blk t3 Hd scope ce fp) _ t9 τ H9 (.ref D) [.int k] (.ref D) [z] (fun _ Hx => Nx Hx) I9 rfl (.cons r9 .nil) ⟨D, k, S, m, rfl, rfl, eD9, room, nx⟩) fun _ t10 ⟨_, H10, I10, _, nx10⟩ => ?_
    obtain ⟨m2, lt, w10⟩ := hNx H10 nx10
    have kept : ∀ b ∈ fp, ∀ oo, t7.heap.get? b = some oo → t10.heap.get? b = some oo ∧ H10 b = none := by
      intro b hb oo ee
      have pp := I10.pin (b, oo) (List.mem_append_right _ (List.mem_append_right _ (mem_pinsAt hb ee)))
      exact ⟨pp.1, pp.2.1⟩
    have len8 : (wipe σ (own.map (·.2))).length = τ.length := by rw [← hw, wipe_length]
    refine ⟨m2, lt, i + 1, H10, (I10.unpinned (pins := [])).weak len8 (fun j v ee => ?_), T.keep _ _ _ sj7 fun b hb oo ee => (kept b hb oo ee).1, fun b hb => ?_, w10⟩
    · rw [← hw] at ee
      exact (wipe_some ee).1
    · obtain ⟨oo, ee, _⟩ := T.obj _ _ sj7 b hb
      exact (kept b hb oo ee).2
end

/-- a walk over a list that fills a set of numbers -/
theorem scl_list {w : World} {K : PySem.W.Frag} {a D : Addr} {xs : List V} {g : TG} {te : TE} {vs : List Nat} {σ : L2.St} {H1 : Hp} {Qd : Hp → Prop} (Pv : Nat → Hp → Prop) (h0 : Pv 0 (upd H1 D (SetO w D (fun _ => false) 0)))
    (hl : ∀ i H, i ≤ xs.length → Pv i H → SqL K H a xs)
    (hs : ∀ i x H, xs[i]? = some x → Pv i H → g x (wipe σ vs) H fun τ Hz => wipe τ vs = wipe σ vs ∧ te τ Hz fun y Ha => ∃ (k : Int) (S : Int → Bool) (n : Nat), y = .int k ∧ Ha D = some (SetO w D S n) ∧ n + 1 < scanBound ∧
      Pv (i + 1) (upd Ha D (SetO w D (fun j => S j || decide (j = k)) (if S k = true then n else n + 1))))
    (hd : ∀ H, Pv xs.length H → Qd H) :
    ∃ W : Nat → Nat → Hp → Prop, (∃ m, W 0 m (upd H1 D (SetO w D (fun _ => false) 0))) ∧
    ∀ i m Hw, W i m Hw →
      ((Itl K a).stop i Hw ∧ Qd Hw) ∨
      ((Itl K a).go i Hw ∧ ∃ Nx : Hp → Prop, (∀ Hn, Nx Hn → ∃ m2, m2 < m ∧ W (i + 1) m2 Hn) ∧
        ∀ x Hy, (Itl K a).yld i Hw x Hy → g x (wipe σ vs) Hy fun τ Hz => wipe τ vs = wipe σ vs ∧
          te τ Hz fun y Ha => ∃ (k : Int) (S : Int → Bool) (n : Nat), y = .int k ∧ Ha D = some (SetO w D S n) ∧ n + 1 < scanBound ∧
            Nx (upd Ha D (SetO w D (fun j => S j || decide (j = k)) (if S k = true then n else n + 1)))) := by
  refine ⟨fun i m H => m = xs.length - i ∧ i ≤ xs.length ∧ Pv i H, ⟨xs.length, rfl, Nat.zero_le _, h0⟩, ?_⟩
  rintro i m H ⟨em, hi, pv⟩
  subst em
  have sq := hl i H hi pv
  by_cases lt : i < xs.length
  · right
    refine ⟨⟨xs, xs[i], sq, by simp [lt]⟩, Pv (i + 1), fun Hn pn => ⟨xs.length - (i + 1), by omega, rfl, lt, pn⟩, fun x Hy yl => ?_⟩
    obtain ⟨e, yl⟩ := yl
    subst e
    exact hs i x _ (yl xs sq) pv
  · left
    have e : i = xs.length := by omega
    subst e
    exact ⟨⟨xs, sq, Nat.le_refl _⟩, hd H pv⟩
/-! ### on which input rows a condition depends -/
def dpn (a : Bd) (e : Int) : Prop := ∃ w t, Bd.nd e w t ∈ subN a
theorem indep : ∀ {a : Bd} {e : Int}, ¬ dpn a e → ∀ (r : Int → Bool) (b : Bool), a.ev (setR r e b) = a.ev r
  | .lf _, _, _, _, _ => rfl
  | .nd x w t, e, h, r, b => by
    have hx : x ≠ e := fun z => h ⟨w, t, by subst z; exact List.mem_cons_self⟩
    have hw : ¬ dpn w e := fun ⟨p, q, hm⟩ => h ⟨p, q, List.mem_cons_of_mem _ (List.mem_append_left _ hm)⟩
    have ht : ¬ dpn t e := fun ⟨p, q, hm⟩ => h ⟨p, q, List.mem_cons_of_mem _ (List.mem_append_right _ hm)⟩
    show (if setR r e b x = true then t.ev (setR r e b) else w.ev (setR r e b)) = if r x = true then t.ev r else w.ev r
    rw [setR_ne hx, indep hw, indep ht]
theorem sub_wf {es : List Int} : ∀ {a x : Bd}, Wf es a → x ∈ subN a → Wf es x
  | .lf _, _, _, h => by cases h
  | .nd e w t, x, hw, h => by
    obtain ⟨w1, w2⟩ := wf_kids hw
    rcases List.mem_cons.mp h with rfl | h
    · exact hw
    · rcases List.mem_append.mp h with h | h
      · exact sub_wf w1 h
      · exact sub_wf w2 h
theorem setR_comm {r : Int → Bool} {x y : Int} {b c : Bool} (h : x ≠ y) : setR (setR r x b) y c = setR (setR r y c) x b := by
  funext z
  unfold setR
  by_cases h1 : z = x
  · subst h1
    rw [if_neg h, if_pos rfl, if_pos rfl]
  · rw [if_neg h1]
    by_cases h2 : z = y
    · have h3 : ¬ y = x := fun z => h z.symm
      simp [h1, h2, h3]
    · simp [h1, h2]
theorem dpn_iff {es : List Int} (hn : es.Nodup) {a : Bd} (h : Wf es a) {e : Int} : dpn a e ↔ ∃ r, a.ev (setR r e true) ≠ a.ev (setR r e false) := by
  constructor
  · induction h with
    | lf => rintro ⟨_, _, hm⟩; cases hm
    | @skip y es a _ ih =>
      rw [List.nodup_cons] at hn
      exact ih hn.2
    | @here x es w t hw ht hne iw it =>
      have hn0 := hn
      rw [List.nodup_cons] at hn
      rintro ⟨p, q, hm⟩
      have ev : ∀ (r : Int → Bool), (Bd.nd x w t).ev r = if r x = true then t.ev r else w.ev r := fun _ => rfl
      rcases List.mem_cons.mp hm with z | hm
      · cases z
        have : ∃ r, w.ev r ≠ t.ev r := by
          apply Classical.byContradiction
          intro hh
          exact hne (canon hn.2 hw ht fun r => Classical.byContradiction fun z => hh ⟨r, z⟩)
        obtain ⟨r, hr⟩ := this
        refine ⟨r, ?_⟩
        rw [ev, ev, setR_same, setR_same, if_pos rfl, if_neg Bool.false_ne_true, hw.away hn.1, ht.away hn.1]
        exact fun z => hr z.symm
      · rcases List.mem_append.mp hm with hm2 | hm2
        · have hex : e ≠ x := fun z => by
            subst z
            exact hn.1 (sub_wf hw hm2).none_of
          obtain ⟨r, hr⟩ := iw hn.2 ⟨p, q, hm2⟩
          refine ⟨setR r x false, ?_⟩
          rw [ev, ev, setR_ne (Ne.symm hex), setR_ne (Ne.symm hex), setR_same, if_neg Bool.false_ne_true, if_neg Bool.false_ne_true, setR_comm (Ne.symm hex), setR_comm (Ne.symm hex), hw.away hn.1, hw.away hn.1]
          exact hr
        · have hex : e ≠ x := fun z => by
            subst z
            exact hn.1 (sub_wf ht hm2).none_of
          obtain ⟨r, hr⟩ := it hn.2 ⟨p, q, hm2⟩
          refine ⟨setR r x true, ?_⟩
          rw [ev, ev, setR_ne (Ne.symm hex), setR_ne (Ne.symm hex), setR_same, if_pos rfl, if_pos rfl, setR_comm (Ne.symm hex), setR_comm (Ne.symm hex), ht.away hn.1, ht.away hn.1]
          exact hr
  · rintro ⟨r, hr⟩
    apply Classical.byContradiction
    intro hh
    exact hr (by rw [indep hh, indep hh])
theorem filter_add {es : List Int} (hn : es.Nodup) {k : Int} (hk : k ∈ es) (S : Int → Bool) : (es.filter fun j => S j || decide (j = k)).length = if S k = true then (es.filter S).length else (es.filter S).length + 1 := by
  have none : ∀ {l : List Int}, k ∉ l → l.filter (fun j => S j || decide (j = k)) = l.filter S := fun {l} h => List.filter_congr fun x hx => by
    rw [decide_eq_false (fun z => h (by subst z; exact hx)), Bool.or_false]
  induction es with
  | nil => cases hk
  | cons x es ih =>
    rw [List.nodup_cons] at hn
    rw [List.filter_cons, List.filter_cons]
    rcases List.mem_cons.mp hk with z | hk
    · subst z
      rw [decide_eq_true rfl, Bool.or_true, if_pos rfl, none hn.1]
      cases S k <;> simp
    · have hxk : x ≠ k := fun z => by subst z; exact hn.1 hk
      rw [decide_eq_false hxk, Bool.or_false]
      have := ih hn.2 hk
      cases S x with
      | true =>
        rw [if_pos rfl, if_pos rfl, List.length_cons, List.length_cons, this]
        split <;> rfl
      | false => rw [if_neg Bool.false_ne_true, if_neg Bool.false_ne_true, this]
def sp_dep (C : Addr) (K : PySem.W.Frag) : Sp := fun vs H Q _ => ∃ s N es L c a, vs = [.ref s.p, .int ((c : Nat) : Int)] ∧ Sto C K H s N es L ∧ At N c a ∧ Wf es a ∧ a.sz ≤ 1000 ∧ es.length < 60 ∧
  ∀ H' p (ds : List Int), Same H H' → H p = none → H' p = some (.lst (ds.map V.int)) → ds.Pairwise (· < ·) → (∀ e, e ∈ ds ↔ dpn a e) → Q (.ref p) H'
section
variable {P : Program} {w : World} {K : PySem.W.Frag} {mg : Str → Option Value} {base : Heap}
theorem ok_dep {f C : Addr} {fd : FuncData} (F : Fun K "depends" "Diagrams.depends" s_Diagrams_depends f fd) (M : Mg mg) (G : DgC K C mg) (c_Diagrams_table : ClM P w K mg base 3 C "table" (sp_table C K)) : FnOk P w K mg base CX0 4 f fd ["self", "condition"] (sp_dep C K) := by
  refine F.ok sc_Diagrams_depends (fun vs H Q E h => ?_) (fun cdv A outer s H vs Q E hr h => ?_)
  · obtain ⟨s, N, es, L, c, a, rfl, _⟩ := h
    rfl
  · obtain ⟨s, N, es, L, c, a, rfl, st, hA, wA, hsz, hl, q⟩ := h
    have hn := st.es_nd
    refine ⟨_, (pss_cons (ps_asg (pe_mt c_Diagrams_table hr (by first | decide | omega) (pv 0) (pa_cons (pv 1) pa_nil)) (pg_tup (by rfl) (pgs_cons (pg_name (i := 2) sc_Diagrams_depends.nd rfl (.inl rfl)) (pgs_cons (pg_name (i := 3) sc_Diagrams_depends.nd rfl (.inl rfl)) pgs_nil))))
      (pss_one (ps_ret (pe_callB (cr_sortedSet rfl) (by rfl) M.sorted (by decide +kernel) (pa_cons (pe_scI (own := [("entry", 4), ("_", 3), ("_", 3)]) (g := gTup K 3 (gCons (gName 4) (gCons (gName 3) (gCons (gName 3) (gNil))))) rfl sc_Diagrams_depends.nd (pi_list (pv 2)) (blkOk_by (N := N_Diagrams_depends) (sc := defScope s_Diagrams_depends) (by decide +kernel)) (fun _ _ _ _ _ => (pg_tup (by rfl) (pgs_cons (pg_name (i := 4) sc_Diagrams_depends.nd rfl (.inl rfl)) (pgs_cons (pg_name (i := 3) sc_Diagrams_depends.nd rfl (.inl rfl)) (pgs_cons (pg_name (i := 3) sc_Diagrams_depends.nd rfl (.inl rfl)) pgs_nil))))) (fun _ _ _ _ _ => (pv 4))) pa_nil))))), ?_⟩
    refine ⟨_, rfl, st.go (by decide +kernel) (by decide +kernel) (by decide +kernel) ⟨_, rfl, ?_⟩⟩
    refine ⟨s, N, es, L, c, a, rfl, st, hA, hsz, fun H1 q1 nl xs s1 e1 nnl enl dxs => ?_⟩
    have hiff := post_iff (a := a) (acc := []) (by intro _ _ _ h; cases h)
    have hnds := post_nds a [] (by intro _ h; cases h)
    have hwf := post_wf a [] wA (by intro _ h; cases h)
    generalize post [] a = acc at e1 dxs hiff hnds hwf
    refine ⟨q1, _, rfl, .of e1, rfl, _, _, rfl, _, _, rfl, rfl, ?_⟩
    have lxs : xs.length = acc.length := by rw [DpAll.len dxs, List.length_map]
    refine ⟨_, rfl, nl, rfl, ⟨_, .of enl⟩, fun D nD => ?_⟩
    refine scl_list (K := K) (a := nl) (xs := xs) (fun i Hi => Same H1 Hi ∧ ∃ S : Int → Bool, Hi D = some (SetO w D S (es.filter S).length) ∧ ∀ e, S e = true ↔ ∃ b ∈ acc.take i, ∃ p q, b = Bd.nd e p q) ⟨same_upd nD, fun _ => false, ?_, fun e => ⟨fun h => (by cases h), fun ⟨b, hb, _⟩ => (by cases hb)⟩⟩ (fun i Hi _ hp => .of (hp.1 _ _ enl)) (fun i y Hi hy hp => ?_) (fun Hn hp => ?_)
    · rw [upd_same, show (es.filter fun _ : Int => false).length = 0 by rw [List.filter_eq_nil_iff.mpr (fun _ _ h => (by cases h))]; rfl]
      rfl
    · obtain ⟨si, S, eS, hS⟩ := hp
      have hi : i < acc.length := by rw [← lxs]; exact (List.getElem?_eq_some_iff.mp hy).1
      obtain ⟨u, hu, hd⟩ := DpAll.get dxs (show (acc.map (rowD acc))[i]? = some (rowD acc acc[i]) by rw [List.getElem?_map, List.getElem?_eq_getElem hi]; rfl)
      obtain rfl : u = y := Option.some.inj (hu.symm.trans hy)
      obtain ⟨e, wt, tt', hei⟩ := hnds acc[i] (List.getElem_mem hi)
      have hee : e ∈ es := by
        have := hwf acc[i] (List.getElem_mem hi)
        rw [hei] at this
        exact this.none_of
      rw [hei] at hd
      obtain ⟨ra, rs, rfl, hrs, hra⟩ := dp_tup (ds := [.int e, .int ((nmb acc wt : Nat) : Int), .int ((nmb acc tt' : Nat) : Int)]) hd
      have : rs = [.int e, .int ((nmb acc wt : Nat) : Int), .int ((nmb acc tt' : Nat) : Int)] := by
        cases hra with
        | cons g1 g2 =>
          cases g1
          cases g2 with
          | cons g3 g4 =>
            cases g3
            cases g4 with
            | cons g5 g6 =>
              cases g5
              cases g6
              rfl
      subst this
      refine ⟨ra, _, rfl, SqT.ext si hrs, rfl, _, _, rfl, _, _, rfl, _, _, rfl, rfl, rfl, ?_⟩
      refine ⟨_, rfl, e, S, _, rfl, eS, ?_, ?_, fun j => S j || decide (j = e), ?_, fun j => ?_⟩
      · have := List.length_filter_le S es
        exact Nat.lt_of_le_of_lt (m := 100) (by omega) (by decide)
      · intro z o hz
        rw [upd_ne (ne_of_none hz nD)]
        exact si _ _ hz
      · rw [upd_same, filter_add hn hee]
        rfl
      · show (S j || decide (j = e)) = true ↔ _
        rw [Bool.or_eq_true, hS, decide_eq_true_iff, List.take_add_one, List.getElem?_eq_getElem hi, hei]
        constructor
        · rintro (⟨b, hb, p, q, rfl⟩ | rfl)
          · exact ⟨_, List.mem_append_left _ hb, p, q, rfl⟩
          · exact ⟨_, List.mem_append_right _ (List.mem_singleton.mpr rfl), wt, tt', rfl⟩
        · rintro ⟨b, hb, p, q, rfl⟩
          rcases List.mem_append.mp hb with hb | hb
          · exact .inl ⟨_, hb, p, q, rfl⟩
          · have := List.mem_singleton.mp hb
            cases this
            exact .inr rfl
    · obtain ⟨sn, S, eS, hS⟩ := hp
      rw [lxs, List.take_of_length_le (Nat.le_refl _)] at hS
      refine ⟨D, S, _, rfl, eS, ?_, fun ds p hds hmem hlen np => ?_⟩
      · have := List.length_filter_le S es
        omega
      · refine q _ p ds ((s1.trans sn).trans (same_upd np)) (s1.free (sn.free np)) upd_same hds fun e => ?_
        rw [hmem, hS]
        constructor
        · rintro ⟨b, hb, p, q, rfl⟩
          rcases (hiff _).mp hb with h | h
          · cases h
          · exact ⟨p, q, h⟩
        · rintro ⟨p, q, h⟩
          exact ⟨_, (hiff _).mpr (.inr h), p, q, rfl⟩
end

/-- a def as a value, and its promise -/
structure Hd (P : Program) (w : World) (K : PySem.W.Frag) (mg : Str → Option Value) (base : Heap) (k : Nat) (f : Addr) (sp : Sp) : Prop where
  ex : ∃ (fd : FuncData) (ps : List Str), FnOk P w K mg base CX0 k f fd ps sp ∧ PySem.W.keepIn K (.ref f) = true ∧ Binds K fd ps []
theorem Cl.hd {P : Program} {w : World} {K : PySem.W.Frag} {mg : Str → Option Value} {base : Heap} {k : Nat} {x : Str} {sp : Sp} (c : Cl P w K mg base k x sp) : ∃ f, mg x = some (.ref f) ∧ Hd P w K mg base k f sp := by
  obtain ⟨f, fd, ps, F, hm, kp, b⟩ := c.ex
  exact ⟨f, hm, fd, ps, F, kp, b⟩

/-! ### the cheapest changes -/
abbrev Ck := Nat × Nat × List Int
def lexI : List Int → List Int → Bool
  | [], [] => false
  | [], _ :: _ => true
  | _ :: _, [] => false
  | x :: xs, y :: ys => if x = y then lexI xs ys else decide (x < y)
theorem lexI_irr : ∀ xs : List Int, lexI xs xs = false
  | [] => rfl
  | x :: xs => by
    unfold lexI
    rw [if_pos rfl]
    exact lexI_irr xs
theorem lexI_tri : ∀ xs ys : List Int, lexI xs ys = false → lexI ys xs = false → xs = ys
  | [], [], _, _ => rfl
  | [], _ :: _, h, _ => by cases h
  | _ :: _, [], _, h => by cases h
  | x :: xs, y :: ys, h, g => by
    unfold lexI at h g
    by_cases e : x = y
    · subst e
      rw [if_pos rfl] at h g
      rw [lexI_tri xs ys h g]
    · rw [if_neg e] at h
      rw [if_neg (Ne.symm e)] at g
      have h := of_decide_eq_false h
      have g := of_decide_eq_false g
      omega
theorem lexI_ntr : ∀ xs ys zs : List Int, lexI xs ys = false → lexI ys zs = false → lexI xs zs = false
  | [], [], _, _, g => g
  | [], _ :: _, _, h, _ => by cases h
  | _ :: _, [], [], _, _ => rfl
  | _ :: _, [], _ :: _, _, g => by cases g
  | _ :: _, _ :: _, [], _, _ => rfl
  | x :: xs, y :: ys, z :: zs, h, g => by
    unfold lexI at h g ⊢
    by_cases e : x = y
    · subst e
      rw [if_pos rfl] at h
      by_cases e2 : x = z
      · subst e2
        rw [if_pos rfl] at g ⊢
        exact lexI_ntr xs ys zs h g
      · rw [if_neg e2] at g ⊢
        exact g
    · rw [if_neg e] at h
      have h := of_decide_eq_false h
      by_cases e2 : y = z
      · subst e2
        rw [if_neg e]
        exact decide_eq_false h
      · rw [if_neg e2] at g
        have g := of_decide_eq_false g
        rw [if_neg (by omega)]
        exact decide_eq_false (by omega)
def kLt (a b : Ck) : Bool := if a.1 = b.1 then if a.2.1 = b.2.1 then lexI a.2.2 b.2.2 else decide (a.2.1 < b.2.1) else decide (a.1 < b.1)
theorem kLt_irr (a : Ck) : kLt a a = false := by
  unfold kLt
  rw [if_pos rfl, if_pos rfl]
  exact lexI_irr _
theorem kLt_tri {a b : Ck} (h : kLt a b = false) (g : kLt b a = false) : a = b := by
  obtain ⟨a1, a2, a3⟩ := a
  obtain ⟨b1, b2, b3⟩ := b
  unfold kLt at h g
  dsimp only at h g
  by_cases e : a1 = b1
  · subst e
    rw [if_pos rfl] at h g
    by_cases e2 : a2 = b2
    · subst e2
      rw [if_pos rfl] at h g
      rw [lexI_tri _ _ h g]
    · rw [if_neg e2] at h
      rw [if_neg (Ne.symm e2)] at g
      have := of_decide_eq_false h
      have := of_decide_eq_false g
      omega
  · rw [if_neg e] at h
    rw [if_neg (Ne.symm e)] at g
    have := of_decide_eq_false h
    have := of_decide_eq_false g
    omega
theorem kLt_ntr {a b c : Ck} (h : kLt a b = false) (g : kLt b c = false) : kLt a c = false := by
  obtain ⟨a1, a2, a3⟩ := a
  obtain ⟨b1, b2, b3⟩ := b
  obtain ⟨c1, c2, c3⟩ := c
  unfold kLt at h g ⊢
  dsimp only at h g ⊢
  by_cases e : a1 = b1
  · subst e
    rw [if_pos rfl] at h
    by_cases f : a1 = c1
    · subst f
      rw [if_pos rfl] at g ⊢
      by_cases e2 : a2 = b2
      · subst e2
        rw [if_pos rfl] at h
        by_cases f2 : a2 = c2
        · subst f2
          rw [if_pos rfl] at g ⊢
          exact lexI_ntr _ _ _ h g
        · rw [if_neg f2] at g ⊢
          exact g
      · rw [if_neg e2] at h
        have h := of_decide_eq_false h
        by_cases f2 : b2 = c2
        · subst f2
          rw [if_neg e2]
          exact decide_eq_false h
        · rw [if_neg f2] at g
          have g := of_decide_eq_false g
          rw [if_neg (by omega)]
          exact decide_eq_false (by omega)
    · rw [if_neg f] at g ⊢
      exact g
  · rw [if_neg e] at h
    have h := of_decide_eq_false h
    by_cases f : b1 = c1
    · subst f
      rw [if_neg e]
      exact decide_eq_false h
    · rw [if_neg f] at g
      have g := of_decide_eq_false g
      rw [if_neg (by omega)]
      exact decide_eq_false (by omega)
theorem kLt_asym {a b : Ck} (h : kLt a b = true) : kLt b a = false := by
  cases g : kLt b a with
  | false => rfl
  | true =>
    exfalso
    obtain ⟨a1, a2, a3⟩ := a
    obtain ⟨b1, b2, b3⟩ := b
    unfold kLt at h g
    dsimp only at h g
    by_cases e : a1 = b1
    · subst e
      rw [if_pos rfl] at h g
      by_cases e2 : a2 = b2
      · subst e2
        rw [if_pos rfl] at h g
        have asym : ∀ xs ys : List Int, lexI xs ys = true → lexI ys xs = true → False := by
          intro xs
          induction xs with
          | nil => intro ys h g; cases ys with | nil => cases h | cons y ys => cases g
          | cons x xs ih =>
            intro ys h g
            cases ys with
            | nil => cases h
            | cons y ys =>
              unfold lexI at h g
              by_cases e : x = y
              · subst e
                rw [if_pos rfl] at h g
                exact ih ys h g
              · rw [if_neg e] at h
                rw [if_neg (Ne.symm e)] at g
                have := of_decide_eq_true h
                have := of_decide_eq_true g
                omega
        exact asym _ _ h g
      · rw [if_neg e2] at h
        rw [if_neg (Ne.symm e2)] at g
        have := of_decide_eq_true h
        have := of_decide_eq_true g
        omega
    · rw [if_neg e] at h
      rw [if_neg (Ne.symm e)] at g
      have := of_decide_eq_true h
      have := of_decide_eq_true g
      omega
def wtn (e : Int) (c : Option Nat) (x : Option Ck) : Option Ck := match c, x with
  | some c, some (r, n, t) => some (c + r, n + 1, e :: t)
  | _, _ => none
def mnO (x y : Option Ck) : Option Ck := match x, y with
  | none, y => y
  | some x, none => some x
  | some x, some y => if kLt y x = true then some y else some x
def best (pr : List Int) (cst : Int → Option Nat) : Bd → Option Ck
  | .lf b => if b = true then some (0, 0, []) else none
  | .nd e w t => if e ∈ pr then mnO (best pr cst t) (wtn e (cst e) (best pr cst w)) else mnO (best pr cst w) (wtn e (cst e) (best pr cst t))
/-- the cost of a set -/
def cS (cst : Int → Option Nat) (p : List Int) : Nat := (p.map fun x => (cst x).getD 0).sum
def kyP (cst : Int → Option Nat) (p : List Int) : Ck := (cS cst p, p.length, p)
/-- a change that may be made, behind which it holds -/
def Vld (pr : List Int) (cst : Int → Option Nat) (es : List Int) (F : (Int → Bool) → Bool) (p : List Int) : Prop := p.Sublist es ∧ (∀ x ∈ p, (cst x).isSome = true) ∧ F (fun x => decide (x ∈ pr) != decide (x ∈ p)) = true
def Bst (cst : Int → Option Nat) (V : List Int → Prop) (o : Option Ck) : Prop := match o with
  | none => ∀ p, ¬ V p
  | some k => (∃ p, V p ∧ k = kyP cst p) ∧ ∀ p, V p → kLt (kyP cst p) k = false
theorem Bst.uniq {cst : Int → Option Nat} {V : List Int → Prop} {x y : Option Ck} (h : Bst cst V x) (g : Bst cst V y) : x = y := by
  cases x with
  | none =>
    cases y with
    | none => rfl
    | some k =>
      obtain ⟨⟨p, hp, _⟩, _⟩ := g
      exact absurd hp (h p)
  | some k =>
    cases y with
    | none =>
      obtain ⟨⟨p, hp, _⟩, _⟩ := h
      exact absurd hp (g p)
    | some l =>
      obtain ⟨⟨p, hp, rfl⟩, h2⟩ := h
      obtain ⟨⟨q, hq, rfl⟩, g2⟩ := g
      rw [kLt_tri (g2 p hp) (h2 q hq)]
theorem kyP_cons (cst : Int → Option Nat) (e : Int) (c : Nat) (hc : cst e = some c) (q : List Int) : kyP cst (e :: q) = (c + (kyP cst q).1, (kyP cst q).2.1 + 1, e :: (kyP cst q).2.2) := by
  unfold kyP cS
  rw [List.map_cons, List.sum_cons, hc]
  rfl
theorem kLt_cons (e : Int) (c : Nat) (x y : Ck) : kLt (c + x.1, x.2.1 + 1, e :: x.2.2) (c + y.1, y.2.1 + 1, e :: y.2.2) = kLt x y := by
  unfold kLt
  dsimp only
  have h1 : (c + x.1 = c + y.1) ↔ (x.1 = y.1) := by omega
  have h2 : (x.2.1 + 1 = y.2.1 + 1) ↔ (x.2.1 = y.2.1) := by omega
  have h3 : lexI (e :: x.2.2) (e :: y.2.2) = lexI x.2.2 y.2.2 := by
    show (if e = e then _ else _) = _
    rw [if_pos rfl]
  have h4 : decide (x.2.1 + 1 < y.2.1 + 1) = decide (x.2.1 < y.2.1) := by rw [decide_eq_decide]; omega
  have h5 : decide (c + x.1 < c + y.1) = decide (x.1 < y.1) := by rw [decide_eq_decide]; omega
  rw [h3, h4, h5]
  simp only [h1, h2]
theorem best_ok {pr : List Int} {cst : Int → Option Nat} {es : List Int} {a : Bd} (h : Wf es a) : es.Nodup → Bst cst (Vld pr cst es a.ev) (best pr cst a) := by
  induction h with
  | @lf es b =>
    intro _
    cases b with
    | false => exact fun p hp => by cases hp.2.2
    | true =>
      refine ⟨⟨[], ⟨List.nil_sublist _, (by intro _ h; cases h), rfl⟩, rfl⟩, fun p _ => ?_⟩
      unfold kLt kyP
      dsimp only
      split
      · split
        · cases p <;> rfl
        · exact decide_eq_false (by omega)
      · exact decide_eq_false (by omega)
  | @skip y es a ha ih =>
    intro hn
    rw [List.nodup_cons] at hn
    have ih := ih hn.2
    have evq : ∀ q : List Int, a.ev (fun x => decide (x ∈ pr) != decide (x ∈ y :: q)) = a.ev (fun x => decide (x ∈ pr) != decide (x ∈ q)) := fun q => wf_agree ha fun x hx => by
      have : x ≠ y := fun z => hn.1 (z ▸ hx)
      rw [show decide (x ∈ y :: q) = decide (x ∈ q) by rw [decide_eq_decide, List.mem_cons]; exact ⟨fun z => z.elim (fun z => absurd z this) id, .inr⟩]
    have split : ∀ p, Vld pr cst (y :: es) a.ev p → ∃ q, Vld pr cst es a.ev q ∧ kLt (kyP cst p) (kyP cst q) = false := fun p ⟨h1, h2, h3⟩ => by
      cases h1 with
      | cons _ h1 => exact ⟨p, ⟨h1, h2, h3⟩, kLt_irr _⟩
      | @cons_cons q _ _ h1 =>
        refine ⟨q, ⟨h1, fun x hx => h2 x (List.mem_cons_of_mem _ hx), by rw [← evq]; exact h3⟩, ?_⟩
        obtain ⟨c, hc⟩ := Option.isSome_iff_exists.mp (h2 y List.mem_cons_self)
        rw [kyP_cons cst y c hc]
        unfold kLt
        dsimp only
        split
        · rw [if_neg (by omega)]
          exact decide_eq_false (by omega)
        · exact decide_eq_false (by omega)
    cases hb : best pr cst a with
    | none =>
      rw [hb] at ih
      intro p hp
      obtain ⟨q, hq, _⟩ := split p hp
      exact ih q hq
    | some k =>
      rw [hb] at ih
      obtain ⟨⟨p, ⟨h1, h2, h3⟩, e⟩, h4⟩ := ih
      refine ⟨⟨p, ⟨h1.cons _, h2, h3⟩, e⟩, fun p' hp' => ?_⟩
      obtain ⟨q, hq, lt⟩ := split p' hp'
      exact kLt_ntr lt (h4 q hq)
  | @here x es w t hw ht hne iw it =>
    intro hn
    rw [List.nodup_cons] at hn
    have iw := iw hn.2
    have it := it hn.2
    -- the changes without x, with x
    have gen : ∀ (A B : Bd), Wf es A → Wf es B → Bst cst (Vld pr cst es A.ev) (best pr cst A) → Bst cst (Vld pr cst es B.ev) (best pr cst B) →
        (∀ ρ : Int → Bool, (Bd.nd x w t).ev ρ = if ρ x = decide (x ∈ pr) then A.ev ρ else B.ev ρ) → Bst cst (Vld pr cst (x :: es) (Bd.nd x w t).ev) (mnO (best pr cst A) (wtn x (cst x) (best pr cst B))) := by
      intro A B hA hB bA bB ev
      have v1 : ∀ q : List Int, q.Sublist es → (Bd.nd x w t).ev (fun z => decide (z ∈ pr) != decide (z ∈ q)) = A.ev fun z => decide (z ∈ pr) != decide (z ∈ q) := fun q hq => by
        rw [ev, if_pos]
        rw [decide_eq_false fun z => hn.1 (hq.subset z)]
        cases decide (x ∈ pr) <;> rfl
      have v2 : ∀ q : List Int, q.Sublist es → (Bd.nd x w t).ev (fun z => decide (z ∈ pr) != decide (z ∈ x :: q)) = B.ev fun z => decide (z ∈ pr) != decide (z ∈ q) := fun q hq => by
        rw [ev, if_neg]
        · refine wf_agree hB fun z hz => ?_
          have : z ≠ x := fun g => hn.1 (g ▸ hz)
          rw [show decide (z ∈ x :: q) = decide (z ∈ q) by rw [decide_eq_decide, List.mem_cons]; exact ⟨fun g => g.elim (fun g => absurd g this) id, .inr⟩]
        · rw [decide_eq_true (List.mem_cons_self : x ∈ x :: q)]
          cases decide (x ∈ pr) <;> decide
      have cs : ∀ p, Vld pr cst (x :: es) (Bd.nd x w t).ev p → Vld pr cst es A.ev p ∨ ∃ q c, p = x :: q ∧ cst x = some c ∧ Vld pr cst es B.ev q := fun p ⟨h1, h2, h3⟩ => by
        cases h1 with
        | cons _ h1 => exact .inl ⟨h1, h2, by rw [← v1 p h1]; exact h3⟩
        | @cons_cons q _ _ h1 =>
          obtain ⟨c, hc⟩ := Option.isSome_iff_exists.mp (h2 x List.mem_cons_self)
          exact .inr ⟨q, c, rfl, hc, h1, fun z hz => h2 z (List.mem_cons_of_mem _ hz), by rw [← v2 q h1]; exact h3⟩
      have mkA : ∀ p, Vld pr cst es A.ev p → Vld pr cst (x :: es) (Bd.nd x w t).ev p := fun p ⟨h1, h2, h3⟩ => ⟨h1.cons _, h2, by rw [v1 p h1]; exact h3⟩
      have mkB : ∀ q c, cst x = some c → Vld pr cst es B.ev q → Vld pr cst (x :: es) (Bd.nd x w t).ev (x :: q) := fun q c hc ⟨h1, h2, h3⟩ => ⟨h1.cons_cons _, fun z hz => by
        rcases List.mem_cons.mp hz with rfl | hz
        · rw [hc]; rfl
        · exact h2 z hz, by rw [v2 q h1]; exact h3⟩
      have bW : Bst cst (fun p => ∃ q c, p = x :: q ∧ cst x = some c ∧ Vld pr cst es B.ev q) (wtn x (cst x) (best pr cst B)) := by
        cases hc : cst x with
        | none =>
          rw [show wtn x none (best pr cst B) = none from rfl]
          rintro p ⟨q, c, _, e, _⟩
          cases e
        | some c =>
          cases hb : best pr cst B with
          | none =>
            rw [hb] at bB
            show Bst _ _ none
            rintro p ⟨q, c, _, _, hq⟩
            exact bB q hq
          | some k =>
            rw [hb] at bB
            obtain ⟨⟨q, hq, rfl⟩, h2⟩ := bB
            show Bst _ _ (some (c + (kyP cst q).1, (kyP cst q).2.1 + 1, x :: (kyP cst q).2.2))
            refine ⟨⟨x :: q, ⟨q, c, rfl, rfl, hq⟩, (kyP_cons cst x c hc q).symm⟩, ?_⟩
            rintro p ⟨q', c', rfl, e, hq'⟩
            cases e
            rw [kyP_cons cst x _ hc, kLt_cons]
            exact h2 q' hq'
      generalize best pr cst A = oA at bA
      generalize wtn x (cst x) (best pr cst B) = oB at bW
      cases oA with
      | none =>
        cases oB with
        | none =>
          intro p hp
          rcases cs p hp with h | h
          · exact bA p h
          · exact bW p h
        | some k =>
          obtain ⟨⟨p, ⟨q, c, rfl, hc, hq⟩, e⟩, h2⟩ := bW
          refine ⟨⟨x :: q, mkB q c hc hq, e⟩, fun p' hp' => ?_⟩
          rcases cs p' hp' with h | h
          · exact absurd h (bA p')
          · exact h2 p' h
      | some k =>
        obtain ⟨⟨p, hp, e⟩, h1⟩ := bA
        cases oB with
        | none =>
          refine ⟨⟨p, mkA p hp, e⟩, fun p' hp' => ?_⟩
          rcases cs p' hp' with h | h
          · exact h1 p' h
          · exact absurd h (bW p')
        | some l =>
          obtain ⟨⟨p2, ⟨q, c, rfl, hc, hq⟩, e2⟩, h2⟩ := bW
          show Bst _ _ (if kLt l k = true then some l else some k)
          by_cases g : kLt l k = true
          · rw [if_pos g]
            refine ⟨⟨x :: q, mkB q c hc hq, e2⟩, fun p' hp' => ?_⟩
            rcases cs p' hp' with h | h
            · exact kLt_ntr (h1 p' h) (kLt_asym g)
            · exact h2 p' h
          · rw [if_neg g]
            refine ⟨⟨p, mkA p hp, e⟩, fun p' hp' => ?_⟩
            rcases cs p' hp' with h | h
            · exact h1 p' h
            · exact kLt_ntr (h2 p' h) (Bool.eq_false_iff.mpr g)
    show Bst _ _ (if x ∈ pr then _ else _)
    by_cases hx : x ∈ pr
    · rw [if_pos hx]
      refine gen t w ht hw it iw fun ρ => ?_
      rw [decide_eq_true hx]
      show (if ρ x = true then t.ev ρ else w.ev ρ) = _
      rfl
    · rw [if_neg hx]
      refine gen w t hw ht iw it fun ρ => ?_
      rw [decide_eq_false hx]
      show (if ρ x = true then t.ev ρ else w.ev ρ) = _
      cases ρ x <;> rfl

/-! ### sorted(xs, key=f): keys that are data, any number of them -/
/-- what the heap tells of a machine value -/
def bk : Value → V
  | .none => .non
  | .bool b => .bl b
  | .int i _ => .int i
  | .str x _ => .str x
  | .bytes b _ => .byt b
  | .float b _ => .flt b
  | .ref a => .ref a
  | .type n => .ty n
  | _ => .non
theorem bk_rel : ∀ {y : V} {v : Value}, RelV y v → bk v = y
  | .non, _, h => by cases h; rfl
  | .bl _, _, h => by cases h; rfl
  | .int _, _, h => by obtain ⟨t, rfl⟩ := h; rfl
  | .str _, _, h => by obtain ⟨t, rfl⟩ := h; rfl
  | .byt _, _, h => by obtain ⟨t, rfl⟩ := h; rfl
  | .flt _, _, h => by obtain ⟨t, rfl⟩ := h; rfl
  | .ref _, _, h => by cases h; rfl
  | .ty _, _, h => by cases h; rfl
/-- a tuple that begins with an int (b) or with a tuple -/
structure KeyD (b : Bool) (d : PyData) : Prop where
  hd : ∃ d0 ds, d = .tuple (d0 :: ds) ∧ (if b = true then ∃ n, d0 = .int n else ∃ es, d0 = .tuple es)
  lay : d.canLay0 = true
  dep : d.depth ≤ 40
section
open PySem.SeqAt PySem.W
theorem lex_D {prog : Program} {w : World} {A : Around} {s : Shared} (b : Bool) {Q : Bool → Shared → Prop} : ∀ (xs ys : List PyData) (vs ws : List Value) (as bs : List Addr) (i : Nat), ReadsAll s.heap vs xs as → ReadsAll s.heap ws ys bs → PyData.canLayAll0 xs = true → PyData.canLayAll0 ys = true →
    okDs xs ys = true → A.units + min (PyData.depthAll xs) (PyData.depthAll ys) < cLine → (b = true → i = 0 → ∀ x r y r', xs = x :: r → ys = y :: r' → ∃ m n, x = .int m ∧ y = .int n) → Q (ltDs xs ys) s →
    KatLex prog w A b (decide (xs.length < ys.length)) Q (vs.zip ws) i s
  | [], [], _, _, _, _, _, ra, rb, _, _, _, _, _, q => by
    cases ra
    unfold ltDs at q
    exact kat_nil q
  | [], _ :: _, _, _, _, _, _, ra, rb, _, _, _, _, _, q => by
    cases ra
    unfold ltDs at q
    exact kat_nil q
  | _ :: _, [], _, _, _, _, _, ra, rb, _, _, _, _, _, q => by
    cases ra
    cases rb
    unfold ltDs at q
    exact kat_nil q
  | x :: xs, y :: ys, _, _, _, _, i, ra, rb, ca, cb, ho, hu, hb, q => by
    have c1 : x.canLay0 = true ∧ PyData.canLayAll0 xs = true := by simpa [PyData.canLayAll0] using ca
    have c2 : y.canLay0 = true ∧ PyData.canLayAll0 ys = true := by simpa [PyData.canLayAll0] using cb
    cases ra with
    | cons r rs =>
      cases rb with
      | cons r' rs' =>
        have el : decide ((x :: xs).length < (y :: ys).length) = decide (xs.length < ys.length) := by
          rw [List.length_cons, List.length_cons, decide_eq_decide]
          omega
        rw [el]
        unfold okDs at ho
        unfold ltDs at q
        refine kat_cons (eqAt_reads x y A s _ _ _ _ r r' c1.1 c2.1 (room_head hu) prog w _ _ ?_)
        refine kat_go (fun e => kat_yes ?_) (fun e => kat_no ?_)
        · rw [if_pos e] at ho q
          exact lex_D b xs ys _ _ _ _ (i + 1) rs rs' c1.2 c2.2 ho (room_tail hu) (fun _ z => by omega) q
        · rw [if_neg (by rw [e]; exact Bool.false_ne_true)] at ho q
          generalize hc : (b && i == 0) = c
          cases c with
          | true =>
            rw [Bool.and_eq_true] at hc
            obtain ⟨m, n, rfl, rfl⟩ := hb hc.1 (by simpa using hc.2) _ _ _ _ rfl rfl
            cases r
            cases r'
            refine TS.oneLt_ints true ?_
            unfold ltD at q
            exact q
          | false => exact kat_one _ _ (rcLt_D x y A s _ _ _ _ r r' c1.1 c2.1 ho (room_head hu) prog w _ _ q)
theorem key_lt {prog : Program} {w : World} {A : Around} {s : Shared} {b : Bool} {x y : PyData} {u v : Value} {as bs : List Addr} (kx : KeyD b x) (ky : KeyD b y) (rx : Reads s.heap u x as) (ry : Reads s.heap v y bs) (ho : okD x y = true) (hu : A.units + 64 < cLine) :
    wpAny (model prog w) A (keyLt' (tuples' b) u v) (fun r s' => s' = s ∧ r = ltD x y) (fun _ _ => False) s := by
  obtain ⟨d0, ds, rfl, h0⟩ := kx.hd
  obtain ⟨e0, es, rfl, g0⟩ := ky.hd
  have c1 : PyData.canLayAll0 (d0 :: ds) = true := by have := kx.lay; unfold PyData.canLay0 at this; exact this
  have c2 : PyData.canLayAll0 (e0 :: es) = true := by have := ky.lay; unfold PyData.canLay0 at this; exact this
  have dd := kx.dep
  unfold PyData.depth at dd
  unfold okD at ho
  cases rx with
  | @tuple p o vs n _ as1 a1 a2 a3 a4 =>
    cases ry with
    | @tuple q o' ws n' _ bs1 b1 b2 b3 b4 =>
      have l1 : vs.size = (d0 :: ds).length := by simpa using ReadsAll.length _ _ _ a4
      have l2 : ws.size = (e0 :: es).length := by simpa using ReadsAll.length _ _ _ b4
      refine kat_lt a1 a3 b1 b3 ?_
      rw [l1, l2]
      refine lex_D b _ _ _ _ _ _ 0 a4 b4 c1 c2 ho ?_ (fun hb _ x r y r' e1 e2 => ?_) ⟨rfl, ?_⟩
      · have : min (PyData.depthAll (d0 :: ds)) (PyData.depthAll (e0 :: es)) ≤ PyData.depthAll (d0 :: ds) := Nat.min_le_left _ _
        omega
      · cases e1
        cases e2
        rw [if_pos hb] at h0 g0
        obtain ⟨m, rfl⟩ := h0
        obtain ⟨n, rfl⟩ := g0
        exact ⟨m, n, rfl, rfl⟩
      · unfold ltD
        rfl
theorem key_kind {prog : Program} {w : World} {A : Around} {E : Value → Shared → Prop} {s : Shared} {b : Bool} {us : List Value} {Q : SortKind → Shared → Prop} (h2 : 0 < us.length) (h : ∀ u ∈ us, ∃ d as, Reads s.heap u d as ∧ KeyD b d) (q : Q (tuples' b) s) : wpAny (model prog w) A (keyKind' us.toArray) Q E s := by
  have mk : ∀ us : List Value, (∀ u ∈ us, ∃ d as, Reads s.heap u d as ∧ KeyD b d) → ∃ fs, fs.length = us.length ∧ KatTups s.heap us fs ∧ ∀ f ∈ fs, Looks (model prog w) s.heap (typeOf f) (.type (if b = true then "int" else "tuple")) := by
    intro us
    induction us with
    | nil => exact fun _ => ⟨[], rfl, KatTups.nil, fun _ h => by cases h⟩
    | cons u us ih =>
      intro h
      obtain ⟨fs, l1, l2, l3⟩ := ih fun x hx => h x (List.mem_cons_of_mem _ hx)
      obtain ⟨d, as, rd, kd⟩ := h u List.mem_cons_self
      obtain ⟨d0, ds, rfl, h0⟩ := kd.hd
      cases rd with
      | @tuple p o vs n _ as1 a1 a2 a3 a4 =>
        obtain ⟨vs⟩ := vs
        cases vs with
        | nil => cases a4
        | cons v0 vs =>
          cases a4 with
          | cons r rs =>
            refine ⟨v0 :: fs, by rw [List.length_cons, List.length_cons, l1], KatTups.cons a1 a2 a3 rfl l2, fun f hf => ?_⟩
            rcases List.mem_cons.mp hf with rfl | hf
            · cases b with
              | true =>
                rw [if_pos rfl] at h0
                obtain ⟨n, rfl⟩ := h0
                cases r
                exact Looks.now
              | false =>
                rw [if_neg Bool.false_ne_true] at h0
                obtain ⟨es, rfl⟩ := h0
                cases r with
                | @tuple p' o' vs' n' _ as2 c1 c2 c3 c4 =>
                  have z : Looks (model prog w) s.heap (typeOf (.ref p')) o'.cls := (Looks.ld c1).andThen .now
                  rw [c2] at z
                  exact z
            · exact l3 f hf
  obtain ⟨fs, l1, l2, l3⟩ := mk us h
  refine kat_kind (T := .type (if b = true then "int" else "tuple")) l2 (by omega) l3 (by cases b <;> rfl) ?_
  have e : ((Value.type (if b = true then "int" else "tuple")) != Value.type "tuple") = b := by
    cases b <;> first | rfl | decide +kernel
  rw [e]
  exact q
end
/-- all that H has, and the tuples of H2 -/
def Kp3 (H H2 H3 : Hp) : Prop := Same H H3 ∧ ∀ b o, (∃ xs, o = HO.tup xs) ∨ (∃ q u, o = HO.frz q u) → H2 b = some o → H3 b = some o
def rSortF (P : Program) (w : World) (K : PySem.W.Frag) (mg : Str → Option Value) (base : Heap) (k : Nat) : List V → List V → Hp → VK → Prop := fun vs zs H Q => ∃ (a f : Addr) (sp : Sp) (ys : List V) (kd : V → PyData) (b : Bool), vs = [.ref a] ∧ zs = [.ref f] ∧ SqL K H a ys ∧ Hd P w K mg base k f sp ∧
  (∀ y ∈ ys, ∀ (H1 : Hp) (R : VK), Same H H1 → (∀ u H2, Same H1 H2 → (∀ H3, Kp3 H H2 H3 → Dp K H3 u (kd y)) → R u H2) → sp [y] H1 R E0) ∧ (∀ y ∈ ys, KeyD b (kd y)) ∧ (∀ y ∈ ys, ∀ z ∈ ys, okD (kd y) (kd z) = true) ∧ SrtO.Swo (fun y z : V => ltD (kd y) (kd z)) ∧
  ∀ zs H' p, Same H H' → H p = none → SrtO.Srtd (fun y z => ltD (kd y) (kd z)) zs → SrtO.Stb (fun y z => ltD (kd y) (kd z)) zs ys → H' p = some (.lst zs) → Q (.ref p) H'
section
open PySem.SeqAt PySem.W
theorem push_keep {h : Heap} {o : Obj} : ∀ b u, h.get? b = some u → (h.push o).get? b = some u := fun b u e => Heap.get?_push_of_some _ e
set_option maxHeartbeats 4000000 in
theorem cr_sortF {X : Cx} {k j : Nat} (hr : Room j X.A) (hk : k + 2 ≤ j) (hu : X.A.units + 70 < cLine) : CallRK X (.builtin "sorted") [Str.ofString "key"] (rSortF X.prog X.w X.K X.mg X.base k) := by
  intro pins s σ H vs zs us ws Q I r rz ask
  obtain ⟨a, f, sp, ys, kd, b, rfl, rfl, hs, ⟨fd, ps, F, kp, bnd⟩, prom, kok, cmp, O, q⟩ := ask
  obtain rfl := Vals.ref1 r
  obtain ⟨w1, rfl, e1⟩ := vals1 rz
  obtain rfl : w1 = Value.ref f := e1
  obtain ⟨its, rv, pl, hz⟩ := I.list hs
  have lz : its.length = ys.length := rv.length.symm
  -- the collected list, the list that is sorted, what is held, the keys
  generalize eh1 : (s.heap.push (seqObj "list" #[] 0)).update s.heap.objs.size (Obj.mapSeq (· ++ its.toArray)) = h1
  have sz1 : h1.objs.size = s.heap.objs.size + 1 := by
    rw [← eh1, Heap.size_update]
    exact size_push' _ _
  have k1 : ∀ b o, s.heap.get? b = some o → h1.get? b = some o := fun b o e => by
    rw [← eh1, Heap.get?_update_ne _ _ _ _ (Nat.ne_of_lt (Heap.lt_size e))]
    exact push_keep _ _ e
  generalize eD : h1.objs.size = D at sz1
  have oD : (h1.push (seqObj "list" its.toArray 0)).get? D = some (seqObj "list" its.toArray 0) := by
    rw [← eD]
    exact Heap.get?_push_size _ rfl
  refine (call_function_entry_kw kind_sorted plain_sorted entry_sorted (ksk_s1 _ _) ?_)
  unfold Builtin.«sorted»
  refine (wpAny_bind (m := checkCount "sorted" 1 1 _) (wpAny_pure ?_))
  refine (wpAny_bind (collect_list pl.isList ?_ (by rw [lz]; exact hz)))
  refine (wpAny_bind (wpAny_newList ?_ (by rw [lz]; exact hz)))
  show wpAny _ _ _ _ _ { s with heap := ((s.heap.push (seqObj "list" #[] 0)).update s.heap.objs.size (Obj.mapSeq (· ++ its.toArray))).push (seqObj "list" its.toArray 0) }
  rw [eh1, eD]
  refine (wpAny_bind (wpAny_holding (wpAny_call_entry_kw slot_list_sort ⟨_, oD, rfl⟩ entry_list_sort ?body (ksk_l1 _ _))))
  show wpAny (model X.prog X.w) X.A.in1.in1 (Builtin.«list.sort» ⟨[.ref D], [(Str.ofString "key", .ref f)]⟩) _ _ _
  rw [ksk_t1]
  -- the list emptied, its items held, the keys
  obtain ⟨ep, oD3⟩ : ∃ ep, ((h1.push (seqObj "list" its.toArray 0)).update D (Obj.mapSeq fun _ => #[])).get? D = some (seqObj "list" #[] ep) := ⟨_, get?_update_seq oD fun _ => #[]⟩
  have k3 : ∀ c o, s.heap.get? c = some o → ((h1.push (seqObj "list" its.toArray 0)).update D (Obj.mapSeq fun _ => #[])).get? c = some o := fun c o e => by
    have lt : c < s.heap.objs.size := Heap.lt_size e
    rw [Heap.get?_update_ne _ _ _ _ (Nat.ne_of_lt (by rw [sz1]; exact Nat.lt_succ_of_lt lt))]
    exact push_keep _ _ (k1 _ _ e)
  unfold ksk_tree
  refine (wpAny_bind (listItems_at oD rfl ?_))
  refine (wpAny_bind (listUpdate_at oD rfl ?_ (by rw [List.size_toArray, lz]; exact hz) (Nat.zero_le _)))
  refine (wpAny_bind (seqEpoch_at oD3 rfl ?_))
  refine (wpAny_bind (wpAny_newTuple ?_ (by show its.length ≤ _; rw [lz]; exact hz)))
  refine (wpAny_bind (wpAny_newList ?_ (Nat.zero_le _)))
  refine wpAny_holding ?_
  generalize (h1.push (seqObj "list" its.toArray 0)).update D (Obj.mapSeq fun _ => #[]) = h3 at oD3 k3 ⊢
  have lD : D < h3.objs.size := Heap.lt_size oD3
  show wpAny _ _ _ _ _ { s with heap := (h3.push (seqObj "tuple" its.toArray 0)).push (seqObj "list" #[] 0) }
  generalize e4 : h3.push (seqObj "tuple" its.toArray 0) = h4
  have oD4 : h4.get? D = some (seqObj "list" #[] ep) := by rw [← e4]; exact push_keep _ _ oD3
  have k4 : ∀ c o, s.heap.get? c = some o → h4.get? c = some o := fun c o e => by rw [← e4]; exact push_keep _ _ (k3 _ _ e)
  have lD4 : D < h4.objs.size := Heap.lt_size oD4
  let φ : Heap → Prop := fun h => h.get? D = some (seqObj "list" #[] ep)
  have nD : H D = none := I.hok.fresh (by omega)
  have I4 : Inv X pins σ (upd H D (.ext φ)) { s with heap := h4 } := I.laid (t' := s.toks) k4 (by omega) ⟨oD4, ⟨_, oD4⟩, fun h1 h2 z g => g _ z⟩
  have nK : (upd H D (.ext φ)) h4.objs.size = none := I4.hok.fresh (Nat.le_refl _)
  have oK : (h4.push (seqObj "list" #[] 0)).get? h4.objs.size = some (seqObj "list" #[] 0) := Heap.get?_push_size _ rfl
  have I5 : Inv X pins σ (upd (upd H D (.ext φ)) h4.objs.size (.lst [])) { s with heap := h4.push (seqObj "list" #[] 0) } := I4.laid (t' := s.toks) (h' := h4.push (seqObj "list" #[] 0)) push_keep (Nat.le_refl _) ⟨Nat.zero_le _, [], 0, .nil, oK⟩
  generalize h4.objs.size = kS at lD4 nK oK I5 ⊢
  have nDk : D ≠ kS := by omega
  have nHk : H kS = none := by
    rw [upd_ne (Ne.symm nDk)] at nK
    exact nK
  have sm5 : Same H (upd (upd H D (.ext φ)) kS (.lst [])) := (same_upd nD).trans (same_upd nK)
  unfold ksk_rest
  refine (wpAny_bind (wpAny_rule ?_))
  rw [List.forIn_toArray]
  refine (wpAny_bind (ksk_fold (fun i s' => ∃ (Hi : Hp) (kvs : List V), Inv X pins σ Hi s' ∧ Same H Hi ∧ Hi D = some (.ext φ) ∧ Hi kS = some (.lst kvs) ∧ kvs.length = i ∧ ∀ H3, Kp3 H Hi H3 → DpAll X.K H3 kvs ((ys.take i).map kd)) its 0 _ ⟨_, [], I5, sm5, by rw [upd_ne nDk]; exact upd_same, upd_same, rfl, fun _ _ => .nil⟩ (fun j x s' hx hI => ?turn) (fun s' hI => ?done)))
  case turn =>
    rw [Nat.zero_add] at hI ⊢
    obtain ⟨Hi, kvs, Ii, si, eDi, eKi, lk, dpi⟩ := hI
    have hj : j < ys.length := by
      rw [← lz]
      exact (List.getElem?_eq_some_iff.mp hx).1
    obtain ⟨u0, hu0, rel⟩ := Vals.get rv (List.getElem?_eq_getElem hj)
    obtain rfl : u0 = x := Option.some.inj (hu0.symm.trans hx)
    have hy : ys[j] ∈ ys := List.getElem_mem hj
    have hyj := List.getElem?_eq_getElem hj
    generalize ys[j] = y at rel hy hyj
    have spy := prom y hy Hi (fun u H2 => Same Hi H2 ∧ ∀ H3, Kp3 H H2 H3 → Dp X.K H3 u (kd y)) si fun u H2 g1 g2 => ⟨g1, g2⟩
    have called : wpAny (model X.prog X.w) X.A.in1.in1 (call (.ref f) [u0]) (fun u s2 => ∃ v H2, Inv X pins σ H2 s2 ∧ RelV v u ∧ Same Hi H2 ∧ ∀ H3, Kp3 H H2 H3 → Dp X.K H3 v (kd y)) (fun _ _ => False) s' := by
      refine wpAny_call (codeAny_mono (F.run X.A.in1.in1 X.stack s' Hi ⟨[u0], []⟩ [u0] [y] _ E0 ((hr.mono hk).in1.in1) Ii.env0.in1.in1 (bnd s' [u0] Ii.kIn (by rw [← F.len _ _ _ _ spy]; rfl)) (.cons rel .nil) spy) fun r s2 hq => ?_)
      match r, hq with
      | .error _, hq => exact False.elim hq
      | .ok .next, hq => exact False.elim hq
      | .ok .brk, hq => exact False.elim hq
      | .ok .cont, hq => exact False.elim hq
      | .ok (.ret u), hq =>
        obtain ⟨v, H2, J, rvv, g1, g2⟩ := Ii.after hq
        exact ⟨v, H2, J, rvv, g1, g2⟩
    refine wpAny_bind (wpAny_attempt (wpAny_mono called (fun u s2 hu => ?_) fun _ _ z => z.elim))
    obtain ⟨v, H2, J, rvv, g1, g2⟩ := hu
    have eK2 := g1 _ _ eKi
    obtain ⟨_, kits, n2, kr, ok2⟩ := J.hok kS _ eK2
    have lkk : kits.length = j := by rw [← kr.length]; exact lk
    obtain ⟨n3, ok3⟩ : ∃ n3, (s2.heap.update kS (Obj.mapSeq (·.push u))).get? kS = some (seqObj "list" (kits ++ [u]).toArray n3) := ⟨_, by
      rw [show (kits ++ [u]).toArray = kits.toArray.push u by simp]
      exact get?_update_seq ok2 (·.push u)⟩
    dsimp only
    refine (wpAny_bind (listUpdate_at ok2 rfl ?_ (by rw [List.size_toArray]; omega) (by rw [Array.size_push, List.size_toArray]; omega)))
    have J3 : Inv X pins σ (upd H2 kS (.lst (kvs ++ [v]))) { s2 with heap := s2.heap.update kS (Obj.mapSeq (·.push u)) } := J.write (e := kS) (t' := s2.toks) (by rw [eK2]; trivial) (.inl rfl) (fun c o nc e => by rw [Heap.get?_update_ne _ _ _ _ nc]; exact e) ⟨_, ok3⟩
      ⟨by rw [List.length_append, lk]; show j + 1 ≤ _; omega, kits ++ [u], n3, kr.append (.cons rvv .nil), ok3⟩
    refine wpAny_pure ⟨rfl, _, kvs ++ [v], J3, fun c o e => ?_, by rw [upd_ne nDk]; exact g1 _ _ eDi, upd_same, by rw [List.length_append, lk]; rfl, fun H3 kp3 => ?_⟩
    · rw [upd_ne (ne_of_none e nHk)]
      exact g1 _ _ (si _ _ e)
    · have k2 : Kp3 H H2 H3 := ⟨kp3.1, fun c o ho e => kp3.2 c o ho (by
        rw [upd_ne (fun z => ?_)]
        · exact e
        · subst z
          rw [eK2] at e
          cases e
          rcases ho with ⟨xs, z⟩ | ⟨q', u', z⟩ <;> cases z)⟩
      have ki : Kp3 H Hi H3 := ⟨kp3.1, fun c o ho e => k2.2 c o ho (g1 _ _ e)⟩
      rw [List.take_add_one, hyj, List.map_append]
      exact DpAll.snoc (dpi H3 ki) (g2 H3 k2)
  case done =>
    rw [Nat.zero_add] at hI
    obtain ⟨Hn, kvs, In, sn, eDn, eKn, lk, dpn⟩ := hI
    have dpn := dpn Hn ⟨sn, fun _ _ _ e => e⟩
    rw [lz, List.take_of_length_le (Nat.le_refl _)] at dpn
    obtain ⟨_, kits, n2, kr, okK⟩ := In.hok kS _ eKn
    obtain ⟨okD, _⟩ := In.hok D _ eDn
    have okD : s'.heap.get? D = some (seqObj "list" #[] ep) := okD
    have lkk : kits.length = its.length := by rw [← kr.length]; exact lk
    refine (wpAny_bind (listItems_at okK rfl ?_))
    have ez : (kits.toArray.zip its.toArray).toList = kits.zip its := by simp
    have lt2 : SrtO.Swo (fun p q : Keyed => ltD (kd (bk p.2)) (kd (bk q.2))) := ⟨fun x y h => O.asym _ _ h, fun x y z h g => O.tr _ _ _ h g⟩
    let P : Keyed → Prop := fun p => (∃ as, Reads s'.heap p.1 (kd (bk p.2)) as) ∧ bk p.2 ∈ ys ∧ RelV (bk p.2) p.2
    have hP : ∀ p ∈ kits.zip its, P p := fun p hp => by
      obtain ⟨i, hi⟩ := List.getElem?_of_mem hp
      rw [List.getElem?_zip_eq_some] at hi
      obtain ⟨i1, i2⟩ := hi
      have li : i < ys.length := by
        rw [← lz]
        exact (List.getElem?_eq_some_iff.mp i2).1
      obtain ⟨u0, hu0, rel⟩ := Vals.get rv (List.getElem?_eq_getElem li)
      obtain rfl : u0 = p.2 := Option.some.inj (hu0.symm.trans i2)
      obtain ⟨v0, hv0, dv⟩ := DpAll.get dpn (show (ys.map kd)[i]? = some (kd ys[i]) by rw [List.getElem?_map, List.getElem?_eq_getElem li]; rfl)
      obtain ⟨u1, hu1, rel1⟩ := Vals.get kr hv0
      obtain rfl : u1 = p.1 := Option.some.inj (hu1.symm.trans i1)
      have eb := bk_rel rel
      refine ⟨?_, by rw [eb]; exact List.getElem_mem li, by rw [eb]; exact rel⟩
      rw [eb]
      exact Dp.reads In _ _ _ dv rel1
    have emap : (kits.zip its).map (fun p => bk p.2) = ys := by
      have e1 : (kits.zip its).map (fun p => bk p.2) = its.map bk := by
        rw [show (fun p : Value × Value => bk p.2) = bk ∘ Prod.snd from rfl, ← List.map_map, List.map_snd_zip (by omega)]
      rw [e1]
      have : ∀ {ys : List V} {its : List Value}, Vals ys its → its.map bk = ys := by
        intro ys its h
        induction h with
        | nil => rfl
        | cons a _ ih => rw [List.map_cons, ih, bk_rel a]
      exact this rv
    have fin : ∀ st' : SortSt, SrtO.Srtd (fun p q : Keyed => ltD (kd (bk p.2)) (kd (bk q.2))) (arrOf st').toList → SrtO.Stb (fun p q : Keyed => ltD (kd (bk p.2)) (kd (bk q.2))) (arrOf st').toList (kits.zip its) → failedOf st' = none →
        wpAny (model X.prog X.w) X.A.in1.in1 (ksk_tail D false ep (.ref kS) st') (fun fin s' => ∃ v, fin = PySem.Fin.done (Flow.ret v) ∧ wpAny (model X.prog X.w) X.A.in1 (ret (Value.ref D)) (fun fin s' => ∃ v, fin = PySem.Fin.done (Flow.ret v) ∧ EP X pins σ Q v s') X.xe s') X.xe s' := fun st' a1 a2 a3 => by
      have lo : (arrOf st').toList.length = its.length := by
        rw [a2.len, List.length_zip, lkk, Nat.min_self]
      have lo2 : ((arrOf st').map (·.2)).size = its.length := by
        rw [Array.size_map, ← lo, Array.length_toList]
      obtain ⟨n4, ok4⟩ : ∃ n4, (s'.heap.update kS (Obj.mapSeq fun _ => (#[] : Array Value))).get? kS = some (seqObj "list" #[] n4) := ⟨_, get?_update_seq okK fun _ => #[]⟩
      have okD4 : (s'.heap.update kS (Obj.mapSeq fun _ => (#[] : Array Value))).get? D = some (seqObj "list" #[] ep) := by
        rw [Heap.get?_update_ne _ _ _ _ nDk]
        exact okD
      have J1 : Inv X pins σ (upd Hn kS (.lst [])) { s' with heap := s'.heap.update kS (Obj.mapSeq fun _ => (#[] : Array Value)) } := In.write (e := kS) (t' := s'.toks) (by rw [eKn]; trivial) (.inl rfl) (fun c o nc e => by rw [Heap.get?_update_ne _ _ _ _ nc]; exact e) ⟨_, ok4⟩ ⟨Nat.zero_le _, [], n4, .nil, ok4⟩
      obtain ⟨n5, ok5⟩ : ∃ n5, ((s'.heap.update kS (Obj.mapSeq fun _ => (#[] : Array Value))).update D (Obj.mapSeq fun _ => (arrOf st').map (·.2))).get? D = some (seqObj "list" ((arrOf st').map (·.2)) n5) := ⟨_, get?_update_seq okD4 fun _ => (arrOf st').map (·.2)⟩
      have vv : Vals ((arrOf st').toList.map fun p => bk p.2) ((arrOf st').map (·.2)).toList := by
        rw [Array.toList_map]
        have hall : ∀ p ∈ (arrOf st').toList, RelV (bk p.2) p.2 := fun p hp => (hP p (a2.perm.mem_iff.mp hp)).2.2
        generalize (arrOf st').toList = l at hall
        induction l with
        | nil => exact .nil
        | cons p l ih => exact .cons (hall p List.mem_cons_self) (ih fun x hx => hall x (List.mem_cons_of_mem _ hx))
      have eD1 : (upd Hn kS (.lst [])) D = some (.ext φ) := by
        rw [upd_ne nDk]
        exact eDn
      have J2 : Inv X pins σ (upd (upd Hn kS (.lst [])) D (.lst ((arrOf st').toList.map fun p => bk p.2))) { s' with heap := (s'.heap.update kS (Obj.mapSeq fun _ => (#[] : Array Value))).update D (Obj.mapSeq fun _ => (arrOf st').map (·.2)) } := J1.write (e := D) (t' := s'.toks) (by rw [eD1]; trivial) (.inl rfl) (fun c o nc e => by
        show ((s'.heap.update kS (Obj.mapSeq fun _ => (#[] : Array Value))).update D _).get? c = _
        rw [Heap.get?_update_ne _ _ _ _ nc]
        exact e) ⟨_, ok5⟩ ⟨by rw [List.length_map, lo, lz]; exact hz, _, n5, vv, by rw [Array.toArray_toList]; exact ok5⟩
      unfold ksk_tail
      dsimp only
      refine (wpAny_bind (listUpdate_at okK rfl ?_ (by rw [List.size_toArray, lkk, lz]; exact hz) (Nat.zero_le _)))
      refine (wpAny_bind (wpAny_letGo ?_))
      refine (wpAny_bind (seqEpoch_at okD4 rfl ?_))
      refine (wpAny_bind (listUpdate_at okD4 rfl ?_ (Nat.zero_le _) (by
        rw [if_neg Bool.false_ne_true, lo2, lz]
        omega)))
      rw [a3]
      simp only [bne_self_eq_false, Bool.false_eq_true, if_false]
      refine wpAny_pure ⟨_, rfl, wpAny_pure ⟨_, rfl, .ref D, _, J2, rfl, ?_⟩⟩
      refine q _ _ D (fun c o e => ?_) nD (SrtO.srtd_map a1) (by rw [← emap]; exact SrtO.Stb.map O (fun p : Keyed => bk p.2) a2) upd_same
      rw [upd_ne (ne_of_none e nD), upd_ne (ne_of_none e nHk)]
      exact sn _ _ e
    unfold ksk_end
    dsimp only
    rw [if_neg Bool.false_ne_true]
    by_cases h2 : its.toArray.size < 2
    · rw [if_pos h2, if_pos h2]
      refine (wpAny_bind (wpAny_pure ?_))
      rw [StateT.run_pure]
      refine (wpAny_bind (wpAny_pure ?_))
      refine fin (SortSt.mk' general' (kits.toArray.zip its.toArray) #[] 7 none) ?_ ?_ rfl
      · show SrtO.Srtd _ (kits.toArray.zip its.toArray).toList
        rw [ez]
        have l2 : (kits.zip its).length < 2 := by
          rw [List.length_zip]
          rw [List.size_toArray] at h2
          omega
        match kits.zip its, l2 with
        | [], _ => exact List.Pairwise.nil
        | [x], _ => exact List.pairwise_singleton _ _
        | _ :: _ :: _, l2 => simp only [List.length_cons] at l2; omega
      · show SrtO.Stb _ (kits.toArray.zip its.toArray).toList _
        rw [ez]
        exact SrtO.Stb.refl _
    · rw [if_neg h2, if_neg h2]
      rw [List.size_toArray] at h2
      refine (wpAny_bind (key_kind (b := b) (by omega) (fun u hu => ?_) ?_))
      · obtain ⟨i, hi⟩ := List.getElem?_of_mem hu
        have li : i < kits.length := (List.getElem?_eq_some_iff.mp hi).1
        have hp := hP (kits[i], its[i]) (by
          refine List.mem_of_getElem? (i := i) ?_
          rw [List.getElem?_zip_eq_some]
          exact ⟨List.getElem?_eq_getElem li, List.getElem?_eq_getElem _⟩)
        obtain ⟨⟨as, g1⟩, g2, _⟩ := hp
        rw [List.getElem?_eq_getElem li] at hi
        cases hi
        exact ⟨_, as, g1, kok _ g2⟩
      · refine (wpAny_bind (wpAny_mono (SrtO.wpS_sortO (P := P) (st0 := SortSt.mk' (tuples' b) (kits.toArray.zip its.toArray) #[] 7 none) (lt := fun p q : Keyed => ltD (kd (bk p.2)) (kd (bk q.2)))
          (Q := fun _ st' => SrtO.Srtd (fun p q : Keyed => ltD (kd (bk p.2)) (kd (bk q.2))) (arrOf st').toList ∧ SrtO.Stb (fun p q : Keyed => ltD (kd (bk p.2)) (kd (bk q.2))) (arrOf st').toList (kits.zip its) ∧ failedOf st' = none) lt2 (fun p q hp hq => ?_) rfl (fun p hp => hP p (by rw [← ez]; exact hp)) rfl rfl fun st' g1 g2 g3 => ⟨g1, by rw [← ez]; exact g2, g3⟩) ?_ fun _ _ e => e))
        · obtain ⟨⟨as, g1⟩, g2, _⟩ := hp
          obtain ⟨⟨bs, g3⟩, g4, _⟩ := hq
          exact key_lt (kok _ g2) (kok _ g4) g1 g3 (cmp _ g2 _ g4) (by show X.A.units + 1 + 1 + 64 < _; omega)
        · rintro ⟨⟨⟩, st'⟩ s2 ⟨rfl, g1, g2, g3⟩
          exact fin st' g1 g2 g3
end

/-! ### keys of sets of rows -/
theorem alike_ints : ∀ xs ys : List Int, PySem.W.alikeAll (xs.map PyData.int) (ys.map PyData.int) = true
  | [], _ => by unfold PySem.W.alikeAll; rfl
  | _ :: _, [] => by unfold PySem.W.alikeAll; rfl
  | x :: xs, y :: ys => by
    rw [List.map_cons, List.map_cons]
    unfold PySem.W.alikeAll
    rw [alike_ints xs ys]
    rfl
theorem lt_ints : ∀ xs ys : List Int, PyProof.Rows.lexLt PyProof.Rows.itemOrd (PySem.W.keyToksAll (xs.map PyData.int)) (PySem.W.keyToksAll (ys.map PyData.int)) = lexI xs ys
  | [], [] => by decide +kernel
  | [], y :: ys => by
    show PyProof.Rows.lexLt PyProof.Rows.itemOrd (PySem.W.keyToksAll []) (PySem.W.keyToksAll (PyData.int y :: _)) = true
    unfold PySem.W.keyToksAll
    rw [PySem.W.lex_atom (by decide)]
    decide +kernel
  | x :: xs, [] => by
    show PyProof.Rows.lexLt PyProof.Rows.itemOrd (PySem.W.keyToksAll (PyData.int x :: _)) (PySem.W.keyToksAll []) = false
    unfold PySem.W.keyToksAll
    rw [PySem.W.lex_atom (by decide)]
    decide +kernel
  | x :: xs, y :: ys => by
    rw [List.map_cons, List.map_cons]
    unfold lexI
    by_cases e : x = y
    · subst e
      rw [if_pos rfl, PySem.W.dataLt_all_yes rfl (by unfold PyData.eqv; exact beq_self_eq_true x), lt_ints xs ys]
    · rw [if_neg e, PySem.W.dataLt_all_no rfl (by unfold PyData.eqv; exact beq_eq_false_iff_ne.mpr e), PySem.W.dataLt_int]
theorem eqv_intsL : ∀ xs ys : List Int, PyData.eqvAll (xs.map PyData.int) (ys.map PyData.int) = decide (xs = ys)
  | [], [] => rfl
  | [], _ :: _ => rfl
  | _ :: _, [] => rfl
  | x :: xs, y :: ys => by
    rw [List.map_cons, List.map_cons]
    unfold PyData.eqvAll
    rw [eqv_intsL xs ys]
    unfold PyData.eqv
    by_cases e : x = y
    · subst e
      simp
    · simp [e]
def skD (p : List Int) : PyData := .tuple [.int ((p.length : Nat) : Int), .list (p.map PyData.int)]
def ky2 (p : List Int) : Ck := (p.length, p.length, p)
theorem kLt_ky2 (a b : List Int) : kLt (ky2 a) (ky2 b) = if a.length = b.length then lexI a b else decide (a.length < b.length) := by
  unfold kLt ky2
  dsimp only
  by_cases e : a.length = b.length
  · rw [if_pos e, if_pos e]
  · rw [if_neg e, if_neg e]
theorem ltD_sk (a b : List Int) : ltD (skD a) (skD b) = kLt (ky2 a) (ky2 b) := by
  rw [kLt_ky2]
  have eI : PyData.eqv (.int ((a.length : Nat) : Int)) (.int ((b.length : Nat) : Int)) = decide (a.length = b.length) := by
    unfold PyData.eqv
    rw [Bool.eq_iff_iff, beq_iff_eq, decide_eq_true_iff]
    omega
  have lI : ltD (.int ((a.length : Nat) : Int)) (.int ((b.length : Nat) : Int)) = decide (a.length < b.length) := by
    unfold ltD
    rw [decide_eq_decide]
    omega
  have lL : ltD (.list (a.map PyData.int)) (.list (b.map PyData.int)) = lexI a b := by
    unfold ltD
    rw [PySem.W.dataLt_list, lt_ints]
  have eL : PyData.eqv (.list (a.map PyData.int)) (.list (b.map PyData.int)) = decide (a = b) := by
    unfold PyData.eqv
    exact eqv_intsL a b
  unfold skD ltD ltDs ltDs ltDs
  rw [eI, eL, lI, lL]
  by_cases e : a.length = b.length
  · rw [if_pos e, if_pos (decide_eq_true e)]
    by_cases e3 : a = b
    · rw [if_pos (decide_eq_true e3), e3, lexI_irr]
    · rw [if_neg (fun z => e3 (of_decide_eq_true z))]
  · rw [if_neg e, if_neg (fun z => e (of_decide_eq_true z))]
theorem okD_sk (a b : List Int) : okD (skD a) (skD b) = true := by
  have al : PySem.W.alike (.list (a.map PyData.int)) (.list (b.map PyData.int)) = true := by
    unfold PySem.W.alike
    exact alike_ints _ _
  unfold skD okD okDs okDs okDs
  split
  · split
    · rfl
    · unfold okD
      exact al
  · rfl
theorem key_sk (a : List Int) : KeyD true (skD a) := by
  have h := ints_shaped a
  unfold SeqAt.shaped at h
  rw [Bool.and_eq_true] at h
  have h2 : ∀ l : List Int, PyData.depthAll (l.map PyData.int) = 0 := by
    intro l
    induction l with
    | nil => rfl
    | cons x l ih =>
      rw [List.map_cons]
      unfold PyData.depthAll
      rw [ih]
      rfl
  refine ⟨⟨_, _, rfl, by rw [if_pos rfl]; exact ⟨_, rfl⟩⟩, ?_, ?_⟩
  · unfold skD PyData.canLay0 PyData.canLayAll0 PyData.canLayAll0
    rw [h.1]
    rfl
  · unfold skD
    simp [PyData.depth, PyData.depthAll, h2]
theorem ints_inj2 : ∀ {a b : List Int}, a.map V.int = b.map V.int → a = b
  | [], [], _ => rfl
  | [], _ :: _, h => by cases h
  | _ :: _, [], h => by cases h
  | x :: a, y :: b, h => by
    obtain ⟨h1, h2⟩ := List.cons.inj h
    rw [V.int.inj h1, ints_inj2 h2]
section
variable {P : Program} {w : World} {K : PySem.W.Frag} {mg : Str → Option Value} {base : Heap} {X : Cx} {k j : Nat}
theorem hu70 {A : Around} (hr : Room j A) : A.units + 70 < cLine := by have := hr.un; omega
theorem cr_sortFK (hr : Room j X.A) (hk : k + 2 ≤ j) (h1 : X.prog = P := by rfl) (h2 : X.w = w := by rfl) (h3 : X.K = K := by rfl) (h4 : X.mg = mg := by rfl) (h5 : X.base = base := by rfl) : CallRK X (.builtin "sorted") [Str.ofString "key"] (rSortF P w K mg base k) := by
  subst h1 h2 h3 h4 h5
  exact cr_sortF hr hk (hu70 hr)
end

/-! ### reasons and changes -/
def GL {α : Type} (em : α → List V) (H H' : Hp) (kn : Addr) (ls : List α) : Prop := ∃ bs : List Addr, H' kn = some (.lst (bs.map V.ref)) ∧ bs.length = ls.length ∧ ∀ (i : Nat) b p, bs[i]? = some b → ls[i]? = some p → b ≠ kn ∧ H b = none ∧ H' b = some (.lst (em p))
theorem refs_inj : ∀ {a b : List Addr}, a.map V.ref = b.map V.ref → a = b
  | [], [], _ => rfl
  | [], _ :: _, h => by cases h
  | _ :: _, [], h => by cases h
  | x :: a, y :: b, h => by
    obtain ⟨h1, h2⟩ := List.cons.inj h
    rw [V.ref.inj h1, refs_inj h2]
theorem GL.ext {α : Type} {em : α → List V} {H H1 H2 : Hp} {kn : Addr} {ls : List α} (e : Same H1 H2) (h : GL em H H1 kn ls) : GL em H H2 kn ls := by
  obtain ⟨bs, h1, h2, h3⟩ := h
  exact ⟨bs, e _ _ h1, h2, fun i b p g1 g2 => ⟨(h3 i b p g1 g2).1, (h3 i b p g1 g2).2.1, e _ _ (h3 i b p g1 g2).2.2⟩⟩
theorem GL.snoc {α : Type} {em : α → List V} {H H' : Hp} {kn r : Addr} {ls : List α} {bs : List Addr} {l : α} (h : GL em H H' kn ls) (e : H' kn = some (.lst (bs.map V.ref))) (hb : r ≠ kn) (hn : H r = none) (er : H' r = some (.lst (em l))) : GL em H (upd H' kn (.lst (bs.map V.ref ++ [.ref r]))) kn (ls ++ [l]) := by
  obtain ⟨bs', h1, h2, h3⟩ := h
  have e1 : bs' = bs := refs_inj (by rw [h1] at e; exact HO.lst.inj (Option.some.inj e))
  subst e1
  refine ⟨bs' ++ [r], by rw [upd_same, List.map_append]; rfl, by rw [List.length_append, List.length_append, h2]; rfl, fun i b p g1 g2 => ?_⟩
  by_cases hi : i < bs'.length
  · rw [List.getElem?_append_left hi] at g1
    rw [List.getElem?_append_left (by omega)] at g2
    obtain ⟨k1, k2, k3⟩ := h3 i b p g1 g2
    exact ⟨k1, k2, by rw [upd_ne k1]; exact k3⟩
  · rw [List.getElem?_append_right (by omega)] at g1
    rw [List.getElem?_append_right (by omega), ← h2] at g2
    cases hz : i - bs'.length with
    | zero =>
      rw [hz] at g1 g2
      cases g1
      cases g2
      exact ⟨hb, hn, by rw [upd_ne hb]; exact er⟩
    | succ k => rw [hz] at g1; simp at g1
theorem GL.at {α : Type} {em : α → List V} {H H' : Hp} {kn : Addr} {ls : List α} {bs : List Addr} {i : Nat} {l : α} (h : GL em H H' kn ls) (e : H' kn = some (.lst (bs.map V.ref))) (hi : ls[i]? = some l) : ∃ b, (bs.map V.ref)[i]? = some (.ref b) ∧ b ≠ kn ∧ H b = none ∧ H' b = some (.lst (em l)) := by
  obtain ⟨bs', h1, h2, h3⟩ := h
  have e1 : bs' = bs := refs_inj (by rw [h1] at e; exact HO.lst.inj (Option.some.inj e))
  subst e1
  have hl : i < bs'.length := by rw [h2]; exact (List.getElem?_eq_some_iff.mp hi).1
  have hb := List.getElem?_eq_getElem hl
  exact ⟨bs'[i], by rw [List.getElem?_map, hb]; rfl, h3 i _ _ hb hi⟩
/-- lists of numbers, each in a list of its own that is new -/
def intL (l : List Int) : List V := l.map V.int
def LLf (H H' : Hp) (r : Addr) (ls : List (List Int)) : Prop := ∃ bs : List Addr, H' r = some (.lst (bs.map V.ref)) ∧ bs.length = ls.length ∧ ∀ (i : Nat) b p, bs[i]? = some b → ls[i]? = some p → H b = none ∧ H' b = some (.lst (p.map V.int))
def SrtK (ls : List (List Int)) : Prop := ls.Pairwise fun a b => kLt (ky2 b) (ky2 a) = false
theorem all_refs : ∀ {zs : List V}, (∀ z ∈ zs, ∃ b, z = V.ref b) → ∃ bs : List Addr, zs = bs.map V.ref
  | [], _ => ⟨[], rfl⟩
  | z :: zs, h => by
    obtain ⟨b, rfl⟩ := h z List.mem_cons_self
    obtain ⟨bs, rfl⟩ := all_refs fun x hx => h x (List.mem_cons_of_mem _ hx)
    exact ⟨b :: bs, rfl⟩
def sp_skeyP : Sp := fun vs H Q _ => ∃ (b : Addr) (p : List Int), vs = [.ref b] ∧ H b = some (.lst (p.map V.int)) ∧ ∀ H' u, Same H H' → H' u = some (.tup [.int ((p.length : Nat) : Int), .ref b]) → Q (.ref u) H'
theorem chg_lt {ds ps al : List Int} : ∀ (a : Bd), (∀ e w t, Bd.nd e w t ∈ subN a → e ∈ ds) → ∀ m ∈ chg ds ps al a, m < 2 ^ ds.length
  | .lf b, _, m, hm => by
    cases b with
    | false => cases hm
    | true =>
      have : m = 0 := List.mem_singleton.mp hm
      rw [this]
      exact Nat.two_pow_pos _
  | .nd e w t, hds, m, hm => by
    have i1 := chg_lt (ps := ps) (al := al) w fun e w t h => hds e w t (List.mem_cons_of_mem _ (List.mem_append_left _ h))
    have i2 := chg_lt (ps := ps) (al := al) t fun e w t h => hds e w t (List.mem_cons_of_mem _ (List.mem_append_right _ h))
    have hx : ∀ m ∈ (if e ∈ ps then chg ds ps al t else chg ds ps al w), m < 2 ^ ds.length := by split <;> assumption
    have hy : ∀ m ∈ (if e ∈ ps then chg ds ps al w else chg ds ps al t), m < 2 ^ ds.length := by split <;> assumption
    have he : 2 ^ ds.idxOf e < 2 ^ ds.length := Nat.pow_lt_pow_right (by decide) (List.idxOf_lt_length_of_mem (hds e w t List.mem_cons_self))
    have hm : m ∈ nodeL _ _ _ _ := hm
    unfold nodeL at hm
    rcases List.mem_append.mp hm with h | h
    · exact hx m h
    · have h := (List.mem_filter.mp h).1
      split at h
      · obtain ⟨c, hc, rfl⟩ := List.mem_map.mp h
        exact Nat.or_lt_two_pow he (hy c hc)
      · cases h
theorem rsn_lt {ds ps : List Int} : ∀ (a : Bd), (∀ e w t, Bd.nd e w t ∈ subN a → e ∈ ds) → ∀ m ∈ rsn ds ps a, m < 2 ^ ds.length
  | .lf b, _, m, hm => by
    cases b with
    | false => cases hm
    | true =>
      have : m = 0 := List.mem_singleton.mp hm
      rw [this]
      exact Nat.two_pow_pos _
  | .nd e w t, hds, m, hm => by
    have i1 := rsn_lt (ps := ps) w fun e w t h => hds e w t (List.mem_cons_of_mem _ (List.mem_append_left _ h))
    have i2 := rsn_lt (ps := ps) t fun e w t h => hds e w t (List.mem_cons_of_mem _ (List.mem_append_right _ h))
    have hx : ∀ m ∈ (if e ∈ ps then rsn ds ps t else rsn ds ps w), m < 2 ^ ds.length := by split <;> assumption
    have hy : ∀ m ∈ (if e ∈ ps then rsn ds ps w else rsn ds ps t), m < 2 ^ ds.length := by split <;> assumption
    have he : 2 ^ ds.idxOf e < 2 ^ ds.length := Nat.pow_lt_pow_right (by decide) (List.idxOf_lt_length_of_mem (hds e w t List.mem_cons_self))
    have hm : m ∈ nodeR _ _ _ := hm
    unfold nodeR at hm
    rcases List.mem_append.mp hm with h | h
    · unfold bothR at h
      have h := (minS_iff.mp h).1
      obtain ⟨x, hx', h⟩ := List.mem_flatMap.mp h
      obtain ⟨y, hy', rfl⟩ := List.mem_map.mp h
      exact Nat.or_lt_two_pow (hx x hx') (hy y hy')
    · obtain ⟨c, hc, rfl⟩ := List.mem_map.mp h
      exact Nat.or_lt_two_pow he (hx c (List.mem_filter.mp hc).1)
theorem sub_trn : ∀ {a x y : Bd}, x ∈ subN a → y ∈ subN x → y ∈ subN a
  | .lf _, _, _, h, _ => by cases h
  | .nd e w t, x, y, h, hy => by
    rcases List.mem_cons.mp h with rfl | h
    · exact hy
    · refine List.mem_cons_of_mem _ ?_
      rcases List.mem_append.mp h with h | h
      · exact List.mem_append_left _ (sub_trn h hy)
      · exact List.mem_append_right _ (sub_trn h hy)
def sp_chgs (C C2 : Addr) (K : PySem.W.Frag) : Sp := fun vs H Q E => ∃ s N es L c A, ∃ (pa la : Addr) (ps al : List Int) (most : Nat), vs = [.ref s.p, .int ((c : Nat) : Int), .ref pa, .ref la, .int ((most : Nat) : Int)] ∧ Sto C K H s N es L ∧ At N c A ∧ Wf es A ∧ A.sz ≤ 1000 ∧ es.length ≤ 5 ∧ H pa = some (.lst (ps.map V.int)) ∧ H la = some (.lst (al.map V.int)) ∧
  ∀ ds : List Int, ds.Pairwise (· < ·) → (∀ e, e ∈ ds ↔ dpn A e) → if (∀ x ∈ subN A, (chg ds ps al x).length ≤ most) then (∀ H' r ls, Same H H' → H r = none → LLf H H' r ls → ls.Perm ((chg ds ps al A).map (mbr ds)) → SrtK ls → Q (.ref r) H') else ∀ H', Same H H' → E (.ref C2) none H'
theorem fds_free {C : Addr} {K : PySem.W.Frag} {H H' : Hp} {s : SA} {N : Nds} {es : List Int} {L : Nat} (st : Sto C K H' s N es L) (f : FdS s H H') {b : Addr} (h : H' b = none) : H b = none := by
  obtain ⟨_, ⟨xs, h2, _⟩, ⟨kvs, h4, _⟩, ⟨cvs, h6, _⟩, _⟩ := st
  cases hb : H b with
  | none => rfl
  | some o =>
    have := f b o (ne_of_none h2 h).symm (ne_of_none h4 h).symm (ne_of_none h6 h).symm hb
    rw [h] at this
    cases this
def sp_rsns (C C2 : Addr) (K : PySem.W.Frag) : Sp := fun vs H Q E => ∃ s N es L c A, ∃ (pa : Addr) (ps : List Int) (most : Nat), vs = [.ref s.p, .int ((c : Nat) : Int), .ref pa, .int ((most : Nat) : Int)] ∧ Sto C K H s N es L ∧ At N c A ∧ Wf es A ∧ A.sz ≤ 1000 ∧ es.length ≤ 5 ∧ H pa = some (.lst (ps.map V.int)) ∧ (pa ≠ s.k ∧ pa ≠ s.u ∧ pa ≠ s.m) ∧ N.length + 2 ^ es.length < sizeLine ∧ L + 2 ^ es.length < sizeLine ∧
  ∀ (T : Bd) (ds : List Int), Wf es T → (∀ ρ, T.ev ρ = (A.ev ρ == A.ev fun e => decide (e ∈ ps))) → ds.Pairwise (· < ·) → (∀ e, e ∈ ds ↔ dpn T e) → if (∀ x ∈ subN T, (rsn ds ps x).length ≤ most) then
    (∀ H' r ls M, FdS s H H' → Sto C K H' s (N ++ M) es (L + 2 ^ es.length) → M.length ≤ 2 ^ es.length → H r = none → LLf H H' r ls → ls.Perm ((rsn ds ps T).map (mbr ds)) → SrtK ls → Q (.ref r) H') else ∀ H' M, FdS s H H' → Sto C K H' s (N ++ M) es (L + 2 ^ es.length) → M.length ≤ 2 ^ es.length → E (.ref C2) none H'
section
variable {P : Program} {w : World} {K : PySem.W.Frag} {mg : Str → Option Value} {base : Heap} {C C2 : Addr}
theorem ok_skeyP {f : Addr} {fd : FuncData} (F : Fun K "set_key" "set_key" s_set_key f fd) (M : Mg mg) : FnOk P w K mg base CX0 1 f fd ["numbers"] sp_skeyP := by
  refine F.ok sc_set_key (fun vs H Q E h => ?_) (fun cdv A0 outer s H vs Q E hr h => ?_)
  · obtain ⟨b, p, rfl, _⟩ := h
    rfl
  · obtain ⟨b, p, rfl, hb, q⟩ := h
    refine ⟨_, (pss_one (ps_ret (pe_tup (pa_cons (pe_callB (len_seqK K) (by rfl) M.len PySem.boot_len (pa_cons (pv 0) pa_nil)) (pa_cons (pv 0) pa_nil))))), ?_⟩
    refine ⟨_, rfl, b, _, rfl, .inl (.of hb), ?_⟩
    rw [List.length_map]
    refine ⟨_, rfl, by show 2 ≤ sizeLine; decide, fun u nu => ?_⟩
    exact q _ u (same_upd nu) upd_same
/-- sets of rows, sorted by their number and their rows -/
theorem sort_sets {k : Nat} {fk D : Addr} {H0 H1 : Hp} {Q : VK} {bs : List Addr} {ls : List (List Int)} (hdk : Hd P w K mg base k fk sp_skeyP) (eD : H1 D = some (.lst (bs.map V.ref))) (hl : bs.length = ls.length) (hg : ∀ (i : Nat) b p, bs[i]? = some b → ls[i]? = some p → H0 b = none ∧ H1 b = some (.lst (p.map V.int)))
    (q : ∀ H' r ls', Same H1 H' → H1 r = none → ls'.Perm ls → SrtK ls' → LLf H0 H' r ls' → Q (.ref r) H') : rSortF P w K mg base k [.ref D] [.ref fk] H1 Q := by
  obtain ⟨g, hgg⟩ : ∃ g : V → List Int, ∀ b p, H1 b = some (.lst (p.map V.int)) → g (.ref b) = p := by
    classical
    refine ⟨fun y => if h : ∃ p : List Int, ∃ b, y = .ref b ∧ H1 b = some (.lst (p.map V.int)) then Classical.choose h else [], fun b p h => ?_⟩
    have hx : ∃ p : List Int, ∃ b', V.ref b = .ref b' ∧ H1 b' = some (.lst (p.map V.int)) := ⟨p, b, rfl, h⟩
    obtain ⟨b', e1, e2⟩ := Classical.choose_spec hx
    cases e1
    dsimp only
    rw [dif_pos hx]
    rw [h] at e2
    exact (ints_inj2 (HO.lst.inj (Option.some.inj e2))).symm
  have mem : ∀ y, y ∈ bs.map V.ref → ∃ (b : Addr) (p : List Int), y = .ref b ∧ H0 b = none ∧ H1 b = some (.lst (p.map V.int)) := fun y hy => by
    obtain ⟨b, hb, rfl⟩ := List.mem_map.mp hy
    obtain ⟨m, hm, e⟩ := List.getElem_of_mem hb
    obtain ⟨k1, k2⟩ := hg m b ls[m] (by rw [List.getElem?_eq_getElem hm, e]) (List.getElem?_eq_getElem (by omega))
    exact ⟨b, _, rfl, k1, k2⟩
  have emap : (bs.map V.ref).map g = ls := by
    refine List.ext_getElem? fun i => ?_
    rw [List.getElem?_map, List.getElem?_map]
    by_cases hi : i < bs.length
    · have hi2 : i < ls.length := by omega
      rw [List.getElem?_eq_getElem hi, List.getElem?_eq_getElem hi2]
      exact congrArg some (hgg _ _ (hg i _ _ (List.getElem?_eq_getElem hi) (List.getElem?_eq_getElem hi2)).2)
    · rw [List.getElem?_eq_none (by omega), List.getElem?_eq_none (by omega)]
      rfl
  refine ⟨D, fk, sp_skeyP, bs.map V.ref, fun y => skD (g y), true, rfl, rfl, .of eD, hdk, fun y hy Ha Rr sa kq => ?_, fun y _ => key_sk _, fun y _ z _ => okD_sk _ _, ?_, fun zs H' p s' np hsrt hstb ep => ?_⟩
  · obtain ⟨b, p, rfl, _, hb⟩ := mem y hy
    refine ⟨b, p, rfl, sa _ _ hb, fun H2' u s2 eu => kq (.ref u) H2' s2 fun H3' kp => ?_⟩
    dsimp only
    rw [hgg b p hb]
    exact .tup (.of (kp.2 _ _ (.inl ⟨_, rfl⟩) eu)) (.cons (.int _) (.cons (dp_ints (.of (kp.1 _ _ hb))) .nil))
  · rw [show (fun y z : V => ltD (skD (g y)) (skD (g z))) = fun y z => kLt (ky2 (g y)) (ky2 (g z)) from funext fun y => funext fun z => ltD_sk _ _]
    exact ⟨fun _ _ h => kLt_asym h, fun _ _ _ h k => kLt_ntr k h⟩
  · have hz : ∀ y, y ∈ zs ↔ y ∈ bs.map V.ref := fun y => hstb.perm.mem_iff
    obtain ⟨cs, rfl⟩ := all_refs fun z h => by
      obtain ⟨b, p, rfl, _⟩ := mem z ((hz z).mp h)
      exact ⟨b, rfl⟩
    refine q H' p ((cs.map V.ref).map g) s' np ?_ ?_ ⟨cs, ep, by rw [List.length_map, List.length_map], fun i b p h1 h2 => ?_⟩
    · rw [← emap]
      exact hstb.perm.map g
    · show List.Pairwise _ _
      rw [List.pairwise_map]
      refine List.Pairwise.imp (fun {y z} h => ?_) hsrt
      rw [← ltD_sk]
      exact h
    · obtain ⟨b', p', e, k1, k2⟩ := mem (.ref b) ((hz _).mp (List.mem_map.mpr ⟨b, List.mem_of_getElem? h1, rfl⟩))
      cases e
      rw [List.getElem?_map, List.getElem?_map, h1] at h2
      have h2 : g (.ref b) = p := Option.some.inj h2
      rw [hgg b p' k2] at h2
      subst h2
      exact ⟨k1, s' _ _ k2⟩
end

section
variable {P : Program} {w : World} {K : PySem.W.Frag} {mg : Str → Option Value} {base : Heap} {C C2 : Addr}
set_option maxHeartbeats 8000000 in
theorem ok_rsns {f : Addr} {fd : FuncData} (F : Fun K "reasons" "reasons" s_reasons f fd) (M : Mg mg) (c_Diagrams_holds : ClM P w K mg base 2 C "holds" (sp_holds C K)) (c_Diagrams_negation : ClM P w K mg base 9 C "negation" (sp_neg C K 6)) (c_Diagrams_table : ClM P w K mg base 3 C "table" (sp_table C K)) (c_Diagrams_depends : ClM P w K mg base 4 C "depends" (sp_dep C K)) (c_members : Cl P w K mg base 1 "members" sp_mbr) (cx_forcing_node : ClX P w K mg base 3 "forcing_node" (sp_fnode C2)) (c_set_key : Cl P w K mg base 1 "set_key" sp_skeyP) : FnOk P w K mg base (L2.CX P w) 10 f fd ["store", "condition", "present", "most"] (sp_rsns C C2 K) := by
  obtain ⟨fk, hm_set_key, hdk⟩ := c_set_key.hd
  refine F.okX sc_reasons (fun vs H Q E h => ?_) (fun cdv A0 outer s0 H vs Q E hr h => ?_)
  · obtain ⟨s, N, es, L, c, A, pa, ps, most, rfl, _⟩ := h
    rfl
  · obtain ⟨s, N, es, L, c, A, pa, ps, most, rfl, st, hA, wA, hsz, hl5, hpa, npa, bN, bL, q⟩ := h
    have hpw : 2 ^ es.length ≤ 32 := Nat.pow_le_pow_right (n := 2) (by decide) hl5
    refine ⟨_, (pss_cons (ps_set (i := 4) sc_reasons.nd rfl (.inl rfl) (pe_ifExp (pt_val (pe_mt c_Diagrams_holds hr (by first | decide | omega) (pv 0) (pa_cons (pv 1) (pa_cons (pv 2) pa_nil)))) (pv 1) (pe_mt c_Diagrams_negation hr (by first | decide | omega) (pv 0) (pa_cons (pv 1) pa_nil))))
      (pss_cons (ps_asg (pe_mt c_Diagrams_table hr (by first | decide | omega) (pv 0) (pa_cons (pv 4) pa_nil)) (pg_tup (by rfl) (pgs_cons (pg_name (i := 5) sc_reasons.nd rfl (.inl rfl)) (pgs_cons (pg_name (i := 6) sc_reasons.nd rfl (.inl rfl)) pgs_nil))))
      (pss_cons (ps_set (i := 7) sc_reasons.nd rfl (.inr rfl) (pe_mt c_Diagrams_depends hr (by first | decide | omega) (pv 0) (pa_cons (pv 4) pa_nil)))
      (pss_cons (ps_setDc (i := 9) (own := [("at", 15), ("entry", 8)]) (g := gTup K 2 (gCons (gName 15) (gCons (gName 8) (gNil)))) (tt := tYes) rfl sc_reasons.nd rfl rfl (sw_trueD rfl rfl rfl (by decide +kernel)) (pi_enum (by rfl) M.enumerate (pa_cons (pv 7) pa_nil)) (blkOk_by (N := N_reasons) (sc := defScope s_reasons) (by decide +kernel)) (fun _ _ _ _ _ => (pg_tup (by rfl) (pgs_cons (pg_name (i := 15) sc_reasons.nd rfl (.inl rfl)) (pgs_cons (pg_name (i := 8) sc_reasons.nd rfl (.inl rfl)) pgs_nil)))) (fun _ _ _ _ _ => pts_nil) (fun _ _ _ _ _ => (pv 8)) (fun _ _ _ _ _ => (pe_op op_shl pe_int (pv 15))))
      (pss_cons (ps_set (i := 10) sc_reasons.nd rfl (.inl rfl) (pe_lst (pa_cons (pe_lst pa_nil) (pa_cons (pe_lst (pa_cons pe_int pa_nil)) pa_nil))))
      (pss_cons (ps_for (passes_of rfl) rfl (pi_list (pv 5)) (pg_tup (by rfl) (pgs_cons (pg_name (i := 8) sc_reasons.nd rfl (.inl rfl)) (pgs_cons (pg_name (i := 11) sc_reasons.nd rfl (.inl rfl)) (pgs_cons (pg_name (i := 12) sc_reasons.nd rfl (.inl rfl)) pgs_nil)))) (pss_cons (ps_asg (pe_ifExp (pt_cmpR (inK K) (pv 8) (pv 2) (by rfl)) (pe_tup (pa_cons (pv 12) (pa_cons (pv 11) pa_nil))) (pe_tup (pa_cons (pv 11) (pa_cons (pv 12) pa_nil)))) (pg_tup (by rfl) (pgs_cons (pg_name (i := 13) sc_reasons.nd rfl (.inl rfl)) (pgs_cons (pg_name (i := 14) sc_reasons.nd rfl (.inl rfl)) pgs_nil))))
      (pss_one (ps_expr (pe_bmK K PySem.F.plainAttrs_list PySem.F.slot_list_append PySem.F.type_list_append mt_append (pv 10) (pa_cons (pe_ux cx_forcing_node hr (by first | decide | omega) (E := E) (passX (takes_of rfl rfl rfl rfl)) (by rfl) (pa_cons (pe_dget (hu_of hr) (pv 9) (pv 8) (fun _ _ => rfl)) (pa_cons (pe_ix (ix_listK K) (pv 10) (pv 13) (fun _ _ => rfl)) (pa_cons (pe_ix (ix_listK K) (pv 10) (pv 14) (fun _ _ => rfl)) (pa_cons (pv 3) pa_nil))))) pa_nil))))))
      (pss_one (ps_ret (pe_callBK (cr_sortFK (P := P) (w := w) (K := K) (mg := mg) (base := base) (k := 1) hr (by first | decide | omega)) (by rfl) M.sorted (by decide +kernel) (pa_cons (pe_lc (own := [("mask", 16)]) (g := gName 16) (tt := tYes) rfl sc_reasons.nd (pi_list (pe_ix (ix_listK K) (pv 10) (pv 6) (fun _ _ => rfl))) (blkOk_by (N := N_reasons) (sc := defScope s_reasons) (by decide +kernel)) (fun _ _ _ _ _ => (pg_name (i := 16) sc_reasons.nd rfl (.inl rfl))) (fun _ _ _ _ _ => pts_nil) (fun _ _ _ _ _ => (pe_u c_members hr (by first | decide | omega) (by rfl) (pa_cons (pv 16) (pa_cons (pv 7) pa_nil))))) pa_nil) (pk_cons (C8.pe_gc (v := .ref _) (by rfl) ⟨_, hm_set_key, rfl⟩) pk_nil)))))))))), ?_⟩
    refine ⟨_, rfl, st.go (by decide +kernel) (by decide +kernel) (by decide +kernel) ⟨_, rfl, _, rfl, s, N, es, L, c, A, pa, ps, rfl, st, hA, .of hpa, _, rfl, ?_⟩⟩
    obtain ⟨Ho, eHo⟩ : ∃ Ho, Ho = H := ⟨_, rfl⟩
    refine ite2 (fun g => ?h5) (fun g => ?h6)
    case' h5 =>
      refine ⟨_, rfl, ?_⟩
      have ekp : ∀ ρ, A.ev ρ = (A.ev ρ == A.ev fun x => decide (x ∈ ps)) := fun ρ => by
        rw [g]
        cases A.ev ρ <;> rfl
      have f01 : FdS s Ho H := by rw [eHo]; exact FdS.refl _ _
      obtain ⟨M1, eM1⟩ : ∃ M1 : Nds, M1 = [] := ⟨_, rfl⟩
      have l1 : M1.length ≤ 2 ^ es.length := by rw [eM1]; exact Nat.zero_le _
      have st1 : Sto C K H s (N ++ M1) es (L + 2 ^ es.length) := by rw [eM1, List.append_nil]; exact st.more (Nat.le_add_right _ _)
      have hT : At (N ++ M1) c A := by rw [eM1, List.append_nil]; exact hA
      have wT := wA
      obtain ⟨T, eT1⟩ : ∃ T, T = A := ⟨_, rfl⟩
      have vT : ∀ ρ, T.ev ρ = (A.ev ρ == A.ev fun x => decide (x ∈ ps)) := by rw [eT1]; exact ekp
      rw [← eT1] at hT wT
      clear eT1 eM1
      rw [← eHo] at q st hpa
      clear hA eHo
      generalize c = r1 at hT ⊢
    case' h6 =>
      refine ⟨_, rfl, st.go (by decide +kernel) (by decide +kernel) (by decide +kernel) ⟨_, rfl, s, N, es, L, c, A, rfl, st, by omega, hA, wA, by omega, by omega, fun H1 M1 r1 T f01 l1 st1 hT wT vt1 => ?_⟩⟩
      have vT : ∀ ρ, T.ev ρ = (A.ev ρ == A.ev fun x => decide (x ∈ ps)) := fun ρ => by
        rw [vt1, Bool.eq_false_iff.mpr g]
        cases A.ev ρ <;> rfl
      rw [← eHo] at q st hpa f01
      clear hA eHo
      generalize H1 = H at f01 st1 ⊢
    all_goals
      have hpa := f01 _ _ npa.1 npa.2.1 npa.2.2 hpa
      have fr : ∀ b, H b = none → Ho b = none := fun b hb => fds_free st1 f01 hb
      have hsz : T.sz ≤ 1000 := by
        have := wf_sz wT
        omega
      have hnd := st1.es_nd
      refine ⟨_, rfl, st1.go (by decide +kernel) (by decide +kernel) (by decide +kernel) ⟨_, rfl, ?_⟩⟩
      refine ⟨s, _, es, _, r1, T, rfl, st1, hT, hsz, fun H1 q1 nl xs s1 e1 nnl enl dxs => ?_⟩
      have h00 : ([] : List Bd).length = 0 := rfl
      have hlen := post_len T []
      have hord : Ordd (post [] T) := post_ord T [] (by intro _ _ _ _ h; simp at h)
      have hnds := post_nds T [] (by intro _ h; cases h)
      have hwf := post_wf T [] wT (by intro _ h; cases h)
      have hself := post_self T []
      have hiff := post_iff (a := T) (acc := []) (by intro _ _ _ h; cases h)
      generalize post [] T = acc at e1 dxs hlen hord hnds hself hwf hiff
      refine ⟨q1, _, rfl, .of e1, rfl, _, _, rfl, _, _, rfl, rfl, ?_⟩
      have st2 := st1.ext s1
      refine ⟨_, rfl, st2.go (by decide +kernel) (by decide +kernel) (by decide +kernel) ⟨_, rfl, ?_⟩⟩
      refine ⟨s, _, es, _, r1, T, rfl, st2, hT, wT, hsz, by omega, fun H2 dp ds s12 ndp eds hds hmem => ?_⟩
      have q := q T ds wT vT hds hmem
      have dnd : ds.Nodup := hds.imp fun h => by omega
      have dsub : ∀ x ∈ ds, x ∈ es := fun x hx => by
        obtain ⟨u, v, h⟩ := (hmem x).mp hx
        exact (sub_wf wT h).none_of
      have dl5 : ds.length ≤ 5 := by
        have e : es.filter (fun x => decide (x ∈ ds)) = ds := pw_ext3 (st1.srt.sublist List.filter_sublist) hds fun x => by
          rw [List.mem_filter, decide_eq_true_iff]
          exact ⟨fun h => h.2, fun h => ⟨dsub x h, h⟩⟩
        rw [← e]
        exact Nat.le_trans (List.length_filter_le _ _) hl5
      have p32 : 2 ^ ds.length ≤ 32 := Nat.pow_le_pow_right (n := 2) (by decide) dl5
      have hrow : ∀ x ∈ acc, ∀ e u v, Bd.nd e u v ∈ subN x → e ∈ ds := fun x hx e u v h => (hmem e).mpr (by
        have hx2 : x ∈ subN T := ((hiff x).mp hx).elim (fun z => by cases z) id
        exact ⟨u, v, sub_trn hx2 h⟩)
      have idx_at : ∀ {i : Nat} {y : Int}, ds[i]? = some y → ds.idxOf y = i := fun {i y} hy => by
        have hi : i < ds.length := (List.getElem?_eq_some_iff.mp hy).1
        have hyi : ds[i] = y := by rw [List.getElem?_eq_getElem hi] at hy; exact Option.some.inj hy
        rw [← hyi]
        exact List.Nodup.idxOf_getElem dnd i hi
      have hltF : ∀ x, (∀ e u v, Bd.nd e u v ∈ subN x → e ∈ ds) → ∀ m ∈ rsn ds ps x, m < 2 ^ ds.length := fun x h => rsn_lt x h
      have hlenF : ∀ x, Wf es x → (∀ e u v, Bd.nd e u v ∈ subN x → e ∈ ds) → (rsn ds ps x).length ≤ 32 := fun x h1 h2 => Nat.le_trans (few_le (rsn_ok (ps := ps) hnd x h1 h2).2 (hltF x h2)) p32
      have s02 := s1.trans s12
      -- the bits
      refine ⟨_, rfl, dp, _, rfl, .of eds, fun bd nbd => ?_⟩
      refine dc_enum (w := w) (K := K) (a := dp) (xs := ds.map V.int) (fun i Hi => Same H2 Hi ∧ ∃ kvs, Hi bd = some (.dK kvs) ∧ kvs.length ≤ i ∧ ∀ x ∈ ds.take i, valV kvs (.inl x) = some (.int ((2 ^ ds.idxOf x : Nat) : Int))) ⟨same_upd nbd, [], upd_same, Nat.le_refl _, by intro _ h; simp at h⟩ (fun i Hi _ hp => .of (hp.1 _ _ eds)) (fun i x Hi T hx hp nT => ?_) (fun H3 hp => ?_)
      · obtain ⟨si, kvs, eD, lk, hv⟩ := hp
        rw [List.getElem?_map] at hx
        obtain ⟨y, hy, rfl⟩ := Option.map_eq_some_iff.mp hx
        have hi : i < ds.length := (List.getElem?_eq_some_iff.mp hy).1
        refine ⟨T, _, rfl, .of upd_same, rfl, _, _, rfl, _, _, rfl, rfl, rfl, ?_⟩
        have sT := same_upd nT (o := .tup [.int ((i : Nat) : Int), .int y])
        refine ⟨_, rfl, _, rfl, _, _, rfl, rfl, ⟨by omega, by omega, by decide⟩, kvs, .inl y, rfl, sT _ _ eD, Nat.lt_of_le_of_lt (m := 60) (by omega) (by decide), ?_, _, upd_same, ?_, fun z hz => ?_⟩
        · intro b o hb
          rw [upd_ne (ne_of_none hb nbd)]
          exact sT _ _ (si _ _ hb)
        · have := putK_le kvs (.inl y : Key) ((fun (i j : Int) => V.int (i * 2 ^ j.toNat)) 1 ((i : Nat) : Int))
          omega
        · have ep : (1 : Int) * 2 ^ (((i : Nat) : Int)).toNat = ((2 ^ i : Nat) : Int) := by rw [Int.one_mul, Int.toNat_natCast, Int.natCast_pow]; rfl
          rw [valV_put]
          dsimp only
          rw [ep]
          by_cases g : z = y
          · subst g
            rw [if_pos rfl, idx_at hy]
          · rw [if_neg (fun h => g (Sum.inl.inj h))]
            rw [List.take_add_one, hy] at hz
            rcases List.mem_append.mp hz with hz | hz
            · exact hv z hz
            · exact absurd (List.mem_singleton.mp hz) g
      obtain ⟨s23, kvs, ebd, _, hbit⟩ := hp
      rw [List.length_map, List.take_of_length_le (Nat.le_refl _)] at hbit
      -- the leaves
      refine ⟨Nat.zero_le _, fun T1 nT1 => ?_⟩
      have sT1 := same_upd nT1 (o := .lst [])
      have aT1 : (upd H3 T1 (.lst [])) T1 = some (.lst (natL [])) := upd_same
      generalize upd H3 T1 (.lst []) = H4 at sT1 aT1 ⊢
      refine ⟨by show 1 ≤ sizeLine; decide, fun T2 nT2 => ?_⟩
      have sT2 := same_upd nT2 (o := .lst [.int 0])
      have aT2 : (upd H4 T2 (.lst [.int 0])) T2 = some (.lst (natL [0])) := upd_same
      have aT12 := sT2 _ _ aT1
      generalize upd H4 T2 (.lst [.int 0]) = H5 at sT2 aT2 aT12 ⊢
      refine ⟨by show 2 ≤ sizeLine; decide, fun kn nkn => ?_⟩
      have sk := same_upd nkn (o := .lst [.ref T1, .ref T2])
      have s25 := (s23.trans sT1).trans sT2
      have s05 := s02.trans s25
      have nkH : H kn = none := s05.free nkn
      have g0 : GL natL H (upd H5 kn (.lst [.ref T1, .ref T2])) kn ((Bd.lf false :: Bd.lf true :: acc.take 0).map (rsn ds ps)) := ⟨[T1, T2], upd_same, rfl, fun i b p h1 h2 => by
        match i, h1, h2 with
        | 0, h1, h2 =>
          cases h1
          cases h2
          exact ⟨ne_of_none aT12 nkn, ((s02.trans s23).free nT1), sk _ _ aT12⟩
        | 1, h1, h2 =>
          cases h1
          cases h2
          exact ⟨ne_of_none aT2 nkn, (((s02.trans s23).trans sT1).free nT2), sk _ _ aT2⟩
        | i + 2, h1, h2 => simp at h1⟩
      have lxs : xs.length = acc.length := by rw [DpAll.len dxs, List.length_map]
      have enl5 := s25 _ _ (s12 _ _ enl)
      refine ⟨_, rfl, nl, rfl, ⟨_, .of (sk _ _ enl5)⟩, ?_⟩
      refine for_list (K := K) (a := nl) (xs := xs) (fun i σ Hi => Same H5 Hi ∧ (∃ z1 z8 z11 z12 z13 z14, σ = [some (.ref s.p), z1, some (.ref pa), some (.int ((most : Nat) : Int)), some (.int ((r1 : Nat) : Int)), some (.ref nl), some (.int ((nmb acc T : Nat) : Int)), some (.ref dp), z8, some (.ref bd), some (.ref kn), z11, z12, z13, z14, none, none]) ∧ GL natL H Hi kn ((Bd.lf false :: Bd.lf true :: acc.take i).map (rsn ds ps)) ∧ ∀ x ∈ acc.take i, (rsn ds ps x).length ≤ most)
        ⟨sk, ⟨_, _, _, _, _, _, rfl⟩, g0, by intro _ h; simp at h⟩ (fun i σ Hi _ hp => .of (hp.1 _ _ enl5)) (fun i y σ Hi hy hp => ?_) (fun σ Hn hp => ?_)
      · obtain ⟨si, ⟨z1, z8, z11, z12, z13, z14, rfl⟩, hgl, hmost⟩ := hp
        have hi : i < acc.length := by rw [← lxs]; exact (List.getElem?_eq_some_iff.mp hy).1
        obtain ⟨u, hu, hd⟩ := DpAll.get dxs (show (acc.map (rowD acc))[i]? = some (rowD acc acc[i]) by rw [List.getElem?_map, List.getElem?_eq_getElem hi]; rfl)
        obtain rfl : u = y := Option.some.inj (hu.symm.trans hy)
        obtain ⟨e, wt, tt', hei⟩ := hnds acc[i] (List.getElem_mem hi)
        have hwi : Wf es (.nd e wt tt') := by rw [← hei]; exact hwf acc[i] (List.getElem_mem hi)
        obtain ⟨k1, k2⟩ := hord i e wt tt' (by rw [List.getElem?_eq_getElem hi, hei])
        have pt := List.take_prefix i acc
        have hin : Bd.nd e wt tt' ∈ acc := by rw [← hei]; exact List.getElem_mem hi
        have hrw : ∀ x u v, Bd.nd x u v ∈ subN wt → x ∈ ds := fun x u v h => hrow _ hin x u v (List.mem_cons_of_mem _ (List.mem_append_left _ h))
        have hrt : ∀ x u v, Bd.nd x u v ∈ subN tt' → x ∈ ds := fun x u v h => hrow _ hin x u v (List.mem_cons_of_mem _ (List.mem_append_right _ h))
        have hee : e ∈ ds := hrow _ hin e wt tt' List.mem_cons_self
        rw [hei] at hd
        have hd' : Dp K H1 u (.tuple [.int e, .int ((nmb (acc.take i) wt : Nat) : Int), .int ((nmb (acc.take i) tt' : Nat) : Int)]) := by
          rw [← nmb_pre pt k1, ← nmb_pre pt k2]
          exact hd
        obtain ⟨ra, rs, rfl, hrs, hra⟩ := dp_tup hd'
        have : rs = [.int e, .int ((nmb (acc.take i) wt : Nat) : Int), .int ((nmb (acc.take i) tt' : Nat) : Int)] := by
          cases hra with
          | cons g1 g2 =>
            cases g1
            cases g2 with
            | cons g3 g4 =>
              cases g3
              cases g4 with
              | cons g5 g6 =>
                cases g5
                cases g6
                rfl
        subst this
        have s1i := (s12.trans s25).trans si
        obtain ⟨w1, w2⟩ := wf_kids hwi
        have lW := hlenF wt w1 hrw
        have lT := hlenF tt' w2 hrt
        refine ⟨ra, _, rfl, SqT.ext s1i hrs, rfl, _, _, rfl, _, _, rfl, _, _, rfl, rfl, ?_⟩
        have hpai := (s05.trans si) _ _ hpa
        refine ⟨_, rfl, _, rfl, pa, _, rfl, .inl (.of hpai), rfl, by rw [List.all_map]; exact List.all_eq_true.mpr fun _ _ => rfl, _, rfl, ?_⟩
        rw [if_neg Bool.false_ne_true, inV_int]
        refine ite2 (fun g => ⟨_, rfl, _, rfl, by show 2 ≤ sizeLine; decide, fun t nt => ?_⟩) (fun g => ⟨_, rfl, _, rfl, by show 2 ≤ sizeLine; decide, fun t nt => ?_⟩)
        focus
          have eb : rsn ds ps (.nd e wt tt') = nodeR (2 ^ ds.idxOf e) (rsn ds ps (tt')) (rsn ds ps (wt)) := by
            show nodeR _ (if e ∈ ps then _ else _) (if e ∈ ps then _ else _) = _
            rw [if_pos (of_decide_eq_true g), if_pos (of_decide_eq_true g)]
          have sj := same_upd nt (o := .tup [.int ((nmb (acc.take i) tt' : Nat) : Int), .int ((nmb (acc.take i) wt : Nat) : Int)])
          refine ⟨t, _, rfl, .of upd_same, rfl, _, _, rfl, _, _, rfl, rfl, ?_⟩
          generalize upd Hi t (.tup [.int ((nmb (acc.take i) tt' : Nat) : Int), .int ((nmb (acc.take i) wt : Nat) : Int)]) = Hj at sj ⊢
          have hA' : ((Bd.lf false :: Bd.lf true :: acc.take i).map (rsn ds ps))[nmb (acc.take i) tt']? = some (rsn ds ps (tt')) := by rw [List.getElem?_map, kw_get k2]; rfl
          have hB' : ((Bd.lf false :: Bd.lf true :: acc.take i).map (rsn ds ps))[nmb (acc.take i) wt]? = some (rsn ds ps (wt)) := by rw [List.getElem?_map, kw_get k1]; rfl
          have lX := lT
          have lY := lW
          have mX := hltF tt' hrt
          have mY := hltF wt hrw
          generalize nmb (acc.take i) tt' = nA at hA' ⊢
          generalize nmb (acc.take i) wt = nB at hB' ⊢
          generalize rsn ds ps (tt') = X at hA' eb lX mX
          generalize rsn ds ps (wt) = Y at hB' eb lY mY
        rotate_left
        focus
          have eb : rsn ds ps (.nd e wt tt') = nodeR (2 ^ ds.idxOf e) (rsn ds ps (wt)) (rsn ds ps (tt')) := by
            show nodeR _ (if e ∈ ps then _ else _) (if e ∈ ps then _ else _) = _
            rw [if_neg (fun z => g (decide_eq_true z)), if_neg (fun z => g (decide_eq_true z))]
          have sj := same_upd nt (o := .tup [.int ((nmb (acc.take i) wt : Nat) : Int), .int ((nmb (acc.take i) tt' : Nat) : Int)])
          refine ⟨t, _, rfl, .of upd_same, rfl, _, _, rfl, _, _, rfl, rfl, ?_⟩
          generalize upd Hi t (.tup [.int ((nmb (acc.take i) wt : Nat) : Int), .int ((nmb (acc.take i) tt' : Nat) : Int)]) = Hj at sj ⊢
          have hA' : ((Bd.lf false :: Bd.lf true :: acc.take i).map (rsn ds ps))[nmb (acc.take i) wt]? = some (rsn ds ps (wt)) := by rw [List.getElem?_map, kw_get k1]; rfl
          have hB' : ((Bd.lf false :: Bd.lf true :: acc.take i).map (rsn ds ps))[nmb (acc.take i) tt']? = some (rsn ds ps (tt')) := by rw [List.getElem?_map, kw_get k2]; rfl
          have lX := lW
          have lY := lT
          have mX := hltF wt hrw
          have mY := hltF tt' hrt
          generalize nmb (acc.take i) wt = nA at hA' ⊢
          generalize nmb (acc.take i) tt' = nB at hB' ⊢
          generalize rsn ds ps (wt) = X at hA' eb lX mX
          generalize rsn ds ps (tt') = Y at hB' eb lY mY
        all_goals
          have sij := si.trans sj
          have glj := hgl.ext sj
          obtain ⟨bs, ekn, lbs, _⟩ := id glj
          obtain ⟨bA, hbA, _, nbA, eA⟩ := glj.at ekn hA'
          obtain ⟨bB, hbB, _, nbB, eB⟩ := glj.at ekn hB'
          have bdj := ((sT1.trans sT2).trans sij) _ _ ebd
          have hb1 := hbit e hee
          have lb2 : bs.length ≤ 1002 := by
            rw [lbs, List.length_map, List.length_cons, List.length_cons, List.length_take]
            omega
          have s6 : Same Hj Hj := fun _ _ h => h
          refine ⟨_, rfl, .inl ⟨rfl, _, .inl (.inl ekn)⟩, ?_⟩
          refine ⟨_, rfl, _, rfl, bd, _, rfl, .inl ⟨kvs, .inl e, .of bdj, rfl, hb1.symm⟩, ?_⟩
          refine ⟨_, rfl, _, rfl, kn, _, _, _, rfl, rfl, .of ekn, atI_nat hbA, ?_⟩
          refine ⟨_, rfl, _, rfl, kn, _, _, _, rfl, rfl, .of ekn, atI_nat hbB, _, rfl, ?_⟩
          refine ⟨2 ^ ds.idxOf e, bA, bB, X, Y, most, rfl, eA, eB, fun m hm => Nat.lt_of_lt_of_le (mX m hm) p32, fun m hm => Nat.lt_of_lt_of_le (mY m hm) p32, by omega, by omega, ?_⟩
          rw [← eb]
          by_cases hm : (rsn ds ps (.nd e wt tt')).length ≤ most
          · rw [if_pos hm]
            intro H7 r s7 nr er
            have s67 := s6.trans s7
            have ekn7 := s67 _ _ ekn
            have gl7 := glj.ext s67
            refine ⟨kn, bs.map V.ref, _, rfl, rfl, ekn7, by rw [List.length_map]; exact Nat.lt_of_le_of_lt lb2 (by decide), fun b o hb => ?_, ⟨_, _, _, _, _, _, rfl⟩, ?_, fun x hx => ?_⟩
            · rw [upd_ne (ne_of_none hb nkn)]
              exact s67 _ _ (sij _ _ hb)
            · have etk : (Bd.lf false :: Bd.lf true :: acc.take (i + 1)).map (rsn ds ps) = (Bd.lf false :: Bd.lf true :: acc.take i).map (rsn ds ps) ++ [rsn ds ps (.nd e wt tt')] := by
                rw [List.take_add_one, List.getElem?_eq_getElem hi, hei, ← List.cons_append, ← List.cons_append, List.map_append]
                rfl
              rw [etk]
              exact gl7.snoc ekn7 (ne_of_none (s6 _ _ ekn) nr).symm (((s05.trans sij).trans s6).free nr) er
            · rw [List.take_add_one, List.getElem?_eq_getElem hi, hei] at hx
              rcases List.mem_append.mp hx with hx | hx
              · exact hmost x hx
              · rw [List.mem_singleton.mp hx]
                exact hm
          · rw [if_neg hm]
            intro H7 s7
            have hall : ¬ ∀ x ∈ subN T, (rsn ds ps x).length ≤ most := fun z => hm (z _ (((hiff _).mp hin).elim (fun z => by cases z) id))
            rw [if_neg hall] at q
            exact q H7 M1 (f01.trans (.of ((s05.trans sij).trans (s6.trans s7)))) (st1.ext ((s05.trans sij).trans (s6.trans s7))) l1
      · obtain ⟨sn, ⟨z1, z8, z11, z12, z13, z14, rfl⟩, hgl, hmost⟩ := hp
        rw [lxs, List.take_of_length_le (Nat.le_refl _)] at hgl hmost
        have hall : ∀ x ∈ subN T, (rsn ds ps x).length ≤ most := fun x hx => hmost x ((hiff x).mpr (.inr hx))
        rw [if_pos hall] at q
        obtain ⟨bs, ekn, lbs, _⟩ := id hgl
        obtain ⟨bA, hbA, _, nbA, eA⟩ := hgl.at ekn (show _ = some (rsn ds ps T) by rw [List.getElem?_map, kw_get hself]; rfl)
        have edn := (s25.trans sn) _ _ eds
        have lX := hlenF T wT fun e u v h => (hmem e).mpr ⟨u, v, h⟩
        generalize rsn ds ps T = X at eA lX q
        refine ⟨_, rfl, _, rfl, kn, _, _, _, rfl, rfl, .of ekn, atI_nat hbA, bA, rfl, ⟨_, .of eA⟩, fun D nD => ?_⟩
        refine lc_list (K := K) (a := bA) (xs := natL X) (fun j Hj => Same Hn Hj ∧ GL intL Hn Hj D ((X.take j).map (mbr ds))) ⟨same_upd nD, [], upd_same, rfl, by intro i b p h1; simp at h1⟩ (fun j Hj _ hp => .of (hp.1 _ _ eA)) (fun j y Hj hy hp => ?_) (fun Hm hp => ?_)
        · obtain ⟨sj, hglD⟩ := hp
          obtain ⟨m, hm, rfl⟩ := natL_get hy
          obtain ⟨cs, eD, lcs, _⟩ := id hglD
          refine ⟨rfl, _, rfl, _, rfl, m, dp, ds, rfl, sj _ _ edn, dnd, by omega, fun H5' r5 s5 n5 e5 => ?_⟩
          have eD5 := s5 _ _ eD
          refine ⟨_, eD5, by rw [List.length_map, lcs, List.length_map, List.length_take]; exact Nat.lt_of_le_of_lt (m := 32) (by omega) (by decide), fun b o hb => ?_, ?_⟩
          · rw [upd_ne (ne_of_none hb nD)]
            exact s5 _ _ (sj _ _ hb)
          · have etk : (X.take (j + 1)).map (mbr ds) = (X.take j).map (mbr ds) ++ [mbr ds m] := by
              rw [List.take_add_one, hm, List.map_append]
              rfl
            rw [etk]
            exact (hglD.ext s5).snoc eD5 (ne_of_none eD n5).symm (sj.free n5) e5
        · obtain ⟨sm, hglD⟩ := hp
          rw [natL_len, List.take_of_length_le (Nat.le_refl _)] at hglD
          obtain ⟨cs, eD, lcs, gcs⟩ := hglD
          refine sort_sets (H0 := Ho) hdk eD lcs (fun i b p h1 h2 => ⟨fr _ ((s05.trans sn).free (gcs i b p h1 h2).2.1), (gcs i b p h1 h2).2.2⟩) fun H' r ls s' nr hp hs hL => ?_
          exact q H' r ls M1 (f01.trans (.of ((s05.trans sn).trans (sm.trans s')))) (st1.ext ((s05.trans sn).trans (sm.trans s'))) l1 (fr _ ((s05.trans sn).free (sm.free nr))) hL hp hs
end

/-! ### lists of lists -/
def Lf {α : Type} (f : α → V) (H : Hp) (p : Addr) (ls : List (List α)) : Prop := ∃ as : List Addr, H p = some (.lst (as.map V.ref)) ∧ as.length = ls.length ∧ ∀ (i : Nat) b l, as[i]? = some b → ls[i]? = some l → b ≠ p ∧ H b = some (.lst (l.map f))
theorem Lf.ext {α : Type} {f : α → V} {H H' : Hp} {p : Addr} {ls : List (List α)} (e : Same H H') (h : Lf f H p ls) : Lf f H' p ls := by
  obtain ⟨as, h1, h2, h3⟩ := h
  exact ⟨as, e _ _ h1, h2, fun i b l g1 g2 => ⟨(h3 i b l g1 g2).1, e _ _ (h3 i b l g1 g2).2⟩⟩
theorem Lf.snoc {α : Type} {f : α → V} {H : Hp} {p b : Addr} {ls : List (List α)} {l : List α} {xs : List V} (h : Lf f H p ls) (e : H p = some (.lst xs)) (n : b ≠ p) (hb : H b = some (.lst (l.map f))) : Lf f (upd H p (.lst (xs ++ [.ref b]))) p (ls ++ [l]) := by
  obtain ⟨as, h1, h2, h3⟩ := h
  have ex : xs = as.map V.ref := by rw [h1] at e; exact (HO.lst.inj (Option.some.inj e)).symm
  refine ⟨as ++ [b], by rw [upd_same, ex, List.map_append]; rfl, by rw [List.length_append, List.length_append, h2]; rfl, fun i c m hc hm => ?_⟩
  by_cases hi : i < as.length
  · rw [List.getElem?_append_left hi] at hc
    rw [List.getElem?_append_left (by omega)] at hm
    obtain ⟨g1, g2⟩ := h3 i c m hc hm
    exact ⟨g1, by rw [upd_ne g1]; exact g2⟩
  · rw [List.getElem?_append_right (by omega)] at hc
    rw [List.getElem?_append_right (by omega), ← h2] at hm
    cases hk : i - as.length with
    | zero =>
      rw [hk] at hc hm
      have e1 : b = c := Option.some.inj hc
      have e2 : l = m := Option.some.inj hm
      subst e1 e2
      exact ⟨n, by rw [upd_ne n]; exact hb⟩
    | succ k => rw [hk] at hc; simp at hc
theorem Lf.get {α : Type} {f : α → V} {H : Hp} {p : Addr} {ls : List (List α)} (h : Lf f H p ls) : ∃ as : List Addr, H p = some (.lst (as.map V.ref)) ∧ as.length = ls.length ∧ ∀ (i : Nat) l, ls[i]? = some l → ∃ b, as[i]? = some b ∧ H b = some (.lst (l.map f)) := by
  obtain ⟨as, h1, h2, h3⟩ := h
  refine ⟨as, h1, h2, fun i l hl => ?_⟩
  have hi : i < as.length := by rw [h2]; exact (List.getElem?_eq_some_iff.mp hl).1
  exact ⟨as[i], List.getElem?_eq_getElem hi, (h3 i _ l (List.getElem?_eq_getElem hi) hl).2⟩
/-! ### conditions by their truth -/
theorem subs_all' : ∀ (es pre : List Int) (f : List (List Int)), (pre ++ es).Nodup → (∀ ρ : Int → Bool, ∃ p ∈ f, (∀ e ∈ p, e ∈ pre) ∧ ∀ e ∈ pre, decide (e ∈ p) = ρ e) → ∀ ρ : Int → Bool, ∃ p ∈ es.foldl (fun f e => f ++ f.map (· ++ [e])) f, ∀ e ∈ pre ++ es, decide (e ∈ p) = ρ e
  | [], pre, f, _, h, ρ => by
    obtain ⟨p, hp, _, h2⟩ := h ρ
    exact ⟨p, hp, fun e he => h2 e (by rwa [List.append_nil] at he)⟩
  | x :: es, pre, f, hn, h, ρ => by
    have hx : x ∉ pre := by
      intro hx
      rw [List.nodup_append] at hn
      exact hn.2.2 x hx x List.mem_cons_self rfl
    have hn' : ((pre ++ [x]) ++ es).Nodup := by rw [List.append_assoc]; exact hn
    rw [List.foldl_cons, show pre ++ x :: es = (pre ++ [x]) ++ es by simp]
    refine subs_all' es (pre ++ [x]) _ hn' (fun ρ => ?_) ρ
    obtain ⟨p, hp, h1, h2⟩ := h ρ
    have hxp : x ∉ p := fun z => hx (h1 x z)
    cases e : ρ x with
    | true =>
      refine ⟨p ++ [x], List.mem_append_right _ (List.mem_map.mpr ⟨p, hp, rfl⟩), fun y hy => ?_, fun y hy => ?_⟩
      · rcases List.mem_append.mp hy with hy | hy
        · exact List.mem_append_left _ (h1 y hy)
        · exact List.mem_append_right _ hy
      · rcases List.mem_append.mp hy with hy | hy
        · have hyx : y ≠ x := fun z => hx (z ▸ hy)
          rw [← h2 y hy, decide_eq_decide, List.mem_append, List.mem_singleton]
          exact ⟨fun g => g.elim id (fun z => absurd z hyx), .inl⟩
        · rw [List.mem_singleton.mp hy, e]
          exact decide_eq_true (List.mem_append_right _ (List.mem_singleton.mpr rfl))
    | false =>
      refine ⟨p, List.mem_append_left _ hp, fun y hy => List.mem_append_left _ (h1 y hy), fun y hy => ?_⟩
      rcases List.mem_append.mp hy with hy | hy
      · exact h2 y hy
      · rw [List.mem_singleton.mp hy, e]
        exact decide_eq_false hxp
theorem subs_all {es : List Int} (hn : es.Nodup) (ρ : Int → Bool) : ∃ p ∈ subs es, ∀ e ∈ es, decide (e ∈ p) = ρ e :=
  subs_all' es [] [[]] hn (fun _ => ⟨[], List.mem_singleton.mpr rfl, fun _ h => (nomatch h), fun _ h => (nomatch h)⟩) ρ
def tru (es : List Int) (t : Tr) : List Bool := (subs es).map fun p => t.ev fun e => decide (e ∈ p)
theorem tru_eq {es : List Int} (hn : es.Nodup) {t u : Tr} (ht : t.ok es) (hu : u.ok es) : tru es t = tru es u ↔ ∀ ρ, t.ev ρ = u.ev ρ := by
  constructor
  · intro h ρ
    obtain ⟨p, hp, hr⟩ := subs_all hn ρ
    have := List.map_inj_left.mp h p hp
    rw [tr_agree ht hr, tr_agree hu hr] at this
    exact this
  · intro h
    exact List.map_inj_left.mpr fun p _ => h _
theorem tru_any {es : List Int} (hn : es.Nodup) {t : Tr} (ht : t.ok es) : (tru es t).any id = false ↔ ∀ ρ, t.ev ρ = false := by
  unfold tru
  rw [List.any_map, List.any_eq_false]
  constructor
  · intro h ρ
    obtain ⟨p, hp, hr⟩ := subs_all hn ρ
    have := h p hp
    rw [← tr_agree ht hr]
    simpa using this
  · intro h p _
    show ¬ (t.ev _) = true
    rw [h]
    exact Bool.false_ne_true
theorem tru_all {es : List Int} (hn : es.Nodup) {t : Tr} (ht : t.ok es) : (tru es t).all id = true ↔ ∀ ρ, t.ev ρ = true := by
  unfold tru
  rw [List.all_map, List.all_eq_true]
  constructor
  · intro h ρ
    obtain ⟨p, hp, hr⟩ := subs_all hn ρ
    have := h p hp
    rw [← tr_agree ht hr]
    exact this
  · intro h p _
    exact h _
theorem tru_len (es : List Int) (t : Tr) : (tru es t).length = 2 ^ es.length := by rw [tru, List.length_map, subs_len]
/-- conditions built, one for each tree -/
def Blt (N : Nds) (es : List Int) (ts : List Tr) (cs : List Nat) : Prop := cs.length = ts.length ∧ ∀ (i : Nat) t c, ts[i]? = some t → cs[i]? = some c → ∃ T, At N c T ∧ Wf es T ∧ ∀ ρ, T.ev ρ = t.ev ρ
theorem Blt.mono {N M : Nds} {es : List Int} {ts : List Tr} {cs : List Nat} (h : Blt N es ts cs) : Blt (N ++ M) es ts cs := ⟨h.1, fun i t c h1 h2 => by
  obtain ⟨T, a, b⟩ := h.2 i t c h1 h2
  exact ⟨T, a.mono, b⟩⟩
theorem Blt.snoc {N : Nds} {es : List Int} {ts : List Tr} {cs : List Nat} {t : Tr} {c : Nat} {T : Bd} (h : Blt N es ts cs) (a : At N c T) (b : Wf es T) (v : ∀ ρ, T.ev ρ = t.ev ρ) : Blt N es (ts ++ [t]) (cs ++ [c]) := by
  refine ⟨by rw [List.length_append, List.length_append, h.1]; rfl, fun i t' c' h1 h2 => ?_⟩
  by_cases hi : i < ts.length
  · rw [List.getElem?_append_left hi] at h1
    rw [List.getElem?_append_left (by rw [h.1]; exact hi)] at h2
    exact h.2 i t' c' h1 h2
  · rw [List.getElem?_append_right (by omega)] at h1
    rw [List.getElem?_append_right (by rw [h.1]; omega), h.1] at h2
    cases hk : i - ts.length with
    | zero =>
      rw [hk] at h1 h2
      have e1 : t = t' := Option.some.inj h1
      have e2 : c = c' := Option.some.inj h2
      subst e1 e2
      exact ⟨T, a, b, v⟩
    | succ k => rw [hk] at h1; simp at h1
theorem bls_eqvAll : ∀ a b : List Bool, PyData.eqvAll (a.map PyData.bool) (b.map PyData.bool) = decide (a = b)
  | [], [] => rfl
  | [], _ :: _ => rfl
  | _ :: _, [] => rfl
  | x :: a, y :: b => by
    rw [List.map_cons, List.map_cons]
    unfold PyData.eqvAll
    rw [bls_eqvAll a b]
    unfold PyData.eqv
    cases x <;> cases y <;> simp
theorem bls_eqv (a b : List Bool) : PyData.eqv (.list (a.map PyData.bool)) (.list (b.map PyData.bool)) = decide (a = b) := by
  unfold PyData.eqv
  exact bls_eqvAll a b
/-- one number for one condition -/
theorem num_eq {N : Nds} {es : List Int} (hN : N.Nodup) (hn : es.Nodup) {t u : Tr} (ht : t.ok es) (hu : u.ok es) {c d : Nat} {T U : Bd} (hT : At N c T) (hU : At N d U) (wT : Wf es T) (wU : Wf es U) (vT : ∀ ρ, T.ev ρ = t.ev ρ) (vU : ∀ ρ, U.ev ρ = u.ev ρ) : c = d ↔ tru es t = tru es u := by
  rw [tru_eq hn ht hu]
  constructor
  · intro e ρ
    subst e
    rw [← vT, ← vU, hT.fn hU]
  · intro h
    have := canon hn wT wU fun ρ => by rw [vT, vU, h]
    subst this
    exact hT.inj hN hU
theorem num_0 {N : Nds} {es : List Int} (hN : N.Nodup) (hn : es.Nodup) {t : Tr} (ht : t.ok es) {c : Nat} {T : Bd} (hT : At N c T) (wT : Wf es T) (vT : ∀ ρ, T.ev ρ = t.ev ρ) : c = 0 ↔ (tru es t).any id = false := by
  rw [tru_any hn ht]
  constructor
  · intro e ρ
    subst e
    rw [← vT, hT.fn .f]
    rfl
  · intro h
    have := canon hn wT (.lf (b := false)) fun ρ => by rw [vT, h]; rfl
    subst this
    exact hT.inj hN .f
theorem num_1 {N : Nds} {es : List Int} (hN : N.Nodup) (hn : es.Nodup) {t : Tr} (ht : t.ok es) {c : Nat} {T : Bd} (hT : At N c T) (wT : Wf es T) (vT : ∀ ρ, T.ev ρ = t.ev ρ) : c = 1 ↔ (tru es t).all id = true := by
  rw [tru_all hn ht]
  constructor
  · intro e ρ
    subst e
    rw [← vT, hT.fn .t]
    rfl
  · intro h
    have := canon hn wT (.lf (b := true)) fun ρ => by rw [vT, h]; rfl
    subst this
    exact hT.inj hN .t
/-- a list of conditions' trees -/
def TrL (K : PySem.W.Frag) (H : Hp) (D : Addr) (ts : List Tr) : Prop := ∃ vs, H D = some (.lst vs) ∧ DpAll K H vs (ts.map Tr.d)
theorem trs_only : ∀ ts : List Tr, tupOnlys (ts.map Tr.d) = true
  | [] => rfl
  | t :: ts => by
    rw [List.map_cons]
    unfold tupOnlys
    rw [tr_only, trs_only ts]
    rfl
theorem TrL.ext {K : PySem.W.Frag} {H H' : Hp} {D : Addr} {ts : List Tr} (e : Same H H') (h : TrL K H D ts) : TrL K H' D ts := by
  obtain ⟨vs, h1, h2⟩ := h
  exact ⟨vs, e _ _ h1, DpAll.ext e _ _ h2⟩
theorem TrL.snoc {K : PySem.W.Frag} {H : Hp} {D : Addr} {ts : List Tr} {vs : List V} {v : V} {t : Tr} (h : TrL K H D ts) (e : H D = some (.lst vs)) (hv : Dp K H v t.d) : TrL K (upd H D (.lst (vs ++ [v]))) D (ts ++ [t]) := by
  obtain ⟨vs', h1, h2⟩ := h
  have ev : vs' = vs := by rw [h1] at e; exact HO.lst.inj (Option.some.inj e)
  subst ev
  refine ⟨_, upd_same, ?_⟩
  rw [List.map_append]
  exact DpAll.snoc (DpAll.away h1 _ _ (trs_only ts) h2) (Dp.away h1 _ _ (tr_only t) hv)
theorem TrL.get {K : PySem.W.Frag} {H : Hp} {D : Addr} {ts : List Tr} (h : TrL K H D ts) : ∃ vs, H D = some (.lst vs) ∧ vs.length = ts.length ∧ ∀ (i : Nat) t, ts[i]? = some t → ∃ v, vs[i]? = some v ∧ Dp K H v t.d := by
  obtain ⟨vs, h1, h2⟩ := h
  refine ⟨vs, h1, by rw [DpAll.len h2, List.length_map], fun i t ht => DpAll.get h2 (by rw [List.getElem?_map, ht]; rfl)⟩
theorem TrL.fd {K : PySem.W.Frag} {H H' : Hp} {D d : Addr} {ts : List Tr} (hd : ∃ zs, H d = some (.lst zs)) (n : D ≠ d) (e : Fd d H H') (h : TrL K H D ts) : TrL K H' D ts := by
  obtain ⟨vs, h1, h2⟩ := h
  exact ⟨vs, e _ _ n h1, DpAll.fd hd e _ _ (trs_only ts) h2⟩
def intsV (cs : List Nat) : List V := cs.map fun c => .int ((c : Nat) : Int)
section
variable {P : Program} {w : World} {K : PySem.W.Frag} {mg : Str → Option Value} {base : Heap}
/-- conditions being built, one after another -/
def BuP (C : Addr) (K : PySem.W.Frag) (sa : SA) (N : Nds) (es : List Int) (b : Nat) (ts : List Tr) (H0 H : Hp) (B : Addr) (i : Nat) (Hi : Hp) : Prop := Same H0 Hi ∧ (∀ a o, H a = some o → a ≠ sa.k → a ≠ sa.u → a ≠ sa.m → Hi a = some o) ∧ ∃ M cs, Sto C K Hi sa (N ++ M) es (b + i * 33000) ∧ Hi B = some (.lst (intsV cs)) ∧ Blt (N ++ M) es (ts.take i) cs ∧ (N ++ M).length ≤ b + i * 33000
theorem bu_0 {C : Addr} {sa : SA} {N : Nds} {es : List Int} {L b : Nat} {ts : List Tr} {H0 H : Hp} {B : Addr} (S : Same H0 H) (st : Sto C K H sa N es L) (hb : N.length ≤ b ∧ L ≤ b) (nB : H B = none) : BuP C K sa N es b ts H0 H B 0 (upd H B (.lst [])) := by
  refine ⟨S.trans (same_upd nB), fun a o h _ _ _ => same_upd nB _ _ h, [], [], ?_, upd_same, ⟨rfl, fun i t c h _ => by simp at h⟩, ?_⟩
  · rw [List.append_nil]
    exact (st.ext (same_upd nB)).more (by omega)
  · rw [List.append_nil]
    omega
theorem bu_step {C : Addr} {sa : SA} {N : Nds} {es : List Int} {L b : Nat} {ts : List Tr} {H0 H Hi : Hp} {B : Addr} {i : Nat} {v : V} {t : Tr} {σ : L2.St} {i5 i11 : Nat} (S : Same H0 H) (st : Sto C K H sa N es L) (nk : H0 sa.k = none) (nu : H0 sa.u = none) (nm : H0 sa.m = none) (hl : es.length ≤ 5) (hb2 : b + ts.length * 33000 ≤ 400000) (nB : H B = none) (hp : BuP C K sa N es b ts H0 H B i Hi) (ht : ts[i]? = some t) (ok1 : t.ok es) (ht1 : t.ht < 9) (dp : Dp K H0 v t.d) (h5 : σ[i5]? = some (some (.ref sa.p))) (h11 : σ[i11]? = some (some v)) :
    tCall (sp_build C K 6 9) [] E0 (tCons (tVar i5) (tCons (tVar i11) tNil)) σ Hi fun y H4 => ∃ ys, H4 B = some (.lst ys) ∧ ys.length < sizeLine ∧ BuP C K sa N es b ts H0 H B (i + 1) (upd H4 B (.lst (ys ++ [y]))) := by
  have hob : opB es ≤ 64 := by
    have : 2 ^ es.length ≤ 2 ^ 5 := Nat.pow_le_pow_right (by decide) hl
    unfold opB
    omega
  have sl : (500000 : Nat) < sizeLine := by decide
  have nB0 := S.free nB
  have nBk := bu_ne st nB
  obtain ⟨si, fi, M, cs, sti, eB, bl, ln⟩ := hp
  have hi : i < ts.length := (List.getElem?_eq_some_iff.mp ht).1
  have hz : t.sz ≤ 511 := by
    have h1 := tr_sz t
    have h2 : 2 ^ (t.ht + 1) ≤ 2 ^ 9 := Nat.pow_le_pow_right (by decide) (by omega)
    omega
  have hzb : t.sz * opB es ≤ 511 * 64 := Nat.mul_le_mul hz hob
  have hib : i * 33000 + 33000 ≤ ts.length * 33000 := by
    have := Nat.mul_le_mul_right 33000 (show i + 1 ≤ ts.length by omega)
    omega
  refine ⟨_, h5, _, h11, sa, N ++ M, es, _, v, t, rfl, sti, by omega, ok1, ht1, Dp.ext si _ _ dp, by omega, by omega, fun H1 M1 r1 T1 f1 l1 st1 a1 w1 v1 => ?_⟩
  have eB1 := f1 _ _ nBk.1 nBk.2.1 nBk.2.2 eB
  have lcs : cs.length = i := by rw [bl.1, List.length_take]; omega
  refine ⟨_, eB1, ?_, ?_, ?_, M ++ M1, cs ++ [r1], ?_, ?_, ?_, ?_⟩
  · show (intsV cs).length < sizeLine
    unfold intsV
    rw [List.length_map, lcs]
    omega
  · intro x o e
    rw [upd_ne (ne_of_none e nB0)]
    exact f1.same si nk nu nm x o e
  · intro x o e n1 n2 n3
    rw [upd_ne (ne_of_none e nB)]
    exact f1 x o n1 n2 n3 (fi x o e n1 n2 n3)
  · rw [← List.append_assoc]
    exact (st1.fd ⟨_, eB1⟩ nBk.1 Fd.at).more (by omega)
  · rw [upd_same]
    unfold intsV
    rw [List.map_append]
    rfl
  · rw [← List.append_assoc, List.take_add_one, ht]
    exact bl.mono.snoc a1 w1 v1
  · rw [← List.append_assoc, List.length_append]
    omega
end

/-! ### conditions as truth tables over all sets -/
def tt (es : List Int) (a : Bd) : List Bool := (subs es).map fun p => a.ev fun e => decide (e ∈ p)
theorem tt_len (es : List Int) (a : Bd) : (tt es a).length = 2 ^ es.length := by rw [tt, List.length_map, subs_len]
/-- which sets have an input row: by the bits of their places -/
def sbr : List Int → List (List Int)
  | [] => [[]]
  | e :: r => sbr r ++ (sbr r).map (· ++ [e])
theorem sbr_eq : ∀ r : List Int, subs r.reverse = sbr r
  | [] => rfl
  | e :: r => by
    rw [List.reverse_cons, subs_snoc, sbr_eq r]
    rfl
theorem sbr_len : ∀ r : List Int, (sbr r).length = 2 ^ r.length
  | [] => rfl
  | e :: r => by
    show (sbr r ++ (sbr r).map _).length = 2 ^ (r.length + 1)
    rw [List.length_append, List.length_map, sbr_len r, Nat.pow_succ]
    omega
theorem sbr_mem : ∀ (r : List Int) (p : List Int), p ∈ sbr r → ∀ e ∈ p, e ∈ r
  | [], p, h, e, he => by
    have : p = [] := by simpa [sbr] using h
    rw [this] at he
    cases he
  | x :: r, p, h, e, he => by
    rcases List.mem_append.mp h with h | h
    · exact List.mem_cons_of_mem _ (sbr_mem r p h e he)
    · obtain ⟨q, hq, rfl⟩ := List.mem_map.mp h
      rcases List.mem_append.mp he with he | he
      · exact List.mem_cons_of_mem _ (sbr_mem r q hq e he)
      · rw [List.mem_singleton.mp he]
        exact List.mem_cons_self
theorem tb_add {m r k : Nat} (hk : k < m) : (2 ^ m + r).testBit k = r.testBit k := Nat.testBit_two_pow_add_gt hk r
theorem tb_top {m r : Nat} (hr : r < 2 ^ m) : (2 ^ m + r).testBit m = true := by
  rw [Nat.testBit_two_pow_add_eq, Nat.testBit_lt_two_pow hr]
  rfl
theorem sbr_bit : ∀ (r : List Int) (n : Nat) (p : List Int) (k : Nat) (e : Int), r.Nodup → (sbr r)[n]? = some p → r.reverse[k]? = some e → decide (e ∈ p) = n.testBit k
  | [], _, _, k, _, _, _, h => by simp at h
  | x :: r, n, p, k, e, hn, hp, he => by
    rw [List.nodup_cons] at hn
    rw [List.reverse_cons] at he
    have hp : (sbr r ++ (sbr r).map (· ++ [x]))[n]? = some p := hp
    have lr : r.reverse.length = r.length := List.length_reverse
    have ls := sbr_len r
    by_cases h1 : n < (sbr r).length
    · rw [List.getElem?_append_left h1] at hp
      by_cases h2 : k < r.reverse.length
      · rw [List.getElem?_append_left h2] at he
        exact sbr_bit r n p k e hn.2 hp he
      · rw [List.getElem?_append_right (by omega)] at he
        have hk : k = r.length := by
          cases h : k - r.reverse.length with
          | zero => omega
          | succ j => rw [h] at he; simp at he
        subst hk
        rw [lr, Nat.sub_self] at he
        have : x = e := Option.some.inj he
        subst this
        rw [Nat.testBit_lt_two_pow (by rw [← ls]; exact h1)]
        exact decide_eq_false fun z => hn.1 (sbr_mem r p (List.mem_of_getElem? hp) x z)
    · rw [List.getElem?_append_right (by omega), List.getElem?_map] at hp
      obtain ⟨q, hq, rfl⟩ := Option.map_eq_some_iff.mp hp
      have hlt : n - (sbr r).length < 2 ^ r.length := by
        rw [← ls]
        exact (List.getElem?_eq_some_iff.mp hq).1
      have en : n = 2 ^ r.length + (n - (sbr r).length) := by omega
      by_cases h2 : k < r.reverse.length
      · rw [List.getElem?_append_left h2] at he
        have ih := sbr_bit r _ q k e hn.2 hq he
        rw [en, tb_add (show k < r.length by omega), ← ih, decide_eq_decide, List.mem_append, List.mem_singleton]
        have hne : e ≠ x := fun z => by
          subst z
          exact hn.1 (List.mem_reverse.mp (List.mem_of_getElem? he))
        exact ⟨fun g => g.elim id (fun z => absurd z hne), .inl⟩
      · rw [List.getElem?_append_right (by omega)] at he
        have hk : k = r.length := by
          cases h : k - r.reverse.length with
          | zero => omega
          | succ j => rw [h] at he; simp at he
        subst hk
        rw [lr, Nat.sub_self] at he
        have : x = e := Option.some.inj he
        subst this
        rw [en, tb_top hlt]
        exact decide_eq_true (List.mem_append_right _ (List.mem_singleton.mpr rfl))
theorem subs_bit {es : List Int} (hn : es.Nodup) {n k : Nat} {p : List Int} {e : Int} (hp : (subs es)[n]? = some p) (he : es[k]? = some e) : decide (e ∈ p) = n.testBit k := by
  have h := sbr_eq es.reverse
  rw [List.reverse_reverse] at h
  rw [h] at hp
  exact sbr_bit es.reverse n p k e (by rw [List.nodup_iff_pairwise_ne, List.pairwise_reverse]; exact (List.nodup_iff_pairwise_ne.mp hn).imp fun h => h.symm) hp (by rw [List.reverse_reverse]; exact he)
/-- the place of a set with one input row put in or left out -/
def fxI (k : Nat) (b : Bool) (n : Nat) : Nat := (if n.testBit k = true then n - 2 ^ k else n) + (if b = true then 2 ^ k else 0)
theorem fxI_eq (k : Nat) (b : Bool) (n : Nat) : fxI k b n = 2 ^ k * (2 * (n / 2 ^ k / 2) + (if b = true then 1 else 0)) + n % 2 ^ k := by
  have hp : 0 < 2 ^ k := Nat.two_pow_pos k
  have en := Nat.div_add_mod n (2 ^ k)
  have h2 := Nat.div_add_mod (n / 2 ^ k) 2
  unfold fxI
  rw [Nat.testBit_eq_decide_div_mod_eq, Nat.mul_add]
  generalize n / 2 ^ k = c at *
  generalize n % 2 ^ k = r at *
  have hb : 2 ^ k * (if b = true then 1 else 0) = if b = true then 2 ^ k else 0 := by cases b <;> simp
  rw [hb]
  by_cases h : c % 2 = 1
  · rw [if_pos (decide_eq_true h)]
    have hc : c = 2 * (c / 2) + 1 := by omega
    have e1 : 2 ^ k * c = 2 ^ k * (2 * (c / 2)) + 2 ^ k := by
      conv => lhs; rw [hc, Nat.mul_add, Nat.mul_one]
    omega
  · rw [if_neg (by rw [decide_eq_true_iff]; exact h)]
    have hc : c = 2 * (c / 2) := by omega
    have e1 : 2 ^ k * c = 2 ^ k * (2 * (c / 2)) := by
      conv => lhs; rw [hc]
    omega
theorem fxI_bit (k : Nat) (b : Bool) (n j : Nat) : (fxI k b n).testBit j = if j = k then b else n.testBit j := by
  have hp : 0 < 2 ^ k := Nat.two_pow_pos k
  rw [fxI_eq, Nat.testBit_two_pow_mul_add _ (Nat.mod_lt n hp)]
  by_cases h1 : j < k
  · rw [if_pos h1, if_neg (by omega), Nat.testBit_mod_two_pow, decide_eq_true h1, Bool.true_and]
  · rw [if_neg h1]
    by_cases h2 : j = k
    · subst h2
      rw [if_pos rfl, Nat.sub_self, Nat.testBit_zero]
      cases b
      · exact decide_eq_false (by rw [if_neg Bool.false_ne_true]; omega)
      · exact decide_eq_true (by rw [if_pos rfl]; omega)
    · rw [if_neg h2]
      obtain ⟨d, rfl⟩ : ∃ d, j = k + (d + 1) := ⟨j - k - 1, by omega⟩
      rw [Nat.add_sub_cancel_left, Nat.testBit_succ]
      have e : (2 * (n / 2 ^ k / 2) + (if b = true then 1 else 0)) / 2 = n / 2 ^ k / 2 := by
        cases b
        · rw [if_neg Bool.false_ne_true]; omega
        · rw [if_pos rfl]; omega
      rw [e, ← Nat.testBit_succ, Nat.testBit_div_two_pow, Nat.add_comm]
theorem fxI_lt {k m n : Nat} {b : Bool} (hk : k < m) (hn : n < 2 ^ m) : fxI k b n < 2 ^ m := by
  refine Nat.lt_pow_two_of_testBit _ fun i hi => ?_
  rw [fxI_bit, if_neg (by omega)]
  exact Nat.testBit_lt_two_pow (Nat.lt_of_lt_of_le hn (Nat.pow_le_pow_right (by decide) hi))
/-- the table with one input row put in or left out -/
def fixL (l : List Bool) (k : Nat) (b : Bool) : List Bool := (List.range l.length).map fun n => l.getD (fxI k b n) false
theorem tt_get {es : List Int} {a : Bd} {n : Nat} {p : List Int} (h : (subs es)[n]? = some p) : (tt es a)[n]? = some (a.ev fun e => decide (e ∈ p)) := by
  unfold tt
  rw [List.getElem?_map, h]
  rfl
theorem fixL_get {es : List Int} (hn : es.Nodup) {a : Bd} (wa : Wf es a) {k n : Nat} {b : Bool} {p : List Int} {x : Int} (hx : es[k]? = some x) (hp : (subs es)[n]? = some p) : (fixL (tt es a) k b)[n]? = some (a.ev (setR (fun e => decide (e ∈ p)) x b)) := by
  have hk : k < es.length := (List.getElem?_eq_some_iff.mp hx).1
  have hn2 : n < 2 ^ es.length := by rw [← subs_len]; exact (List.getElem?_eq_some_iff.mp hp).1
  have hf := fxI_lt (b := b) hk hn2
  have hq : fxI k b n < (subs es).length := by rw [subs_len]; exact hf
  unfold fixL
  rw [List.getElem?_map, List.getElem?_range (by rw [tt_len]; exact hn2)]
  show some ((tt es a).getD (fxI k b n) false) = _
  rw [List.getD_eq_getElem?_getD, tt_get (List.getElem?_eq_getElem hq)]
  refine congrArg some (wf_agree wa fun e he => ?_)
  obtain ⟨j, hj⟩ := List.getElem?_of_mem he
  rw [subs_bit hn (List.getElem?_eq_getElem hq) hj, fxI_bit]
  by_cases ejk : j = k
  · subst ejk
    have : x = e := Option.some.inj (hx.symm.trans hj)
    subst this
    rw [if_pos rfl, setR_same]
  · have hne : e ≠ x := fun z => by
      subst z
      exact ejk (nodup_at hn hj hx)
    rw [if_neg ejk, setR_ne hne]
    exact (subs_bit hn hp hj).symm
/-- put in, left out: a condition whose least question this is, or none of whose questions this is -/
theorem fixL_eq {es : List Int} (hn : es.Nodup) {a c : Bd} (wa : Wf es a) {k : Nat} {b : Bool} {x : Int} (hx : es[k]? = some x) (h : ∀ r, a.ev (setR r x b) = c.ev r) : fixL (tt es a) k b = tt es c := by
  refine List.ext_getElem? fun n => ?_
  by_cases hl : n < (subs es).length
  · rw [fixL_get hn wa hx (List.getElem?_eq_getElem hl), tt_get (List.getElem?_eq_getElem hl), h]
  · rw [List.getElem?_eq_none, List.getElem?_eq_none]
    · rw [tt_len, ← subs_len]; omega
    · unfold fixL
      rw [List.length_map, List.length_range, tt_len, ← subs_len]; omega
theorem tt_inj {es : List Int} (hn : es.Nodup) {a c : Bd} (wa : Wf es a) (wc : Wf es c) (h : tt es a = tt es c) : a = c := by
  refine canon hn wa wc fun r => ?_
  obtain ⟨p, hp, hr⟩ := subs_all hn r
  have := List.map_inj_left.mp h p hp
  rw [wf_agree wa hr, wf_agree wc hr] at this
  exact this
theorem top_at {pre po : List Int} {x : Int} (hn : (pre ++ x :: po).Nodup) : (pre ++ x :: po).idxOf x = pre.length := by
  rw [List.idxOf_append, if_neg]
  · rw [List.idxOf_cons_self, Nat.zero_add]
  · intro h
    rw [List.nodup_append] at hn
    exact hn.2.2 x h x List.mem_cons_self rfl
/-- fixed at the least question; fixed at one ahead of it -/
theorem fix_top {es : List Int} (hn : es.Nodup) {x : Int} {w t : Bd} (h : Wf es (.nd x w t)) : fixL (tt es (.nd x w t)) (es.idxOf x) false = tt es w ∧ fixL (tt es (.nd x w t)) (es.idxOf x) true = tt es t ∧ tt es w ≠ tt es t ∧ es.idxOf x < es.length ∧ es[es.idxOf x]? = some x ∧
    ∀ k, k < es.idxOf x → ∀ b, fixL (tt es (.nd x w t)) k b = tt es (.nd x w t) := by
  obtain ⟨w1, w2⟩ := wf_kids h
  obtain ⟨pre, po, rfl, h1, h2, h3⟩ := wf_nd h
  have hx : (pre ++ x :: po)[pre.length]? = some x := by rw [List.getElem?_append_right (Nat.le_refl _), Nat.sub_self]; rfl
  have hnp : x ∉ po := by
    rw [List.nodup_append, List.nodup_cons] at hn
    exact hn.2.1.1
  have ni := top_at hn
  rw [ni]
  refine ⟨fixL_eq hn h hx fun r => ?_, fixL_eq hn h hx fun r => ?_, fun z => h3 (tt_inj hn w1 w2 z), by simp, hx, fun k hk b => ?_⟩
  · show (if setR r x false x = true then _ else _) = _
    rw [setR_same, if_neg Bool.false_ne_true, h1.away hnp]
  · show (if setR r x true x = true then _ else _) = _
    rw [setR_same, if_pos rfl, h2.away hnp]
  · have hy : (pre ++ x :: po)[k]? = some pre[k] := by rw [List.getElem?_append_left hk, List.getElem?_eq_getElem hk]
    refine fixL_eq hn h hy fun r => ?_
    have hw : Wf (x :: po) (.nd x w t) := .here h1 h2 h3
    refine hw.away fun z => ?_
    rw [List.nodup_append] at hn
    exact hn.2.2 _ (List.getElem_mem hk) _ z rfl
theorem fix_lf {es : List Int} (hn : es.Nodup) {v : Bool} {k : Nat} (hk : k < es.length) (b : Bool) : fixL (tt es (.lf v)) k b = tt es (.lf v) := fixL_eq hn .lf (List.getElem?_eq_getElem hk) fun _ => rfl

/-! ### the laws' truth tables -/
def bDt (es : List Int) (a : Bd) : PyData := .tuple ((tt es a).map PyData.bool)
theorem dp_tt {K : PySem.W.Frag} {H : Hp} {p : Addr} {l : List Bool} (h : SqT K H p (l.map V.bl)) : Dp K H (.ref p) (.tuple (l.map PyData.bool)) := .tup h (dpa_map _ _ (fun i => .bl i) l)
theorem bDt_only (es : List Int) : ∀ as : List Bd, tupOnlys (as.map (bDt es)) = true
  | [] => rfl
  | a :: as => by
    rw [List.map_cons]
    unfold tupOnlys
    rw [bDt_only es as, Bool.and_true]
    unfold bDt tupOnly
    induction tt es a with
    | nil => rfl
    | cons b bs ih =>
      rw [List.map_cons]
      unfold tupOnlys
      rw [ih]
      rfl
theorem bDt_1 (es : List Int) (a : Bd) : tupOnly (bDt es a) = true := by
  have := bDt_only es [a]
  rw [List.map_cons] at this
  unfold tupOnlys at this
  rw [Bool.and_eq_true] at this
  exact this.1
theorem tup_shaped (l : List Bool) : SeqAt.shaped (.tuple (l.map PyData.bool)) = true := by
  have h := bls_shaped l
  unfold SeqAt.shaped at h ⊢
  unfold PyData.canLay0 PyData.depth at h ⊢
  exact h
theorem tup_eqv (a b : List Bool) : PyData.eqv (.tuple (a.map PyData.bool)) (.tuple (b.map PyData.bool)) = decide (a = b) := by
  unfold PyData.eqv
  exact bls_eqvAll a b
theorem bDt_eqv {es : List Int} (hn : es.Nodup) {a b : Bd} (wa : Wf es a) (wb : Wf es b) : PyData.eqv (bDt es a) (bDt es b) = decide (a = b) := by
  unfold bDt
  rw [tup_eqv, decide_eq_decide]
  exact ⟨tt_inj hn wa wb, fun h => by rw [h]⟩
theorem bDts_shaped (es : List Int) (as : List Bd) : SeqAt.shaped (.list (as.map (bDt es))) = true := by
  have e1 : PyData.canLayAll0 (as.map (bDt es)) = true := by
    induction as with
    | nil => rfl
    | cons x xs ih =>
      rw [List.map_cons]
      unfold PyData.canLayAll0
      rw [ih, Bool.and_true]
      have := SeqAt.canLay_of_shaped (tup_shaped (tt es x))
      exact this
  have e2 : PyData.depthAll (as.map (bDt es)) ≤ 1 := by
    clear e1
    induction as with
    | nil => exact Nat.zero_le _
    | cons x xs ih =>
      rw [List.map_cons]
      unfold PyData.depthAll
      refine Nat.max_le.mpr ⟨?_, ih⟩
      unfold bDt PyData.depth
      have : PyData.depthAll ((tt es x).map PyData.bool) = 0 := by
        induction tt es x with
        | nil => rfl
        | cons b bs ih =>
          rw [List.map_cons]
          unfold PyData.depthAll
          rw [ih]
          rfl
      omega
  unfold SeqAt.shaped
  rw [Bool.and_eq_true]
  refine ⟨by unfold PyData.canLay0; exact e1, decide_eq_true ?_⟩
  unfold PyData.depth
  omega
theorem any_eqv {es : List Int} (hn : es.Nodup) {a : Bd} (wa : Wf es a) : ∀ {as : List Bd}, (∀ b ∈ as, Wf es b) → ((as.map (bDt es)).any fun z => PyData.eqv z (bDt es a)) = decide (a ∈ as)
  | [], _ => rfl
  | b :: as, h => by
    rw [List.map_cons, List.any_cons, any_eqv hn wa fun c hc => h c (List.mem_cons_of_mem _ hc), bDt_eqv hn (h b List.mem_cons_self) wa]
    by_cases e : b = a
    · subst e
      rw [decide_eq_true rfl, Bool.true_or]
      exact (decide_eq_true List.mem_cons_self).symm
    · rw [decide_eq_false e, Bool.false_or, decide_eq_decide, List.mem_cons]
      exact ⟨.inr, fun z => z.elim (fun z => absurd z.symm e) id⟩
/-- a list of truth tables -/
def TtL (K : PySem.W.Frag) (H : Hp) (p : Addr) (es : List Int) (as : List Bd) : Prop := ∃ vs, H p = some (.lst vs) ∧ DpAll K H vs (as.map (bDt es))
theorem TtL.ext {K : PySem.W.Frag} {H H' : Hp} {p : Addr} {es : List Int} {as : List Bd} (e : Same H H') (h : TtL K H p es as) : TtL K H' p es as := by
  obtain ⟨vs, h1, h2⟩ := h
  exact ⟨vs, e _ _ h1, DpAll.ext e _ _ h2⟩
theorem TtL.dp {K : PySem.W.Frag} {H : Hp} {p : Addr} {es : List Int} {as : List Bd} (h : TtL K H p es as) : Dp K H (.ref p) (.list (as.map (bDt es))) := by
  obtain ⟨vs, h1, h2⟩ := h
  exact .lst (.of h1) h2
theorem TtL.get {K : PySem.W.Frag} {H : Hp} {p : Addr} {es : List Int} {as : List Bd} (h : TtL K H p es as) : ∃ vs, H p = some (.lst vs) ∧ vs.length = as.length ∧ ∀ (i : Nat) v, vs[i]? = some v → ∃ q a, v = .ref q ∧ as[i]? = some a ∧ SqT K H q ((tt es a).map V.bl) := by
  obtain ⟨vs, h1, h2⟩ := h
  have hl : vs.length = as.length := by rw [DpAll.len h2, List.length_map]
  refine ⟨vs, h1, hl, fun i v hv => ?_⟩
  have hi : i < as.length := by rw [← hl]; exact (List.getElem?_eq_some_iff.mp hv).1
  obtain ⟨u, hu, hd⟩ := DpAll.get h2 (show (as.map (bDt es))[i]? = some (bDt es as[i]) by rw [List.getElem?_map, List.getElem?_eq_getElem hi]; rfl)
  have e : u = v := Option.some.inj (hu.symm.trans hv)
  subst e
  obtain ⟨q, xs, rfl, hs, hx⟩ := dp_tup hd
  refine ⟨q, as[i], rfl, List.getElem?_eq_getElem hi, ?_⟩
  have : xs = (tt es as[i]).map V.bl := by
    generalize tt es as[i] = l at hx
    clear hu hv hd hs
    induction l generalizing xs with
    | nil => cases hx; rfl
    | cons b l ih =>
      rw [List.map_cons] at hx
      cases hx with
      | cons h1 h2 =>
        cases h1
        rw [List.map_cons, ih _ h2]
  rw [this] at hs
  exact hs
theorem TtL.snoc {K : PySem.W.Frag} {H : Hp} {p q : Addr} {es : List Int} {as : List Bd} {a : Bd} {vs : List V} (h : TtL K H p es as) (e : H p = some (.lst vs)) (hq : SqT K H q ((tt es a).map V.bl)) : TtL K (upd H p (.lst (vs ++ [.ref q]))) p es (as ++ [a]) := by
  obtain ⟨vs', h1, h2⟩ := h
  have ev : vs' = vs := by rw [h1] at e; exact HO.lst.inj (Option.some.inj e)
  subst ev
  refine ⟨_, upd_same, ?_⟩
  rw [List.map_append]
  exact DpAll.snoc (DpAll.away h1 _ _ (bDt_only es as) h2) (Dp.away h1 _ _ (bDt_1 es a) (dp_tt hq))
theorem fixL_len (l : List Bool) (k : Nat) (b : Bool) : (fixL l k b).length = l.length := by unfold fixL; rw [List.length_map, List.length_range]
def bI (b : Bool) : Int := if b = true then 1 else 0
def sp_truth (K : PySem.W.Frag) (n : Nat) : Sp := fun vs H Q _ => ∃ v ea es t, vs = [v, .ref ea] ∧ Dp K H v (Tr.d t) ∧ H ea = some (.lst (es.map V.int)) ∧ es.length ≤ 10 ∧ Tr.ht t < n ∧ ∀ H' p, Same H H' → H' p = some (.tup ((tru es t).map V.bl)) → Q (.ref p) H'
def sp_fixed (K : PySem.W.Frag) : Sp := fun vs H Q _ => ∃ p, ∃ l : List Bool, ∃ k b n, vs = [.ref p, .int ((k : Nat) : Int), .int (bI b)] ∧ SqT K H p (l.map V.bl) ∧ l.length = 2 ^ n ∧ k < n ∧ n ≤ 10 ∧ ∀ H' q, Same H H' → H' q = some (.tup ((fixL l k b).map V.bl)) → Q (.ref q) H'
def topV (es : List Int) : Bd → V
  | .lf _ => .non
  | .nd e _ _ => .int ((es.idxOf e : Nat) : Int)
def sp_ltop (K : PySem.W.Frag) : Sp := fun vs H Q _ => ∃ p es a, vs = [.ref p, .int ((es.length : Nat) : Int)] ∧ SqT K H p ((tt es a).map V.bl) ∧ Wf es a ∧ es.Nodup ∧ es.length ≤ 10 ∧ ∀ H', Same H H' → Q (topV es a) H'
/-! ### x in l of data -/
theorem hu65 {k : Nat} {A : Around} (hr : Room k A) : A.units + 65 < cLine := by have := hr.un; omega
theorem inDK {X : Cx} (K : PySem.W.Frag) (hu : X.A.units + 65 < cLine) (h : X.K = K := by rfl) : OpR X (compareOp .In) (rInD K) := by subst h; exact op_inD hu
theorem notInDK {X : Cx} (K : PySem.W.Frag) (hu : X.A.units + 65 < cLine) (h : X.K = K := by rfl) : OpR X (compareOp .NotIn) (rNotInD K) := by subst h; exact op_notInD hu

theorem indexDK {X : Cx} (K : PySem.W.Frag) (hu : X.A.units + 65 < cLine) (h : X.K = K := by rfl) : MtR X "list.index" (rIndexD K) := by subst h; exact mt_indexD hu
theorem tIf_val {c : Bool} {ta tb : TE} {σ : L2.St} {H : Hp} {Q : VK} {v : V} (h1 : c = true → ∀ Q : VK, Q v H → ta σ H Q) (h2 : c = false → ∀ Q : VK, Q v H → tb σ H Q) (q : Q v H) : if c = true then ta σ H Q else tb σ H Q := by
  cases c with
  | true => exact iteT (h1 rfl Q q)
  | false => exact iteF (h2 rfl Q q)
section
variable {P : Program} {w : World} {K : PySem.W.Frag} {mg : Str → Option Value} {base : Heap}
theorem ok_truth (n : Nat) {f : Addr} {fd : FuncData} (F : Fun K "_law_truth" "_law_truth" s__law_truth f fd) (M : Mg mg) (c__law_subsets : Cl P w K mg base 1 "_law_subsets" sp_subs) (c__law_true : Cl P w K mg base (n + 1) "_law_true" (sp_true K n)) : FnOk P w K mg base CX0 (n + 2) f fd ["tree", "entries"] (sp_truth K n) := by
  refine F.ok sc__law_truth (fun vs H Q E h => ?_) (fun cdv A outer s H vs Q E hr h => ?_)
  · obtain ⟨v, ea, es, t, rfl, _⟩ := h
    rfl
  · obtain ⟨v, ea, es, t, rfl, dp, he, hl, hn, q⟩ := h
    refine ⟨_, (pss_one (ps_ret (pe_callTy (tupleK K) (by rfl) M.tuple (by decide +kernel) (pa_cons (pe_lc (own := [("part", 2)]) (g := gName 2) (tt := tYes) rfl sc__law_truth.nd (pi_list (pe_u c__law_subsets hr (by first | decide | omega) (by rfl) (pa_cons (pv 1) pa_nil))) (blkOk_by (N := N__law_truth) (sc := defScope s__law_truth) (by decide +kernel)) (fun _ _ _ _ _ => (pg_name (i := 2) sc__law_truth.nd rfl (.inl rfl))) (fun _ _ _ _ _ => pts_nil) (fun _ _ _ _ _ => (pe_u c__law_true hr (by first | decide | omega) (by rfl) (pa_cons (pv 0) (pa_cons (pv 2) pa_nil))))) pa_nil)))), ?_⟩
    refine ⟨_, rfl, ea, es, rfl, he, hl, fun Hs sp ss nsp ll => ?_⟩
    obtain ⟨as, l1', l2', l3'⟩ := ll.get
    refine ⟨sp, rfl, ⟨_, .of l1'⟩, fun D nD => ?_⟩
    have lsub : (subs es).length ≤ 1024 := by
      rw [subs_len]
      exact Nat.le_trans (Nat.pow_le_pow_right (by decide) hl) (by decide)
    refine lc_list (K := K) (a := sp) (xs := as.map V.ref) (fun j Hj => Same Hs Hj ∧ Hj D = some (.lst ((((subs es).take j).map fun p => t.ev fun e => decide (e ∈ p)).map V.bl))) ⟨same_upd nD, upd_same⟩ (fun j Hj _ hp => .of (hp.1 _ _ l1')) (fun j y Hj hy hp => ?_) (fun Hm hp => ?_)
    · obtain ⟨sj, eD⟩ := hp
      obtain ⟨b, l, rfl, hl2, hb⟩ := l3' j y hy
      have hj : j < (subs es).length := (List.getElem?_eq_some_iff.mp hl2).1
      refine ⟨rfl, ?_⟩
      refine ⟨_, rfl, _, rfl, v, b, t, l, rfl, Dp.ext (ss.trans sj) _ _ dp, .of (sj _ _ hb), hn, ?_⟩
      refine ⟨_, eD, ?_, ?_, ?_⟩
      · rw [List.length_map, List.length_map, List.length_take]
        exact Nat.lt_of_le_of_lt (m := 1024) (by omega) (by decide)
      · intro z o e
        rw [upd_ne (ne_of_none e nD)]
        exact sj _ _ e
      · rw [upd_same, List.take_add_one, hl2, List.map_append, List.map_append]
        rfl
    · obtain ⟨sm, eD⟩ := hp
      rw [List.length_map, l2', List.take_of_length_le (Nat.le_refl _)] at eD
      refine ⟨D, _, rfl, .inl ⟨.of eD, fun T nT => ?_⟩⟩
      exact q _ T ((ss.trans sm).trans (same_upd nT)) upd_same
theorem ok_fixed {f : Addr} {fd : FuncData} (F : Fun K "_law_fixed" "_law_fixed" s__law_fixed f fd) (M : Mg mg) : FnOk P w K mg base CX0 1 f fd ["truth", "k", "there"] (sp_fixed K) := by
  refine F.ok sc__law_fixed (fun vs H Q E h => ?_) (fun cdv A outer s H vs Q E hr h => ?_)
  · obtain ⟨p, l, k, b, n, rfl, _⟩ := h
    rfl
  · obtain ⟨p, l, k, b, n, rfl, hp, hl, hk, hn, q⟩ := h
    have p10 : ∀ {j : Nat}, j ≤ 10 → 2 ^ j ≤ 1024 := fun {j} h => Nat.le_trans (Nat.pow_le_pow_right (by decide) h) (by decide)
    have hl2 : l.length ≤ 1024 := by rw [hl]; exact p10 hn
    have hk2 := p10 (show k ≤ 10 by omega)
    have hb : 0 ≤ bI b ∧ bI b ≤ 1 := by cases b <;> decide
    refine ⟨_, (pss_cons (ps_set (i := 3) sc__law_fixed.nd rfl (.inl rfl) pe_int)
      (pss_cons (ps_for PassesOwn.never rfl (pi_range1 (by rfl) M.range (pa_cons (pv 1) pa_nil)) (pg_name (i := 4) sc__law_fixed.nd rfl (.inl rfl)) (pss_one (ps_set (i := 3) sc__law_fixed.nd rfl (.inl rfl) (pe_op op_mul (pv 3) pe_int))))
      (pss_cons (ps_set (i := 5) sc__law_fixed.nd rfl (.inl rfl) (pe_lst pa_nil))
      (pss_cons (ps_for PassesOwn.never rfl (pi_range1 (by rfl) M.range (pa_cons (pe_callB (len_seqK K) (by rfl) M.len PySem.boot_len (pa_cons (pv 0) pa_nil)) pa_nil)) (pg_name (i := 6) sc__law_fixed.nd rfl (.inl rfl)) (pss_cons (ps_set (i := 7) sc__law_fixed.nd rfl (.inl rfl) (pe_ifExp (pt_cmpR op_eq (pe_op op_mod (pe_op op_fdivW (pv 6) (pv 3)) pe_int) pe_int (nomark _)) (pe_op op_sub (pv 6) (pv 3)) (pv 6)))
      (pss_one (ps_expr (pe_bmK K PySem.F.plainAttrs_list PySem.F.slot_list_append PySem.F.type_list_append mt_append (pv 5) (pa_cons (pe_ix (ix_tupK K) (pv 0) (pe_op op_add (pv 7) (pe_op op_mul (pv 3) (pv 2))) (fun _ _ => rfl)) pa_nil))))))
      (pss_one (ps_ret (pe_callTy (tupleK K) (by rfl) M.tuple (by decide +kernel) (pa_cons (pv 5) pa_nil)))))))), ?_⟩
    refine ⟨_, rfl, _, rfl, by omega, by omega, ?_⟩
    refine for_range (lo := 0) (n := ((k : Nat) : Int).toNat) (fun i σ Hi => Hi = H ∧ ∃ z, σ = [some (.ref p), some (.int ((k : Nat) : Int)), some (.int (bI b)), some (.int ((2 ^ i : Nat) : Int)), z, none, none, none]) ⟨rfl, _, rfl⟩ (fun i σ Hi hi hp' => ?_) (fun σ Hn hp' => ?_)
    · obtain ⟨rfl, z, rfl⟩ := hp'
      have hi2 := p10 (show i ≤ 10 by omega)
      refine ⟨_, rfl, _, _, rfl, rfl, .inr ⟨by decide, by decide⟩, rfl, some (.int (0 + (i : Int))), ?_⟩
      rw [Nat.pow_succ]
      rfl
    · obtain ⟨rfl, z, rfl⟩ := hp'
      rw [Int.toNat_natCast]
      refine ⟨by show 0 ≤ sizeLine; decide, fun D nD => ?_⟩
      refine ⟨_, rfl, p, _, rfl, .inr (SqT.ext (same_upd nD) hp), ?_⟩
      rw [List.length_map]
      refine ⟨_, rfl, by omega, by omega, ?_⟩
      refine for_range (lo := 0) (n := ((l.length : Nat) : Int).toNat) (fun i σ Hi => Same Hn Hi ∧ (∃ z5 z6 z7, σ = [some (.ref p), some (.int ((k : Nat) : Int)), some (.int (bI b)), some (.int ((2 ^ k : Nat) : Int)), z5, some (.ref D), z6, z7]) ∧ Hi D = some (.lst (((fixL l k b).take i).map V.bl))) ⟨same_upd nD, ⟨_, _, _, rfl⟩, upd_same⟩ (fun i σ Hi hi hp' => ?_) (fun σ Hm hp' => ?_)
      · obtain ⟨si, ⟨z5, z6, z7, rfl⟩, eD⟩ := hp'
        have hi : i < l.length := by omega
        have h2k : 0 < 2 ^ k := Nat.two_pow_pos k
        have hdv : CDivW ((0 : Int) + (i : Int)) ((2 ^ k : Nat) : Int) := wide_div (b := 64) (by omega) (by omega) (by decide) (by decide)
        have ebit : decide (V.int (((0 : Int) + (i : Int)) / ((2 ^ k : Nat) : Int) % 2) = V.int 1) = i.testBit k := by
          rw [Int.zero_add, Nat.testBit_eq_decide_div_mod_eq, decide_eq_decide, ← Int.natCast_ediv]
          constructor
          · intro z
            have := V.int.inj z
            omega
          · intro z
            refine congrArg V.int ?_
            omega
        have hsub : i.testBit k = true → 2 ^ k ≤ i := fun h => Nat.ge_two_pow_of_testBit h
        refine ⟨_, rfl, _, rfl, _, _, rfl, rfl, hdv, _, _, rfl, rfl, by show (0 : Int) < 2; decide, rfl, _, rfl, ?_⟩
        dsimp only
        rw [ebit]
        refine tIf_val (v := .int (((if i.testBit k = true then i - 2 ^ k else i) : Nat) : Int)) (fun e Q q => ⟨_, rfl, _, rfl, _, _, rfl, rfl, ?_⟩) (fun e Q q => ⟨_, rfl, ?_⟩) ?_
        · have := hsub e
          rw [e, if_pos rfl] at q
          dsimp only
          rw [show (0 : Int) + (i : Int) - ((2 ^ k : Nat) : Int) = ((i - 2 ^ k : Nat) : Int) by omega]
          exact q
        · rw [e, if_neg Bool.false_ne_true] at q
          rw [Int.zero_add]
          exact q
        have hf : fxI k b i < l.length := by rw [hl] at hi ⊢; exact fxI_lt hk hi
        have eix : (((if i.testBit k = true then i - 2 ^ k else i) : Nat) : Int) + ((2 ^ k : Nat) : Int) * bI b = ((fxI k b i : Nat) : Int) := by
          unfold fxI bI
          cases b
          · rw [if_neg Bool.false_ne_true, if_neg Bool.false_ne_true, Int.mul_zero]
            omega
          · rw [if_pos rfl, if_pos rfl, Int.mul_one]
            omega
        refine ⟨_, rfl, .inl ⟨rfl, _, .inl (.inl eD)⟩, _, rfl, _, rfl, _, rfl, _, rfl, _, _, rfl, rfl, .inl ⟨by omega, by omega⟩, _, _, rfl, rfl, ?_⟩
        dsimp only
        rw [eix]
        refine ⟨p, _, _, .bl (l.getD (fxI k b i) false), rfl, rfl, SqT.ext si hp, atI_nat (by rw [List.getElem?_map, List.getElem?_eq_getElem hf, List.getD_eq_getElem?_getD, List.getElem?_eq_getElem hf]; rfl), ?_⟩
        refine ⟨D, _, _, rfl, rfl, eD, ?_, ?_, ⟨_, _, _, rfl⟩, ?_⟩
        · rw [List.length_map, List.length_take]
          exact Nat.lt_of_le_of_lt (m := 1024) (by omega) (by decide)
        · intro z o e
          rw [upd_ne (ne_of_none e nD)]
          exact si _ _ e
        · have hg : (fixL l k b)[i]? = some (l.getD (fxI k b i) false) := by
            unfold fixL
            rw [List.getElem?_map, List.getElem?_range hi]
            rfl
          rw [upd_same, List.take_add_one, hg, List.map_append]
          rfl
      · obtain ⟨sm, ⟨z5, z6, z7, rfl⟩, eD⟩ := hp'
        rw [Int.toNat_natCast, ← fixL_len l k b, List.take_of_length_le (Nat.le_refl _)] at eD
        refine ⟨_, rfl, D, _, rfl, .inl ⟨.of eD, fun T nT => ?_⟩⟩
        exact q _ T (sm.trans (same_upd nT)) upd_same
end

theorem idx_ne : ∀ {l : List Bd} {m : Nat} {b a : Bd}, l[m]? = some b → m < l.idxOf a → b ≠ a
  | [], _, _, _, h, _ => by simp at h
  | x :: l, 0, b, a, h, hm => by
    have : x = b := Option.some.inj h
    subst this
    intro z
    subst z
    rw [List.idxOf_cons_self] at hm
    omega
  | x :: l, m + 1, b, a, h, hm => by
    have h : l[m]? = some b := by simpa using h
    by_cases e : x = a
    · subst e
      rw [List.idxOf_cons_self] at hm
      omega
    · have e1 : (x :: l).idxOf a = l.idxOf a + 1 := by rw [List.idxOf_cons, beq_false_of_ne e]; rfl
      exact idx_ne h (by omega)
def sp_lnum (K : PySem.W.Frag) : Sp := fun vs H Q _ => ∃ p kp es acc a, vs = [.ref p, .ref kp] ∧ SqT K H p ((tt es a).map V.bl) ∧ TtL K H kp es acc ∧ es.Nodup ∧ Wf es a ∧ (∀ b ∈ acc, Wf es b ∧ ∃ e w t, b = .nd e w t) ∧ knw acc a = true ∧ ∀ H', Same H H' → Q (.int ((nmb acc a : Nat) : Int)) H'
def sp_llis (K : PySem.W.Frag) (n : Nat) : Sp := fun vs H Q _ => ∃ p ea kp es acc a, vs = [.ref p, .ref ea, .ref kp] ∧ SqT K H p ((tt es a).map V.bl) ∧ H ea = some (.lst (es.map V.int)) ∧ TtL K H kp es acc ∧ es.Nodup ∧ es.length ≤ 10 ∧ Wf es a ∧ a.ht < n ∧ (∀ b ∈ acc, Wf es b) ∧ acc.length + a.sz ≤ 100000 ∧ ∀ H' kp', Same H H' → TtL K H' kp' es (post acc a) → Q (.ref kp') H'
theorem nd_ex {a : Bd} (h : ∀ b, a ≠ .lf b) : ∃ e w t, a = .nd e w t := by
  cases a with
  | lf b => exact absurd rfl (h b)
  | nd e w t => exact ⟨e, w, t, rfl⟩
theorem ht_le {es : List Int} {a : Bd} (h : Wf es a) : a.ht ≤ es.length := by
  induction h with
  | lf => exact Nat.zero_le _
  | here _ _ _ iw it => exact Nat.succ_le_succ (Nat.max_le.mpr ⟨iw, it⟩)
  | skip _ ih => exact Nat.le_succ_of_le ih
section
variable {P : Program} {w : World} {K : PySem.W.Frag} {mg : Str → Option Value} {base : Heap}
theorem ok_ltop {f : Addr} {fd : FuncData} (F : Fun K "_law_top" "_law_top" s__law_top f fd) (M : Mg mg) (c__law_fixed : Cl P w K mg base 1 "_law_fixed" (sp_fixed K)) : FnOk P w K mg base CX0 2 f fd ["truth", "count"] (sp_ltop K) := by
  refine F.ok sc__law_top (fun vs H Q E h => ?_) (fun cdv A outer s H vs Q E hr h => ?_)
  · obtain ⟨p, es, a, rfl, _⟩ := h
    rfl
  · obtain ⟨p, es, a, rfl, hp, wa, hn, hl, q⟩ := h
    refine ⟨_, (pss_cons (ps_for PassesOwn.never rfl (pi_range1 (by rfl) M.range (pa_cons (pv 1) pa_nil)) (pg_name (i := 2) sc__law_top.nd rfl (.inl rfl)) (pss_one (ps_if (pt_cmpR (neDK K hr.units) (pe_u c__law_fixed hr (by first | decide | omega) (by rfl) (pa_cons (pv 0) (pa_cons (pv 2) (pa_cons pe_int pa_nil)))) (pe_u c__law_fixed hr (by first | decide | omega) (by rfl) (pa_cons (pv 0) (pa_cons (pv 2) (pa_cons pe_int pa_nil)))) (nomark _)) (pss_one (ps_ret (pv 2))) pss_nil)))
      (pss_one (ps_ret pe_non))), ?_⟩
    refine ⟨_, rfl, _, rfl, by omega, by omega, ?_⟩
    refine for_range (lo := 0) (n := ((es.length : Nat) : Int).toNat) (fun i σ Hi => Same H Hi ∧ (∃ z, σ = [some (.ref p), some (.int ((es.length : Nat) : Int)), z]) ∧ ∀ e w t, a = .nd e w t → i ≤ es.idxOf e) ⟨fun _ _ h => h, ⟨_, rfl⟩, fun _ _ _ _ => Nat.zero_le _⟩ (fun i σ Hi hi hp' => ?_) (fun σ Hn hp' => ?_)
    · obtain ⟨si, ⟨z, rfl⟩, hx⟩ := hp'
      have hi : i < es.length := by omega
      rw [Int.zero_add]
      refine ⟨_, rfl, _, rfl, p, _, i, false, es.length, rfl, SqT.ext si hp, tt_len es a, hi, hl, fun H1 q1 s1 e1 => ?_⟩
      refine ⟨_, rfl, _, rfl, p, _, i, true, es.length, rfl, SqT.ext (si.trans s1) hp, tt_len es a, hi, hl, fun H2 q2 s2 e2 => ?_⟩
      refine ⟨_, _, dp_tt (.of (s2 _ _ e1)), dp_tt (.of e2), tup_shaped _, tup_shaped _, _, rfl, ?_⟩
      rw [tup_eqv]
      have s02 := (si.trans s1).trans s2
      cases a with
      | lf v =>
        rw [fix_lf hn hi, fix_lf hn hi, decide_eq_true rfl]
        exact iteF ⟨s02, ⟨_, rfl⟩, fun _ _ _ h => nomatch h⟩
      | nd e w t =>
        obtain ⟨t1, t2, t3, t4, t5, t6⟩ := fix_top hn wa
        have hx := hx e w t rfl
        by_cases hie : i = es.idxOf e
        · subst hie
          rw [t1, t2, decide_eq_false t3]
          refine iteT ⟨_, rfl, ?_⟩
          exact q H2 s02
        · have hlt : i < es.idxOf e := by omega
          rw [t6 i hlt, t6 i hlt, decide_eq_true rfl]
          refine iteF ⟨s02, ⟨_, rfl⟩, fun e' w' t' h => ?_⟩
          cases h
          exact hlt
    · obtain ⟨sn, ⟨z, rfl⟩, hx⟩ := hp'
      cases a with
      | lf v => exact q Hn sn
      | nd e w t =>
        have h1 := hx e w t rfl
        obtain ⟨_, _, _, t4, _⟩ := fix_top hn wa
        omega
end

/-! ### all diagrams of some conditions -/
def sp_ldia (K : PySem.W.Frag) : Sp := fun vs H Q _ => ∃ p es as, vs = [.ref p, .int ((es.length : Nat) : Int)] ∧ TtL K H p es as ∧ es.Nodup ∧ es.length ≤ 10 ∧ (∀ a ∈ as, Wf es a) ∧ as.length ≤ 100 ∧ (∀ a ∈ as, a.sz ≤ 1000) ∧ ∀ H' q fs, Same H H' → TtL K H' q es fs → fs.Nodup → (∀ x, x ∈ fs ↔ ∃ a ∈ as, x ∈ subN a) → Q (.ref q) H'
/-- the pile's weight: each diagram's nodes, twice and one more -/
def pile : List Bd → Nat
  | [] => 0
  | a :: as => 2 * a.sz + 1 + pile as
theorem pile_app : ∀ as bs : List Bd, pile (as ++ bs) = pile as + pile bs
  | [], bs => by rw [List.nil_append]; show _ = 0 + _; omega
  | a :: as, bs => by
    show 2 * a.sz + 1 + pile (as ++ bs) = 2 * a.sz + 1 + pile as + pile bs
    rw [pile_app as bs]
    omega
theorem pile_len : ∀ as : List Bd, as.length ≤ pile as
  | [] => Nat.le_refl _
  | a :: as => by
    have := pile_len as
    show _ + 1 ≤ 2 * a.sz + 1 + pile as
    omega
theorem pile_le : ∀ (as : List Bd) (b : Nat), (∀ a ∈ as, a.sz ≤ b) → pile as ≤ as.length * (2 * b + 1)
  | [], _, _ => Nat.zero_le _
  | a :: as, b, h => by
    have h1 := pile_le as b fun x hx => h x (List.mem_cons_of_mem _ hx)
    have h2 := h a List.mem_cons_self
    have h3 : (as.length + 1) * (2 * b + 1) = as.length * (2 * b + 1) + (2 * b + 1) := Nat.succ_mul _ _
    show 2 * a.sz + 1 + pile as ≤ (as.length + 1) * (2 * b + 1)
    omega
theorem sub_trans : ∀ {a x y : Bd}, x ∈ subN a → y ∈ subN x → y ∈ subN a
  | .lf _, _, _, h, _ => by cases h
  | .nd e w t, x, y, h, hy => by
    rcases List.mem_cons.mp h with rfl | h
    · exact hy
    · refine List.mem_cons_of_mem _ ?_
      rcases List.mem_append.mp h with h | h
      · exact List.mem_append_left _ (sub_trans h hy)
      · exact List.mem_append_right _ (sub_trans h hy)
theorem sub_sz : ∀ {a x : Bd}, x ∈ subN a → x.sz ≤ a.sz
  | .lf _, _, h => by cases h
  | .nd e w t, x, h => by
    show x.sz ≤ w.sz + t.sz + 1
    rcases List.mem_cons.mp h with rfl | h
    · exact Nat.le_refl _
    · rcases List.mem_append.mp h with h | h
      · have := sub_sz h; omega
      · have := sub_sz h; omega
theorem sub_nd : ∀ {a x : Bd}, x ∈ subN a → ∃ e w t, x = .nd e w t
  | .lf _, _, h => by cases h
  | .nd e w t, x, h => by
    rcases List.mem_cons.mp h with rfl | h
    · exact ⟨_, _, _, rfl⟩
    · rcases List.mem_append.mp h with h | h
      · exact sub_nd h
      · exact sub_nd h
/-- the node, then all of one side, then all of the other: what is found already is passed over -/
def pre : List Bd → Bd → List Bd
  | fs, .lf _ => fs
  | fs, .nd e w t => if Bd.nd e w t ∈ fs then fs else pre (pre (fs ++ [.nd e w t]) t) w
theorem pre_nodup : ∀ (a : Bd) (fs : List Bd), fs.Nodup → (pre fs a).Nodup
  | .lf _, _, h => h
  | .nd e w t, fs, h => by
    unfold pre
    split
    · exact h
    · rename_i hn
      refine pre_nodup w _ (pre_nodup t _ ?_)
      rw [List.nodup_append]
      refine ⟨h, List.nodup_cons.mpr ⟨List.not_mem_nil, List.nodup_nil⟩, fun x hx y hy z => ?_⟩
      rw [List.mem_singleton] at hy
      subst z hy
      exact hn hx
def ClB (fs : List Bd) (n : Nat) : Prop := ∀ b ∈ fs, b.sz ≤ n → ∀ x ∈ subN b, x ∈ fs
theorem pre_iff : ∀ (a : Bd) (fs : List Bd), ClB fs a.sz → ∀ x, x ∈ pre fs a ↔ x ∈ fs ∨ x ∈ subN a
  | .lf _, fs, _, x => ⟨.inl, fun h => h.elim id (fun z => by cases z)⟩
  | .nd e w t, fs, hc, x => by
    have hsz : (Bd.nd e w t).sz = w.sz + t.sz + 1 := rfl
    by_cases hm : Bd.nd e w t ∈ fs
    · rw [pre, if_pos hm]
      exact ⟨.inl, fun h => h.elim id (hc _ hm (Nat.le_refl _) x)⟩
    · have c1 : ClB (fs ++ [.nd e w t]) t.sz := fun b hb hs y hy => by
        rcases List.mem_append.mp hb with hb | hb
        · exact List.mem_append_left _ (hc b hb (by omega) y hy)
        · rw [List.mem_singleton] at hb
          subst hb
          omega
      have i1 := pre_iff t (fs ++ [.nd e w t]) c1
      have c2 : ClB (pre (fs ++ [.nd e w t]) t) w.sz := fun b hb hs y hy => by
        rw [i1] at hb ⊢
        rcases hb with hb | hb
        · rcases List.mem_append.mp hb with hb | hb
          · exact .inl (List.mem_append_left _ (hc b hb (by omega) y hy))
          · rw [List.mem_singleton] at hb
            subst hb
            omega
        · exact .inr (sub_trans hb hy)
      rw [pre, if_neg hm, pre_iff w _ c2, i1, List.mem_append, List.mem_singleton]
      constructor
      · rintro (((h | h) | h) | h)
        · exact .inl h
        · subst h; exact .inr List.mem_cons_self
        · exact .inr (List.mem_cons_of_mem _ (List.mem_append_right _ h))
        · exact .inr (List.mem_cons_of_mem _ (List.mem_append_left _ h))
      · rintro (h | h)
        · exact .inl (.inl (.inl h))
        · rcases List.mem_cons.mp h with h | h
          · exact .inl (.inl (.inr h))
          · rcases List.mem_append.mp h with h | h
            · exact .inr h
            · exact .inl (.inr h)
theorem pres_iff : ∀ (as fs : List Bd), (∀ n, ClB fs n) → ∀ x, x ∈ as.foldl pre fs ↔ x ∈ fs ∨ ∃ a ∈ as, x ∈ subN a
  | [], fs, _, x => ⟨.inl, fun h => h.elim id (fun ⟨a, h, _⟩ => by cases h)⟩
  | a :: as, fs, hc, x => by
    have i1 := pre_iff a fs (hc _)
    rw [List.foldl_cons, pres_iff as _ (fun n b hb hs y hy => by
      rw [i1] at hb ⊢
      rcases hb with hb | hb
      · exact .inl (hc b.sz b hb (Nat.le_refl _) y hy)
      · exact .inr (sub_trans hb hy)), i1]
    constructor
    · rintro ((h | h) | ⟨b, hb, h⟩)
      · exact .inl h
      · exact .inr ⟨a, List.mem_cons_self, h⟩
      · exact .inr ⟨b, List.mem_cons_of_mem _ hb, h⟩
    · rintro (h | ⟨b, hb, h⟩)
      · exact .inl (.inl h)
      · rcases List.mem_cons.mp hb with rfl | hb
        · exact .inl (.inr h)
        · exact .inr ⟨b, hb, h⟩
theorem pres_nodup : ∀ (as fs : List Bd), fs.Nodup → (as.foldl pre fs).Nodup
  | [], _, h => h
  | a :: as, fs, h => pres_nodup as _ (pre_nodup a fs h)
theorem pre_pre : ∀ (a : Bd) (fs : List Bd), fs <+: pre fs a
  | .lf _, fs => List.prefix_refl fs
  | .nd e w t, fs => by
    unfold pre
    split
    · exact List.prefix_refl fs
    · exact ((List.prefix_append _ _).trans (pre_pre t _)).trans (pre_pre w _)
theorem pres_pre : ∀ (as fs : List Bd), fs <+: as.foldl pre fs
  | [], fs => List.prefix_refl fs
  | a :: as, fs => (pre_pre a fs).trans (pres_pre as _)
theorem pre_len : ∀ (a : Bd) (fs : List Bd), (pre fs a).length ≤ fs.length + a.sz
  | .lf _, _ => Nat.le_refl _
  | .nd e w t, fs => by
    have h1 := pre_len t (fs ++ [.nd e w t])
    have h2 := pre_len w (pre (fs ++ [.nd e w t]) t)
    rw [List.length_append] at h1
    have h3 : ([Bd.nd e w t] : List Bd).length = 1 := rfl
    unfold pre
    show _ ≤ fs.length + (w.sz + t.sz + 1)
    split <;> omega
theorem pres_len : ∀ (as fs : List Bd), (as.foldl pre fs).length ≤ fs.length + pile as
  | [], fs => by simp [pile]
  | a :: as, fs => by
    have h1 := pre_len a fs
    have h2 := pres_len as (pre fs a)
    rw [List.foldl_cons]
    show _ ≤ fs.length + (2 * a.sz + 1 + pile as)
    omega
def LdW (K : PySem.W.Frag) (H : Hp) (es : List Int) (p fl wl : Addr) (fin : List Bd) (M0 : Nat) (m : Nat) (σ : L2.St) (Hi : Hp) : Prop :=
  ∃ fs ws z4 z5, m = pile ws ∧ pile ws ≤ M0 ∧ σ = [some (.ref p), some (.int ((es.length : Nat) : Int)), some (.ref fl), some (.ref wl), z4, z5] ∧ Same H Hi ∧ TtL K Hi fl es fs ∧ TtL K Hi wl es ws.reverse ∧ (∀ a ∈ fs, Wf es a) ∧ (∀ a ∈ ws, Wf es a) ∧ ws.foldl pre fs = fin
theorem TtL.away {K : PySem.W.Frag} {H : Hp} {p D : Addr} {es : List Int} {as : List Bd} {zs : List V} {o : HO} (h : TtL K H p es as) (hD : H D = some (.lst zs)) (n : p ≠ D) : TtL K (upd H D o) p es as := by
  obtain ⟨vs, h1, h2⟩ := h
  exact ⟨vs, by rw [upd_ne n]; exact h1, DpAll.away hD _ _ (bDt_only es as) h2⟩
theorem DpAll.last {K : PySem.W.Frag} {H : Hp} : ∀ {ds : List PyData} {vs : List V} {d : PyData}, DpAll K H vs (ds ++ [d]) → ∃ us v, vs = us ++ [v] ∧ DpAll K H us ds ∧ Dp K H v d
  | [], _, _, h => by
    cases h with
    | cons h1 h2 =>
      cases h2
      exact ⟨[], _, rfl, .nil, h1⟩
  | x :: ds, _, d, h => by
    cases h with
    | cons h1 h2 =>
      obtain ⟨us, v, rfl, g1, g2⟩ := DpAll.last h2
      exact ⟨_ :: us, v, rfl, .cons h1 g1, g2⟩
theorem tt_seq {K : PySem.W.Frag} {H : Hp} {v : V} {es : List Int} {a : Bd} (h : Dp K H v (bDt es a)) : ∃ q, v = .ref q ∧ SqT K H q ((tt es a).map V.bl) := by
  obtain ⟨q, xs, rfl, hs, hx⟩ := dp_tup h
  refine ⟨q, rfl, ?_⟩
  have : xs = (tt es a).map V.bl := by
    generalize tt es a = l at hx
    clear hs h
    induction l generalizing xs with
    | nil => cases hx; rfl
    | cons b l ih =>
      rw [List.map_cons] at hx
      cases hx with
      | cons h1 h2 =>
        cases h1
        rw [List.map_cons, ih _ h2]
  rw [this] at hs
  exact hs
section
variable {P : Program} {w : World} {K : PySem.W.Frag} {mg : Str → Option Value} {base : Heap}
theorem ok_ldia {f : Addr} {fd : FuncData} (F : Fun K "_law_diagrams" "_law_diagrams" s__law_diagrams f fd) (M : Mg mg) (c__law_fixed : Cl P w K mg base 1 "_law_fixed" (sp_fixed K)) (c__law_top : Cl P w K mg base 2 "_law_top" (sp_ltop K)) : FnOk P w K mg base CX0 3 f fd ["truths", "count"] (sp_ldia K) := by
  refine F.ok sc__law_diagrams (fun vs H Q E h => ?_) (fun cdv A outer s H vs Q E hr h => ?_)
  · obtain ⟨p, es, as, rfl, _⟩ := h
    rfl
  · obtain ⟨p, es, as, rfl, tl, hn, hl, hwf, hal, hsz, q⟩ := h
    have hpl : pile as.reverse ≤ 300000 := by
      have h1 := pile_le as.reverse 1000 fun b hb => hsz b (List.mem_reverse.mp hb)
      rw [List.length_reverse] at h1
      have h3 := Nat.mul_le_mul_right (2 * 1000 + 1) hal
      omega
    generalize hfin : as.reverse.foldl pre [] = fin
    have hq : ∀ H' q', Same H H' → TtL K H' q' es fin → Q (.ref q') H' := fun H' q' s' t' => by
      refine q H' q' fin s' t' (by rw [← hfin]; exact pres_nodup _ _ List.nodup_nil) fun x => ?_
      rw [← hfin, pres_iff _ _ (fun n b hb => by cases hb)]
      constructor
      · rintro (h | ⟨a, ha, h⟩)
        · cases h
        · exact ⟨a, List.mem_reverse.mp ha, h⟩
      · rintro ⟨a, ha, h⟩
        exact .inr ⟨a, List.mem_reverse.mpr ha, h⟩
    have sl : (1000000 : Nat) < sizeLine := by decide
    refine ⟨_, (pss_cons (ps_set (i := 2) sc__law_diagrams.nd rfl (.inl rfl) (pe_lst pa_nil))
      (pss_cons (ps_set (i := 3) sc__law_diagrams.nd rfl (.inl rfl) (pe_callTy (listK K) (by rfl) M.list (by decide +kernel) (pa_cons (pv 0) pa_nil)))
      (pss_cons (ps_while PassesOwn.never (pt_truthK K (pv 3) (by intro _; rfl)) (pss_cons (ps_set (i := 4) sc__law_diagrams.nd rfl (.inl rfl) (pe_bm0 PySem.F.plainAttrs_list PySem.F.slot_list_pop PySem.F.type_list_pop mt_pop (pv 3)))
      (pss_cons (ps_set (i := 5) sc__law_diagrams.nd rfl (.inl rfl) (pe_u c__law_top hr (by first | decide | omega) (by rfl) (pa_cons (pv 4) (pa_cons (pv 1) pa_nil))))
      (pss_one (ps_if (PW.pt (pw_and (pt_cmpR op_notN (pv 5) pe_non (nomark _)) (pw_and1 (pt_cmpR (notInDK K (hu65 hr)) (pv 4) (pv 2) (by rfl))))) (pss_cons (ps_expr (pe_bmK K PySem.F.plainAttrs_list PySem.F.slot_list_append PySem.F.type_list_append mt_append (pv 2) (pa_cons (pv 4) pa_nil)))
      (pss_cons (ps_expr (pe_bmK K PySem.F.plainAttrs_list PySem.F.slot_list_append PySem.F.type_list_append mt_append (pv 3) (pa_cons (pe_u c__law_fixed hr (by first | decide | omega) (by rfl) (pa_cons (pv 4) (pa_cons (pv 5) (pa_cons pe_int pa_nil)))) pa_nil)))
      (pss_one (ps_expr (pe_bmK K PySem.F.plainAttrs_list PySem.F.slot_list_append PySem.F.type_list_append mt_append (pv 3) (pa_cons (pe_u c__law_fixed hr (by first | decide | omega) (by rfl) (pa_cons (pv 4) (pa_cons (pv 5) (pa_cons pe_int pa_nil)))) pa_nil)))))) pss_nil)))))
      (pss_one (ps_ret (pv 2)))))), ?_⟩
    refine ⟨by show 0 ≤ sizeLine; decide, fun fl nfl => ?_⟩
    have s1 := same_upd nfl (o := .lst [])
    have e1 : (upd H fl (.lst [])) fl = some (.lst []) := upd_same
    generalize upd H fl (.lst []) = H1 at s1 e1
    obtain ⟨vs0, ep0, dp0⟩ := id tl
    refine ⟨_, rfl, p, _, rfl, .inl (.of (s1 _ _ ep0)), fun wl nwl => ?_⟩
    have s2 := same_upd nwl (o := .lst vs0)
    have e2 : (upd H1 wl (.lst vs0)) wl = some (.lst vs0) := upd_same
    have nwfl : wl ≠ fl := (ne_of_none e1 nwl).symm
    generalize upd H1 wl (.lst vs0) = H2 at s2 e2
    have nwl0 := s1.free nwl
    have fresh : ∀ {Hi : Hp} {p : Addr} {o : HO}, Same H Hi → H p = none → Same H (upd Hi p o) := fun sm np b o e => by
      rw [upd_ne (ne_of_none e np)]
      exact sm b o e
    refine ⟨LdW K H es p fl wl fin 300000, ⟨_, [], as.reverse, none, none, rfl, hpl, rfl, s1.trans s2, ⟨[], s2 _ _ e1, .nil⟩, ⟨vs0, e2, by rw [List.reverse_reverse]; exact DpAll.ext (s1.trans s2) _ _ dp0⟩, (by intro _ h; cases h), fun a ha => hwf a (List.mem_reverse.mp ha), hfin⟩, ?_⟩
    rintro m σ Hi ⟨fs, ws, z4, z5, rfl, hm, rfl, si, tf, tw, hfs, hws, hf⟩
    obtain ⟨vs, ew, dw⟩ := id tw
    refine ⟨_, rfl, _, .inl ⟨_, .of ew, rfl⟩, ?_⟩
    cases ws with
    | nil =>
      have hv : vs = [] := by
        have := DpAll.len dw
        exact List.eq_nil_of_length_eq_zero (by rw [this]; rfl)
      subst hv
      refine iteF ⟨_, rfl, ?_⟩
      have hf : fs = fin := hf
      subst hf
      exact hq Hi fl si tf
    | cons a ws =>
      rw [List.reverse_cons, List.map_append] at dw
      obtain ⟨us, v, rfl, dus, dv⟩ := DpAll.last dw
      obtain ⟨ap, rfl, hap⟩ := tt_seq dv
      have wa := hws a List.mem_cons_self
      have hws' : ∀ b ∈ ws, Wf es b := fun b hb => hws b (List.mem_cons_of_mem _ hb)
      have hne : (us ++ [V.ref ap]).isEmpty = false := by cases us <;> rfl
      rw [hne]
      refine iteT ⟨fun σ' H' => ∃ m', m' < pile (a :: ws) ∧ LdW K H es p fl wl fin 300000 m' σ' H', fun _ _ h => h, ?_⟩
      refine ⟨_, rfl, .inl ⟨rfl, _, .inl (.inl ew)⟩, wl, _, .ref ap, rfl, rfl, ew, ?_, ?_⟩
      · rw [List.length_append]
        show (us ++ [V.ref ap])[us.length + 1 - 1]? = _
        rw [Nat.add_sub_cancel, List.getElem?_append_right (Nat.le_refl _), Nat.sub_self]
        rfl
      rw [List.dropLast_concat]
      have ew1 : (upd Hi wl (.lst us)) wl = some (.lst us) := upd_same
      have tw1 : TtL K (upd Hi wl (.lst us)) wl es ws.reverse := ⟨us, upd_same, DpAll.away ew _ _ (bDt_only es _) dus⟩
      have tf1 : TtL K (upd Hi wl (.lst us)) fl es fs := tf.away ew nwfl.symm
      have hap1 : SqT K (upd Hi wl (.lst us)) ap ((tt es a).map V.bl) := (tt_seq (Dp.away ew _ _ (bDt_1 es a) dv)).elim fun q hq => by
        obtain ⟨e, h⟩ := hq
        cases e
        exact h
      have sw1 := fresh (o := .lst us) si nwl0
      generalize upd Hi wl (.lst us) = H3 at ew1 tw1 tf1 hap1 sw1
      refine ⟨_, rfl, _, rfl, ap, es, a, rfl, hap1, wa, hn, hl, fun H4 s4 => ?_⟩
      have tw4 := tw1.ext s4
      have tf4 := tf1.ext s4
      have hap4 := SqT.ext s4 hap1
      have s04 := sw1.trans s4
      have hf : ws.foldl pre (pre fs a) = fin := hf
      have hpw : pile ws < pile (a :: ws) := by show _ < 2 * a.sz + 1 + pile ws; omega
      cases a with
      | lf v => exact ⟨_, rfl, rfl, _, rfl, iteF ⟨pile ws, hpw, fs, ws, _, _, rfl, by omega, rfl, s04, tf4, tw4, hfs, hws', hf⟩⟩
      | nd e w t =>
        obtain ⟨w1, w2⟩ := wf_kids wa
        obtain ⟨t1, t2, t3, t4, t5, t6⟩ := fix_top hn wa
        refine ⟨_, rfl, rfl, _, rfl, ?_⟩
        rw [show decide (topV es (.nd e w t) = V.non) = false from decide_eq_false (fun z => nomatch z)]
        refine iteT ⟨_, rfl, _, rfl, bDt es (.nd e w t), _, dp_tt hap4, tf4.dp, tup_shaped _, bDts_shaped es fs, _, rfl, ?_⟩
        rw [any_eqv hn wa hfs]
        by_cases hm2 : Bd.nd e w t ∈ fs
        · rw [decide_eq_true hm2]
          refine iteF ⟨pile ws, hpw, fs, ws, _, _, rfl, by omega, rfl, s04, tf4, tw4, hfs, hws', ?_⟩
          rw [pre, if_pos hm2] at hf
          exact hf
        · rw [decide_eq_false hm2]
          refine iteT ?_
          rw [pre, if_neg hm2] at hf
          obtain ⟨fv, ef, lf, _⟩ := tf4.get
          have lfs : fs.length ≤ 300000 := by
            have h1 := (pres_pre ws (pre (pre (fs ++ [.nd e w t]) t) w)).length_le
            have h2 := (((List.prefix_append fs [.nd e w t]).trans (pre_pre t _)).trans (pre_pre w _)).length_le
            have h3 := pres_len as.reverse []
            rw [hfin] at h3
            rw [hf] at h1
            have h4 : ([] : List Bd).length = 0 := rfl
            omega
          refine ⟨_, rfl, .inl ⟨rfl, _, .inl (.inl ef)⟩, _, rfl, fl, _, _, rfl, rfl, ef, by omega, ?_⟩
          have tf5 := tf4.snoc ef hap4
          obtain ⟨wv, ewv, lwv, _⟩ := tw4.get
          have tw5 : TtL K (upd H4 fl (.lst (fv ++ [.ref ap]))) wl es ws.reverse := tw4.away ef nwfl
          have hap5 : SqT K (upd H4 fl (.lst (fv ++ [.ref ap]))) ap ((tt es (.nd e w t)).map V.bl) := (tt_seq (Dp.away ef _ _ (bDt_1 es _) (dp_tt hap4))).elim fun q hq => by
            obtain ⟨e, h⟩ := hq
            cases e
            exact h
          have s05 := fresh (o := .lst (fv ++ [.ref ap])) s04 nfl
          generalize upd H4 fl (.lst (fv ++ [.ref ap])) = H5 at tf5 tw5 hap5 s05
          obtain ⟨w5v, ew5, lw5, _⟩ := tw5.get
          have lws : ws.length ≤ 300000 := by
            have := pile_len ws
            omega
          refine ⟨_, rfl, .inl ⟨rfl, _, .inl (.inl ew5)⟩, ?_⟩
          refine ⟨_, rfl, _, rfl, ap, _, es.idxOf e, false, es.length, rfl, hap5, tt_len es _, t4, hl, fun H6 q6 s6 e6 => ?_⟩
          rw [t1] at e6
          have ew6 := s6 _ _ ew5
          refine ⟨wl, _, _, rfl, rfl, ew6, by rw [lw5, List.length_reverse]; omega, ?_⟩
          have tw7 := (tw5.ext s6).snoc ew6 (.of e6)
          have ef6 : ∃ zs, H6 fl = some (.lst zs) := by
            obtain ⟨zs, h, _⟩ := tf5.ext s6
            exact ⟨zs, h⟩
          have tf7 : TtL K (upd H6 wl (.lst (w5v ++ [.ref q6]))) fl es (fs ++ [.nd e w t]) := (tf5.ext s6).away ew6 nwfl.symm
          have hap7 : SqT K (upd H6 wl (.lst (w5v ++ [.ref q6]))) ap ((tt es (.nd e w t)).map V.bl) := (tt_seq (Dp.away ew6 _ _ (bDt_1 es _) (dp_tt (SqT.ext s6 hap5)))).elim fun q hq => by
            obtain ⟨e, h⟩ := hq
            cases e
            exact h
          have s07 := fresh (o := .lst (w5v ++ [.ref q6])) (s05.trans s6) nwl0
          generalize upd H6 wl (.lst (w5v ++ [.ref q6])) = H7 at tw7 tf7 hap7 s07
          obtain ⟨w7v, ew7, lw7, _⟩ := tw7.get
          refine ⟨_, rfl, .inl ⟨rfl, _, .inl (.inl ew7)⟩, ?_⟩
          refine ⟨_, rfl, _, rfl, ap, _, es.idxOf e, true, es.length, rfl, hap7, tt_len es _, t4, hl, fun H8 q8 s8 e8 => ?_⟩
          rw [t2] at e8
          have ew8 := s8 _ _ ew7
          refine ⟨wl, _, _, rfl, rfl, ew8, by rw [lw7, List.length_append, List.length_reverse]; show _ + 1 < _; omega, ?_⟩
          have tw9 := (tw7.ext s8).snoc ew8 (.of e8)
          have tf9 : TtL K (upd H8 wl (.lst (w7v ++ [.ref q8]))) fl es (fs ++ [.nd e w t]) := (tf7.ext s8).away ew8 nwfl.symm
          have hpp : pile (t :: w :: ws) + 1 = pile (.nd e w t :: ws) := by
            show 2 * t.sz + 1 + (2 * w.sz + 1 + pile ws) + 1 = 2 * (w.sz + t.sz + 1) + 1 + pile ws
            omega
          refine ⟨pile (t :: w :: ws), by omega, fs ++ [.nd e w t], t :: w :: ws, _, _, rfl, by omega, rfl, fresh (s07.trans s8) nwl0, tf9, ?_, fun b hb => ?_, fun b hb => ?_, hf⟩
          · rw [List.reverse_cons, List.reverse_cons]
            exact tw9
          · rcases List.mem_append.mp hb with hb | hb
            · exact hfs b hb
            · rw [List.mem_singleton.mp hb]; exact wa
          · rcases List.mem_cons.mp hb with rfl | hb
            · exact w2
            · rcases List.mem_cons.mp hb with rfl | hb
              · exact w1
              · exact hws' b hb
end

/-! ### all sets of rows -/
theorem subs_sub2 (es : List Int) : ∀ p ∈ subs es, p.Sublist es := by
  have h : ∀ (es pre : List Int) (f : List (List Int)), (∀ p ∈ f, p.Sublist pre) → ∀ p ∈ es.foldl (fun f e => f ++ f.map (· ++ [e])) f, p.Sublist (pre ++ es) := by
    intro es
    induction es with
    | nil => intro pre f h p hp; rw [List.append_nil]; exact h p hp
    | cons x es ih =>
      intro pre f h p hp
      rw [List.foldl_cons] at hp
      have := ih (pre ++ [x]) _ (fun q hq => ?_) p hp
      · rw [List.append_assoc] at this
        exact this
      · rcases List.mem_append.mp hq with hq | hq
        · exact (h q hq).trans (List.sublist_append_left _ _)
        · obtain ⟨r, hr, rfl⟩ := List.mem_map.mp hq
          exact List.Sublist.append (h r hr) (List.Sublist.refl _)
  intro p hp
  exact h es [] [[]] (by intro q hq; rw [List.mem_singleton.mp hq]; exact List.Sublist.refl _) p hp
theorem pw_ext2 : ∀ {a b : List Int}, a.Pairwise (· < ·) → b.Pairwise (· < ·) → (∀ x, x ∈ a ↔ x ∈ b) → a = b
  | [], [], _, _, _ => rfl
  | [], y :: b, _, _, h => absurd ((h y).mpr List.mem_cons_self) List.not_mem_nil
  | x :: a, [], _, _, h => absurd ((h x).mp List.mem_cons_self) List.not_mem_nil
  | x :: a, y :: b, ha, hb, h => by
    rw [List.pairwise_cons] at ha hb
    have e : x = y := by
      rcases List.mem_cons.mp ((h x).mp List.mem_cons_self) with e | m
      · exact e
      · rcases List.mem_cons.mp ((h y).mpr List.mem_cons_self) with e | m2
        · exact e.symm
        · have h1 := hb.1 x m
          have h2 := ha.1 y m2
          omega
    subst e
    refine congrArg (x :: ·) (pw_ext2 ha.2 hb.2 fun z => ⟨fun hz => ?_, fun hz => ?_⟩)
    · rcases List.mem_cons.mp ((h z).mp (List.mem_cons_of_mem _ hz)) with e | m
      · have := ha.1 z hz
        omega
      · exact m
    · rcases List.mem_cons.mp ((h z).mpr (List.mem_cons_of_mem _ hz)) with e | m
      · have := hb.1 z hz
        omega
      · exact m
/-- every part of the entries, in their order, is one of the law's sets -/
theorem subs_mem {es p : List Int} (hs : es.Pairwise (· < ·)) (hp : p.Sublist es) : p ∈ subs es := by
  have hn : es.Nodup := hs.imp fun h => by omega
  obtain ⟨q, hq, h⟩ := subs_all hn fun x => decide (x ∈ p)
  have sq := subs_sub2 es q hq
  have e : q = p := pw_ext2 (hs.sublist sq) (hs.sublist hp) fun x => by
    constructor
    · intro hx
      have := h x (sq.subset hx)
      rw [decide_eq_decide] at this
      exact this.mp hx
    · intro hx
      have := h x (hp.subset hx)
      rw [decide_eq_decide] at this
      exact this.mpr hx
  rw [← e]
  exact hq

/-! ### the laws' sets in lists of their own -/
def LN (H0 H : Hp) (p : Addr) (ls : List (List Int)) : Prop := ∃ as : List Addr, H p = some (.lst (as.map V.ref)) ∧ as.length = ls.length ∧ ∀ (i : Nat) b l, as[i]? = some b → ls[i]? = some l → H0 b = none ∧ H b = some (.lst (l.map V.int))
theorem LN.ext {H0 H H' : Hp} {p : Addr} {ls : List (List Int)} (e : Same H H') (h : LN H0 H p ls) : LN H0 H' p ls := by
  obtain ⟨as, h1, h2, h3⟩ := h
  exact ⟨as, e _ _ h1, h2, fun i b l g1 g2 => ⟨(h3 i b l g1 g2).1, e _ _ (h3 i b l g1 g2).2⟩⟩
theorem LN.get {H0 H : Hp} {p : Addr} {ls : List (List Int)} (h : LN H0 H p ls) : ∃ as : List Addr, H p = some (.lst (as.map V.ref)) ∧ as.length = ls.length ∧ ∀ (i : Nat) v, (as.map V.ref)[i]? = some v → ∃ b l, v = .ref b ∧ ls[i]? = some l ∧ H b = some (.lst (l.map V.int)) := by
  obtain ⟨as, h1, h2, h3⟩ := h
  refine ⟨as, h1, h2, fun i v hv => ?_⟩
  rw [List.getElem?_map] at hv
  obtain ⟨b, hb, rfl⟩ := Option.map_eq_some_iff.mp hv
  have hi : i < ls.length := by rw [← h2]; exact (List.getElem?_eq_some_iff.mp hb).1
  exact ⟨b, ls[i], rfl, List.getElem?_eq_getElem hi, (h3 i b _ hb (List.getElem?_eq_getElem hi)).2⟩
theorem LN.fds {C : Addr} {K : PySem.W.Frag} {sa : SA} {N : Nds} {es : List Int} {L : Nat} {H0 H H' : Hp} {p : Addr} {ls : List (List Int)} (st : Sto C K H0 sa N es L) (n : H0 p = none) (f : FdS sa H H') (h : LN H0 H p ls) : LN H0 H' p ls := by
  obtain ⟨as, h1, h2, h3⟩ := h
  have g := bu_ne st n
  refine ⟨as, f _ _ g.1 g.2.1 g.2.2 h1, h2, fun i b l g1 g2 => ?_⟩
  obtain ⟨k1, k2⟩ := h3 i b l g1 g2
  have g' := bu_ne st k1
  exact ⟨k1, f _ _ g'.1 g'.2.1 g'.2.2 k2⟩
def sp_subsN : Sp := fun vs H Q _ => ∃ a, ∃ es : List Int, vs = [.ref a] ∧ H a = some (.lst (es.map V.int)) ∧ es.length ≤ 10 ∧ ∀ H' p, Same H H' → H p = none → LN H H' p (subs es) → Q (.ref p) H'
theorem LN.app {H0 H : Hp} {p q a b : Addr} {ls ms : List (List Int)} {xs ys : List V} (np : H p = none) (h1 : LN H0 H a ls) (h2 : LN H0 H b ms) (e1 : H a = some (.lst xs)) (e2 : H b = some (.lst ys)) : LN H0 (upd H p (.lst (xs ++ ys))) p (ls ++ ms) := by
  obtain ⟨as, g1, g2, g3⟩ := h1
  obtain ⟨bs, k1, k2, k3⟩ := h2
  have ex : xs = as.map V.ref := by rw [g1] at e1; exact (HO.lst.inj (Option.some.inj e1)).symm
  have ey : ys = bs.map V.ref := by rw [k1] at e2; exact (HO.lst.inj (Option.some.inj e2)).symm
  refine ⟨as ++ bs, by rw [upd_same, ex, ey, List.map_append], by rw [List.length_append, List.length_append, g2, k2], fun i c l hc hl => ?_⟩
  suffices z : H0 c = none ∧ H c = some (.lst (l.map V.int)) from ⟨z.1, same_upd np _ _ z.2⟩
  by_cases hi : i < as.length
  · rw [List.getElem?_append_left hi] at hc
    rw [List.getElem?_append_left (by omega)] at hl
    exact g3 i c l hc hl
  · rw [List.getElem?_append_right (by omega)] at hc
    rw [List.getElem?_append_right (by omega), ← g2] at hl
    exact k3 _ c l hc hl
section
variable {P : Program} {w : World} {K : PySem.W.Frag} {mg : Str → Option Value} {base : Heap}
theorem ok_subsN {f : Addr} {fd : FuncData} (F : Fun K "_law_subsets" "_law_subsets" s__law_subsets f fd) (M : Mg mg) : FnOk P w K mg base CX0 1 f fd ["entries"] sp_subsN := by
  refine F.ok sc__law_subsets (fun vs H Q E h => ?_) (fun cdv A outer s H vs Q E hr h => ?_)
  · obtain ⟨a, es, rfl, _⟩ := h
    rfl
  · obtain ⟨a, es, rfl, ha, hl, q⟩ := h
    refine ⟨_, (pss_cons (ps_set (i := 1) sc__law_subsets.nd rfl (.inl rfl) (pe_lst (pa_cons (pe_lst pa_nil) pa_nil)))
      (pss_cons (ps_for PassesOwn.never rfl (pi_list (pv 0)) (pg_name (i := 2) sc__law_subsets.nd rfl (.inr rfl)) (pss_one (ps_set (i := 1) sc__law_subsets.nd rfl (.inl rfl) (pe_op op_cat (pv 1) (pe_lc (own := [("part", 3)]) (g := gName 3) (tt := tYes) rfl sc__law_subsets.nd (pi_list (pv 1)) (blkOk_by (N := N__law_subsets) (sc := defScope s__law_subsets) (by decide +kernel)) (fun _ _ _ _ _ => (pg_name (i := 3) sc__law_subsets.nd rfl (.inl rfl))) (fun _ _ _ _ _ => pts_nil) (fun _ _ _ _ _ => (pe_op op_cat (pv 3) (pe_lst (pa_cons (pv 2) pa_nil)))))))))
      (pss_one (ps_ret (pv 1))))), ?_⟩
    refine ⟨by show 0 ≤ sizeLine; decide, fun p1 n1 => ?_⟩
    have s1 := same_upd n1 (o := .lst [])
    have e1 : (upd H p1 (.lst [])) p1 = some (.lst (([] : List Int).map V.int)) := upd_same
    generalize upd H p1 (.lst []) = H1 at s1 e1
    refine ⟨by show 1 ≤ sizeLine; decide, fun p2 n2 => ?_⟩
    have s2 := same_upd n2 (o := .lst [.ref p1])
    have e2 : (upd H1 p2 (.lst [.ref p1])) p2 = some (.lst ([p1].map V.ref)) := upd_same
    generalize upd H1 p2 (.lst [.ref p1]) = H2 at s2 e2
    refine ⟨_, rfl, a, rfl, ⟨_, .of ((s1.trans s2) _ _ ha)⟩, ?_⟩
    refine for_list (K := K) (a := a) (xs := es.map V.int) (fun i σ Hi => ∃ (p : Addr) (z y : Option V), σ = [some (.ref a), some (.ref p), z, y] ∧ Same H Hi ∧ H p = none ∧ LN H Hi p (subs (es.take i))) ⟨p2, none, none, rfl, s1.trans s2, s1.free n2, [p1], e2, rfl, fun i b l hb hl => ?_⟩ (fun i σ Hi _ hp => by obtain ⟨p, z, y, rfl, si, _⟩ := hp; exact .of (si _ _ ha)) (fun i x σ Hi hx hp => ?_) (fun σ Hn hp => ?_)
    · match i, hb, hl with
      | 0, hb, hl =>
        cases hb
        cases hl
        exact ⟨n1, s2 _ _ e1⟩
      | i + 1, hb, _ => simp at hb
    · obtain ⟨p, z, y, rfl, si, np, ll⟩ := hp
      rw [List.getElem?_map] at hx
      obtain ⟨e, he, rfl⟩ := Option.map_eq_some_iff.mp hx
      have hi : i < es.length := (List.getElem?_eq_some_iff.mp he).1
      have et : es.take (i + 1) = es.take i ++ [e] := by rw [List.take_add_one, he]; rfl
      have lsub : (subs (es.take i)).length ≤ 1024 := by
        rw [subs_len, List.length_take]
        exact Nat.le_trans (Nat.pow_le_pow_right (by decide) (show min i es.length ≤ 10 by omega)) (by decide)
      obtain ⟨as, g1, g2, g3⟩ := id ll
      obtain ⟨as', k1, k2, k3⟩ := ll.get
      refine ⟨_, rfl, _, rfl, p, rfl, ⟨_, .of k1⟩, fun D nD => ?_⟩
      refine lc_list (K := K) (a := p) (xs := as'.map V.ref) (fun j Hj => Same Hi Hj ∧ LN H Hj D ((subs (es.take i)).take j |>.map (· ++ [e]))) ⟨same_upd nD, [], upd_same, rfl, fun i b l hb _ => by simp at hb⟩ (fun j Hj _ hp => .of (hp.1 _ _ k1)) (fun j x Hj hx hp => ?_) (fun Hn hp => ?_)
      · obtain ⟨sj, cs, c1, c2, c3⟩ := hp
        obtain ⟨b, l, rfl, hl, hb⟩ := k3 j x hx
        have hj : j < (subs (es.take i)).length := (List.getElem?_eq_some_iff.mp hl).1
        refine ⟨rfl, ?_⟩
        refine ⟨_, rfl, _, rfl, by show 1 ≤ sizeLine; decide, fun q1 nq1 => ?_⟩
        have t1 := same_upd nq1 (o := .lst [.int e])
        have eq1 : (upd Hj q1 (.lst [.int e])) q1 = some (.lst [.int e]) := upd_same
        generalize upd Hj q1 (.lst [.int e]) = Hj1 at t1 eq1
        have ll1 : l.length ≤ 10 := by
          have := subs_le _ l (List.mem_of_getElem? hl)
          have h2 := this.1
          rw [List.length_take] at h2
          omega
        refine ⟨b, q1, _, _, rfl, rfl, (sj.trans t1) _ _ hb, eq1, by rw [List.length_map]; exact Nat.le_trans (m := 100) (by show _ + 1 ≤ 100; omega) (by decide), fun q2 nq2 => ?_⟩
        have t2 := same_upd nq2 (o := .lst (l.map V.int ++ [.int e]))
        have eq2 : (upd Hj1 q2 (.lst (l.map V.int ++ [.int e]))) q2 = some (.lst ((l ++ [e]).map V.int)) := by rw [upd_same, List.map_append]; rfl
        generalize upd Hj1 q2 (.lst (l.map V.int ++ [.int e])) = Hj2 at t2 eq2
        have sj2 := (sj.trans t1).trans t2
        have cD := (t1.trans t2) _ _ c1
        refine ⟨_, cD, ?_, ?_, ?_⟩
        · rw [List.length_map, c2, List.length_map, List.length_take]
          exact Nat.lt_of_le_of_lt (m := 1024) (by omega) (by decide)
        · intro x o hx'
          rw [upd_ne (ne_of_none hx' nD)]
          exact sj2 _ _ hx'
        · refine ⟨cs ++ [q2], by rw [upd_same, List.map_append]; rfl, ?_, fun i' b' l' hb' hl' => ?_⟩
          · rw [List.length_append, c2, List.take_add_one, hl, List.map_append, List.length_append]
            rfl
          · have lc : cs.length = j := by rw [c2, List.length_map, List.length_take]; omega
            have nbD : b' ≠ D := by
              by_cases hi' : i' < cs.length
              · rw [List.getElem?_append_left hi'] at hb'
                intro z
                subst z
                -- the new list's own address is not one of its items
                have := (c3 i' b' _ hb' (List.getElem?_eq_getElem (by rw [← c2]; exact hi'))).2
                rw [c1] at this
                have e := HO.lst.inj (Option.some.inj this)
                cases cs with
                | nil => simp at hi'
                | cons c cs =>
                  rw [List.map_cons] at e
                  generalize (List.map (fun x => x ++ [_]) _)[i'] = w at e
                  cases w with
                  | nil => cases e
                  | cons w1 w2 => rw [List.map_cons] at e; exact nomatch (List.cons.inj e).1
              · rw [List.getElem?_append_right (by omega)] at hb'
                have : b' = q2 := by
                  cases h : i' - cs.length with
                  | zero => rw [h] at hb'; exact (Option.some.inj hb').symm
                  | succ k => rw [h] at hb'; simp at hb'
                subst this
                exact (ne_of_none (t1 _ _ c1) nq2).symm
            rw [upd_ne nbD]
            rw [List.take_add_one, hl, List.map_append] at hl'
            by_cases hi' : i' < cs.length
            · rw [List.getElem?_append_left hi'] at hb'
              rw [List.getElem?_append_left (by rw [← c2]; exact hi')] at hl'
              exact ⟨(c3 i' b' l' hb' hl').1, (t1.trans t2) _ _ (c3 i' b' l' hb' hl').2⟩
            · rw [List.getElem?_append_right (by omega)] at hb'
              rw [List.getElem?_append_right (by rw [← c2]; omega), ← c2] at hl'
              cases h : i' - cs.length with
              | zero =>
                rw [h] at hb' hl'
                have e1 : q2 = b' := Option.some.inj hb'
                have e2 : l ++ [e] = l' := Option.some.inj hl'
                subst e1 e2
                exact ⟨((si.trans sj).trans t1).free nq2, eq2⟩
              | succ k => rw [h] at hb'; simp at hb'
      · obtain ⟨sn, ll2⟩ := hp
        have el : (as'.map V.ref).length = (subs (es.take i)).length := by rw [List.length_map, k2]
        rw [el, List.take_of_length_le (Nat.le_refl _)] at ll2
        obtain ⟨bs, b1, b2, b3⟩ := id ll2
        refine ⟨p, D, _, _, rfl, rfl, sn _ _ k1, b1, ?_, fun q' nq' => ?_⟩
        · rw [List.length_map, List.length_map, k2, b2, List.length_map]
          exact Nat.le_trans (m := 2048) (by omega) (by decide)
        · refine ⟨q', _, _, rfl, (si.trans sn).trans (same_upd nq'), (si.trans sn).free nq', ?_⟩
          rw [et, subs_snoc]
          exact LN.app (q := q') nq' (ll.ext sn) ll2 (sn _ _ k1) b1
    · obtain ⟨p, z, y, rfl, si, np, ll⟩ := hp
      rw [List.length_map, List.take_of_length_le (Nat.le_refl _)] at ll
      exact ⟨_, rfl, q Hn p si np ll⟩
end

/-! ### the law's least sets and its meeting sets -/
def wth (k m : List Int) : Bool := k.all fun x => decide (x ∈ m)
def leastL (s : List (List Int)) : List (List Int) := s.foldl (fun l m => if l.any (fun k => wth k m) = true then l else l ++ [m]) []
theorem leastL_snoc (s : List (List Int)) (m : List Int) : leastL (s ++ [m]) = if (leastL s).any (fun k => wth k m) = true then leastL s else leastL s ++ [m] := by
  unfold leastL
  rw [List.foldl_append]
  rfl
theorem leastL_sub : ∀ s : List (List Int), (leastL s).Sublist s := by
  refine snoc_ind (List.Sublist.refl _) fun s m ih => ?_
  rw [leastL_snoc]
  split
  · exact ih.trans (List.sublist_append_left _ _)
  · exact List.Sublist.append ih (List.Sublist.refl _)
def hits (ls : List (List Int)) (p : List Int) : Bool := ls.all fun q => q.any fun x => decide (x ∈ p)
def sp_lwith : Sp := fun vs H Q _ => ∃ (a b : Addr) (p q : List Int), vs = [.ref a, .ref b] ∧ H a = some (.lst (p.map V.int)) ∧ H b = some (.lst (q.map V.int)) ∧ p.length ≤ 10 ∧ ∀ H', Same H H' → Q (.bl (wth p q)) H'
def sp_lleast : Sp := fun vs H Q _ => ∃ (H0 : Hp) (a : Addr) (ls : List (List Int)), vs = [.ref a] ∧ LLf H0 H a ls ∧ ls.length ≤ 100 ∧ (∀ p ∈ ls, p.length ≤ 10) ∧ ∀ H' r ls' fs, Same H H' → H r = none → ls'.Perm ls → SrtK ls' → fs = leastL ls' → LLf H0 H' r fs → Q (.ref r) H'
def sp_lmeet : Sp := fun vs H Q _ => ∃ (H0 : Hp) (a ea : Addr) (ls : List (List Int)) (es : List Int), vs = [.ref a, .ref ea] ∧ LLf H0 H a ls ∧ ls.length ≤ 100 ∧ (∀ p ∈ ls, p.length ≤ 10) ∧ H ea = some (.lst (es.map V.int)) ∧ es.length ≤ 5 ∧ ∀ H' r ls' fs, Same H H' → H r = none → ls'.Perm ((subs es).filter (hits ls)) → SrtK ls' → fs = leastL ls' → LLf H H' r fs → Q (.ref r) H'
section
variable {P : Program} {w : World} {K : PySem.W.Frag} {mg : Str → Option Value} {base : Heap} {C C2 C3 : Addr}
theorem ok_lskey {f : Addr} {fd : FuncData} (F : Fun K "_law_set_key" "_law_set_key" s__law_set_key f fd) (M : Mg mg) : FnOk P w K mg base CX0 1 f fd ["members_v"] sp_skeyP := by
  refine F.ok sc__law_set_key (fun vs H Q E h => ?_) (fun cdv A0 outer s H vs Q E hr h => ?_)
  · obtain ⟨b, p, rfl, _⟩ := h
    rfl
  · obtain ⟨b, p, rfl, hb, q⟩ := h
    refine ⟨_, (pss_one (ps_ret (pe_tup (pa_cons (pe_callB (len_seqK K) (by rfl) M.len PySem.boot_len (pa_cons (pv 0) pa_nil)) (pa_cons (pv 0) pa_nil))))), ?_⟩
    refine ⟨_, rfl, b, _, rfl, .inl (.of hb), ?_⟩
    rw [List.length_map]
    refine ⟨_, rfl, by show 2 ≤ sizeLine; decide, fun u nu => ?_⟩
    exact q _ u (same_upd nu) upd_same
theorem ok_lwith {f : Addr} {fd : FuncData} (F : Fun K "_law_within" "_law_within" s__law_within f fd) (M : Mg mg) : FnOk P w K mg base CX0 1 f fd ["part", "whole"] sp_lwith := by
  refine F.ok sc__law_within (fun vs H Q E h => ?_) (fun cdv A0 outer s H vs Q E hr h => ?_)
  · obtain ⟨a, b, p, q', rfl, _⟩ := h
    rfl
  · obtain ⟨a, b, p, q', rfl, ha, hb, hl, q⟩ := h
    refine ⟨_, (pss_one (ps_ret (pe_callB (allK K rfl) (by rfl) M.all (by decide +kernel) (pa_cons (pe_lc (own := [("member", 2)]) (g := gName 2) (tt := tYes) rfl sc__law_within.nd (pi_list (pv 0)) (blkOk_by (N := N__law_within) (sc := defScope s__law_within) (by decide +kernel)) (fun _ _ _ _ _ => (pg_name (i := 2) sc__law_within.nd rfl (.inl rfl))) (fun _ _ _ _ _ => pts_nil) (fun _ _ _ _ _ => (pe_cmpR (inK K) (pv 2) (pv 1) (by rfl)))) pa_nil)))), ?_⟩
    refine ⟨_, rfl, a, rfl, ⟨_, .of ha⟩, fun D nD => ?_⟩
    refine lc_list (K := K) (a := a) (xs := p.map V.int) (fun j Hj => Same H Hj ∧ Hj D = some (.lst (((p.take j).map fun x => decide (x ∈ q')).map V.bl))) ⟨same_upd nD, upd_same⟩ (fun j Hj _ hp => .of (hp.1 _ _ ha)) (fun j y Hj hy hp => ?_) (fun H1 hp => ?_)
    · obtain ⟨sj, eD⟩ := hp
      rw [List.getElem?_map] at hy
      obtain ⟨x, hx, rfl⟩ := Option.map_eq_some_iff.mp hy
      refine ⟨rfl, _, rfl, _, rfl, b, _, rfl, .inl (.of (sj _ _ hb)), rfl, by rw [List.all_map]; exact List.all_eq_true.mpr fun _ _ => rfl, ?_⟩
      rw [if_neg Bool.false_ne_true, inV_int]
      refine ⟨_, eD, ?_, fun z o hz => ?_, ?_⟩
      · rw [List.length_map, List.length_map, List.length_take]
        exact Nat.lt_of_le_of_lt (m := 10) (by omega) (by decide)
      · rw [upd_ne (ne_of_none hz nD)]
        exact sj _ _ hz
      · rw [upd_same, List.take_add_one, hx, List.map_append, List.map_append]
        rfl
    · obtain ⟨s1, eD⟩ := hp
      rw [List.length_map, List.take_of_length_le (Nat.le_refl _)] at eD
      refine ⟨D, _, rfl, .of eD, ?_⟩
      rw [List.all_map]
      exact q H1 s1
set_option maxHeartbeats 4000000 in
theorem ok_lleast {f : Addr} {fd : FuncData} (F : Fun K "_law_least" "_law_least" s__law_least f fd) (M : Mg mg) (c__law_set_key : Cl P w K mg base 1 "_law_set_key" sp_skeyP) (c__law_within : Cl P w K mg base 1 "_law_within" sp_lwith) : FnOk P w K mg base CX0 4 f fd ["sets"] sp_lleast := by
  obtain ⟨fk, hm__law_set_key, hdk⟩ := c__law_set_key.hd
  refine F.ok sc__law_least (fun vs H Q E h => ?_) (fun cdv A0 outer s H vs Q E hr h => ?_)
  · obtain ⟨H0, a, ls, rfl, _⟩ := h
    rfl
  · obtain ⟨H0, a, ls, rfl, hL0, hl, hpl, q⟩ := h
    refine ⟨_, (pss_cons (ps_set (i := 1) sc__law_least.nd rfl (.inl rfl) (pe_callBK (cr_sortFK (P := P) (w := w) (K := K) (mg := mg) (base := base) (k := 1) hr (by first | decide | omega)) (by rfl) M.sorted (by decide +kernel) (pa_cons (pv 0) pa_nil) (pk_cons (C8.pe_gc (v := .ref _) (by rfl) ⟨_, hm__law_set_key, rfl⟩) pk_nil)))
      (pss_cons (ps_set (i := 2) sc__law_least.nd rfl (.inl rfl) (pe_lst pa_nil))
      (pss_cons (ps_for PassesOwn.never rfl (pi_list (pv 1)) (pg_name (i := 3) sc__law_least.nd rfl (.inr rfl)) (pss_one (ps_if (pt_not (pt_val (pe_callB (anyK K rfl) (by rfl) M.any (by decide +kernel) (pa_cons (pe_lc (own := [("known", 4)]) (g := gName 4) (tt := tYes) rfl sc__law_least.nd (pi_list (pv 2)) (blkOk_by (N := N__law_least) (sc := defScope s__law_least) (by decide +kernel)) (fun _ _ _ _ _ => (pg_name (i := 4) sc__law_least.nd rfl (.inl rfl))) (fun _ _ _ _ _ => pts_nil) (fun _ _ _ _ _ => (pe_u c__law_within hr (by first | decide | omega) (by rfl) (pa_cons (pv 4) (pa_cons (pv 3) pa_nil))))) pa_nil)))) (pss_one (ps_expr (pe_bmK K PySem.F.plainAttrs_list PySem.F.slot_list_append PySem.F.type_list_append mt_append (pv 2) (pa_cons (pv 3) pa_nil)))) pss_nil)))
      (pss_one (ps_ret (pv 2)))))), ?_⟩
    obtain ⟨bs, ea, lb, gb⟩ := hL0
    refine ⟨_, rfl, ?_⟩
    dsimp only [tNil, tCons, tC]
    refine sort_sets hdk ea lb gb fun H1 r1 ls' s1 n1 hp hs hL => ?_
    obtain ⟨cs, eC, lC, gC⟩ := hL
    have hpl' : ∀ p ∈ ls', p.length ≤ 10 := fun p h => hpl p (hp.mem_iff.mp h)
    have ll' : ls'.length ≤ 100 := by rw [hp.length_eq]; exact hl
    refine ⟨Nat.zero_le _, fun fa nfa => ?_⟩
    have sF := same_upd nfa (o := .lst [])
    have nCf : r1 ≠ fa := ne_of_none eC nfa
    refine ⟨_, rfl, r1, rfl, ⟨_, .of (sF _ _ eC)⟩, ?_⟩
    refine for_list (K := K) (a := r1) (xs := cs.map V.ref) (fun i σ Hi => (∃ z3 z4, σ = [some (.ref a), some (.ref r1), some (.ref fa), z3, z4]) ∧ Same H1 Hi ∧ ∃ es : List Addr, Hi fa = some (.lst (es.map V.ref)) ∧ es.length = (leastL (ls'.take i)).length ∧ ∀ (k : Nat) b p, es[k]? = some b → (leastL (ls'.take i))[k]? = some p → H0 b = none ∧ H1 b = some (.lst (p.map V.int))) ⟨⟨none, none, rfl⟩, sF, [], upd_same, rfl, by intro k b p h; simp at h⟩ (fun i σ Hi _ hp => .of (hp.2.1 _ _ eC)) (fun i y σ Hi hy hp => ?_) (fun σ Hn hp => ?_)
    · obtain ⟨⟨z3, z4, rfl⟩, si, es, efa, les, ges⟩ := hp
      rw [List.getElem?_map] at hy
      obtain ⟨b, hb, rfl⟩ := Option.map_eq_some_iff.mp hy
      have hi : i < ls'.length := by rw [← lC]; exact (List.getElem?_eq_some_iff.mp hb).1
      have hm := List.getElem?_eq_getElem hi
      obtain ⟨nb, hb1⟩ := gC i b _ hb hm
      have etk : ls'.take (i + 1) = ls'.take i ++ [ls'[i]] := by rw [List.take_add_one, hm]; rfl
      have lle : (leastL (ls'.take i)).length ≤ 100 := Nat.le_trans (leastL_sub _).length_le (by rw [List.length_take]; omega)
      have hsub : ∀ p ∈ leastL (ls'.take i), p.length ≤ 10 := fun p h => hpl' p (List.mem_of_mem_take ((leastL_sub _).subset h))
      rw [etk, leastL_snoc]
      generalize ls'[i] = m at hb1 ⊢
      generalize leastL (ls'.take i) = fs at les ges lle hsub ⊢
      refine ⟨_, rfl, fa, rfl, ⟨_, .of efa⟩, fun D nD => ?_⟩
      refine lc_list (K := K) (a := fa) (xs := es.map V.ref) (fun j Hj => Same Hi Hj ∧ Hj D = some (.lst (((fs.take j).map fun k => wth k m).map V.bl))) ⟨same_upd nD, upd_same⟩ (fun j Hj _ hp => .of (hp.1 _ _ efa)) (fun j y Hj hy hp => ?_) (fun H2 hp => ?_)
      · obtain ⟨sj, eD⟩ := hp
        rw [List.getElem?_map] at hy
        obtain ⟨c, hc, rfl⟩ := Option.map_eq_some_iff.mp hy
        have hj : j < fs.length := by rw [← les]; exact (List.getElem?_eq_some_iff.mp hc).1
        have hk := List.getElem?_eq_getElem hj
        obtain ⟨nc, hc1⟩ := ges j c _ hc hk
        have hlk := hsub _ (List.getElem_mem hj)
        generalize fs[j] = k at hc1 hk hlk
        refine ⟨rfl, _, rfl, _, rfl, c, b, k, m, rfl, sj _ _ (si _ _ hc1), sj _ _ (si _ _ hb1), hlk, fun H3 s3 => ⟨_, s3 _ _ eD, ?_, fun z o hz => ?_, ?_⟩⟩
        · rw [List.length_map, List.length_map, List.length_take]
          exact Nat.lt_of_le_of_lt (m := 100) (by omega) (by decide)
        · rw [upd_ne (ne_of_none hz nD)]
          exact s3 _ _ (sj _ _ hz)
        · rw [upd_same, List.take_add_one, hk, List.map_append, List.map_append]
          rfl
      · obtain ⟨s2, eD⟩ := hp
        rw [List.length_map, les, List.take_of_length_le (Nat.le_refl _)] at eD
        have efa2 := s2 _ _ efa
        refine ⟨D, _, rfl, .of eD, _, rfl, ?_⟩
        rw [List.any_map, show (id ∘ fun k => wth k m) = fun k => wth k m from rfl]
        refine ite2 (fun g => ?_) (fun g => ?_)
        · have g : ¬ fs.any (fun k => wth k m) = true := by
            intro z
            rw [z] at g
            cases g
          rw [if_neg g]
          refine ⟨_, rfl, .inl ⟨rfl, _, .inl (.inl efa2)⟩, _, rfl, fa, es.map V.ref, _, rfl, rfl, efa2, ?_, ⟨_, _, rfl⟩, fun z o hz => ?_, es ++ [b], by rw [upd_same, List.map_append]; rfl, by rw [List.length_append, List.length_append, les]; rfl, fun k c p h1 h2 => ?_⟩
          · rw [List.length_map, les]
            exact Nat.lt_of_le_of_lt (m := 100) (by omega) (by decide)
          · rw [upd_ne (ne_of_none hz nfa)]
            exact s2 _ _ (si _ _ hz)
          · by_cases hk : k < es.length
            · rw [List.getElem?_append_left hk] at h1
              rw [List.getElem?_append_left (by omega)] at h2
              exact ges k c p h1 h2
            · rw [List.getElem?_append_right (by omega)] at h1
              rw [List.getElem?_append_right (by omega), ← les] at h2
              cases hz : k - es.length with
              | zero =>
                rw [hz] at h1 h2
                cases h1
                cases h2
                exact ⟨nb, hb1⟩
              | succ k => rw [hz] at h1; simp at h1
        · have g : fs.any (fun k => wth k m) = true := by
            cases z : fs.any fun k => wth k m with
            | true => rfl
            | false => rw [z] at g; exact absurd rfl g
          rw [if_pos g]
          exact ⟨⟨_, _, rfl⟩, fun z o hz => s2 _ _ (si _ _ hz), es, efa2, les, ges⟩
    · obtain ⟨⟨z3, z4, rfl⟩, sn, es, efa, les, ges⟩ := hp
      rw [List.length_map, lC, List.take_of_length_le (Nat.le_refl _)] at les ges
      exact ⟨_, rfl, q Hn fa ls' _ (fun z o hz => sn _ _ (s1 _ _ hz)) (s1.free nfa) hp hs rfl ⟨es, efa, les, fun k b p h1 h2 => ⟨(ges k b p h1 h2).1, sn _ _ (ges k b p h1 h2).2⟩⟩⟩
end

/-! ### least sets, as lists -/
def Mnl (es : List Int) (F : List Int → Prop) (p : List Int) : Prop := p.Sublist es ∧ F p ∧ ∀ q, q.Sublist es → (∀ x ∈ q, x ∈ p) → F q → q = p
section
variable {es ds ps : List Int}
theorem sub_of (hs : es.Pairwise (· < ·)) {p q : List Int} (hq : q.Sublist es) (hp : p.Sublist es) (h : ∀ x ∈ q, x ∈ p) : q.Sublist p := by
  have e : p.filter (fun x => decide (x ∈ q)) = q := pw_ext3 ((hs.sublist hp).sublist List.filter_sublist) (hs.sublist hq) fun x => by
    rw [List.mem_filter, decide_eq_true_iff]
    exact ⟨fun z => z.2, fun z => ⟨h x z, z⟩⟩
  rw [← e]
  exact List.filter_sublist
theorem set_eq (hs : es.Pairwise (· < ·)) {p q : List Int} (hq : q.Sublist es) (hp : p.Sublist es) (h : ∀ x ∈ q, x ∈ p) (k : ∀ x ∈ p, x ∈ q) : q = p := pw_ext3 (hs.sublist hq) (hs.sublist hp) fun x => ⟨h x, k x⟩
theorem mnl_below (hs : es.Pairwise (· < ·)) (F : List Int → Prop) : ∀ (n : Nat) (p : List Int), p.length ≤ n → p.Sublist es → F p → ∃ q, (∀ x ∈ q, x ∈ p) ∧ Mnl es F q := by
  intro n
  induction n with
  | zero =>
    intro p hl hp hF
    have e : p = [] := List.eq_nil_of_length_eq_zero (by omega)
    subst e
    exact ⟨[], fun x h => h, hp, hF, fun q _ hqs _ => List.eq_nil_iff_forall_not_mem.mpr fun x hx => by cases hqs x hx⟩
  | succ n ih =>
    intro p hl hp hF
    by_cases hx : ∃ q : List Int, q.Sublist es ∧ (∀ x ∈ q, x ∈ p) ∧ F q ∧ q ≠ p
    · obtain ⟨q, h1, h2, h3, h4⟩ := hx
      have hsub := sub_of hs h1 hp h2
      have hlt : q.length < p.length := Nat.lt_of_le_of_ne hsub.length_le fun e => h4 (hsub.eq_of_length e)
      obtain ⟨q', g1, g2⟩ := ih q (by omega) h1 h3
      exact ⟨q', fun x hx => h2 x (g1 x hx), g2⟩
    · exact ⟨p, fun x h => h, hp, hF, fun q h1 h2 h3 => by
        by_cases e : q = p
        · exact e
        · exact absurd ⟨q, h1, h2, h3, e⟩ hx⟩
theorem mnl_congr {F G : List Int → Prop} (h : ∀ p, p.Sublist es → (F p ↔ G p)) (p : List Int) : Mnl es F p ↔ Mnl es G p := by
  unfold Mnl
  constructor
  · rintro ⟨a, b, c⟩
    exact ⟨a, (h p a).mp b, fun q hq s k => c q hq s ((h q hq).mpr k)⟩
  · rintro ⟨a, b, c⟩
    exact ⟨a, (h p a).mpr b, fun q hq s k => c q hq s ((h q hq).mp k)⟩
theorem hits_iff (hs : es.Pairwise (· < ·)) {F : List Int → Prop} {ls : List (List Int)} (h : ∀ p, p ∈ ls ↔ Mnl es F p) (p : List Int) : hits ls p = true ↔ ∀ q, q.Sublist es → F q → ∃ x ∈ q, x ∈ p := by
  unfold hits
  rw [List.all_eq_true]
  constructor
  · intro g q hq hF
    obtain ⟨q', h1, h2⟩ := mnl_below hs F q.length q (Nat.le_refl _) hq hF
    obtain ⟨x, hx, hp⟩ := List.any_eq_true.mp (g q' ((h q').mpr h2))
    exact ⟨x, h1 x hx, of_decide_eq_true hp⟩
  · intro g q hq
    have hm := (h q).mp hq
    obtain ⟨x, hx, hp⟩ := g q hm.1 hm.2.1
    exact List.any_eq_true.mpr ⟨x, hx, decide_eq_true hp⟩
/-- what is there of the rows of p is enough; the condition holds no more once the rows of p are turned -/
def FP (ps : List Int) (T : Bd) (p : List Int) : Prop := ∀ r : Int → Bool, (∀ x ∈ p, r x = decide (x ∈ ps)) → T.ev r = true
def GP (ps : List Int) (T : Bd) (p : List Int) : Prop := T.ev (fun x => decide (x ∈ ps) != decide (x ∈ p)) = false
theorem fp_iff {T : Bd} (wT : Wf es T) (p : List Int) : FP ps T p ↔ ∀ q, q.Sublist es → GP ps T q → ∃ x ∈ q, x ∈ p := by
  constructor
  · intro h q hq hG
    by_cases hx : ∃ x ∈ q, x ∈ p
    · exact hx
    · have := h (fun x => decide (x ∈ ps) != decide (x ∈ q)) fun x hxp => by
        have : x ∉ q := fun z => hx ⟨x, z, hxp⟩
        rw [decide_eq_false this]
        cases decide (x ∈ ps) <;> rfl
      unfold GP at hG
      rw [this] at hG
      cases hG
  · intro h r hr
    cases hT : T.ev r with
    | true => rfl
    | false =>
      obtain ⟨x, hx, hp⟩ := h (es.filter fun x => r x != decide (x ∈ ps)) List.filter_sublist (by
        unfold GP
        rw [← hT]
        refine wf_agree wT fun x hx => ?_
        have e : decide (x ∈ es.filter fun x => r x != decide (x ∈ ps)) = (r x != decide (x ∈ ps)) := by
          rw [Bool.eq_iff_iff, decide_eq_true_iff, List.mem_filter]
          exact ⟨fun z => z.2, fun z => ⟨hx, z⟩⟩
        rw [e]
        cases r x <;> cases decide (x ∈ ps) <;> rfl)
      have := (List.mem_filter.mp hx).2
      rw [hr x hp] at this
      cases h2 : decide (x ∈ ps) <;> rw [h2] at this <;> cases this
theorem mnl_turns (hs : es.Pairwise (· < ·)) {T : Bd} (wT : Wf es T) {ls : List (List Int)} (h : ∀ p, p ∈ ls ↔ Mnl es (GP ps T) p) (p : List Int) : Mnl es (FP ps T) p ↔ Mnl es (fun p => hits ls p = true) p := mnl_congr (fun p _ => (fp_iff wT p).trans (hits_iff hs h p).symm) p
theorem mnl_why (hs : es.Pairwise (· < ·)) {T : Bd} (wT : Wf es T) {ls : List (List Int)} (h : ∀ p, p ∈ ls ↔ Mnl es (FP ps T) p) (p : List Int) : Mnl es (GP ps T) p ↔ Mnl es (fun p => hits ls p = true) p := by
  have hu : ∀ p, p.Sublist es → (hits ls p = true ↔ ∃ q, q.Sublist es ∧ (∀ x ∈ q, x ∈ p) ∧ GP ps T q) := fun p hp => by
    rw [hits_iff hs h p]
    constructor
    · intro g
      by_cases hF : FP ps T (es.filter fun x => !decide (x ∈ p))
      · obtain ⟨x, hx, hxp⟩ := g _ List.filter_sublist hF
        have := (List.mem_filter.mp hx).2
        rw [decide_eq_true hxp] at this
        cases this
      · rw [fp_iff wT] at hF
        have hF : ∃ q : List Int, q.Sublist es ∧ GP ps T q ∧ ¬ ∃ x ∈ q, x ∈ es.filter fun x => !decide (x ∈ p) := by
          apply Classical.byContradiction
          intro z
          refine hF fun q hq hG => ?_
          apply Classical.byContradiction
          intro z2
          exact z ⟨q, hq, hG, z2⟩
        obtain ⟨q, hq, hG, hno⟩ := hF
        refine ⟨q, hq, fun x hx => ?_, hG⟩
        by_cases hxp : x ∈ p
        · exact hxp
        · exact absurd ⟨x, hx, List.mem_filter.mpr ⟨hq.subset hx, by rw [decide_eq_false hxp]; rfl⟩⟩ hno
    · rintro ⟨q, hq, hqp, hG⟩ w hw hF
      obtain ⟨x, hx, hxw⟩ := (fp_iff wT w).mp hF q hq hG
      exact ⟨x, hxw, hqp x hx⟩
  rw [← mnl_congr (es := es) (F := fun p => ∃ q, q.Sublist es ∧ (∀ x ∈ q, x ∈ p) ∧ GP ps T q) (G := fun p => hits ls p = true) (fun p hp => (hu p hp).symm) p]
  constructor
  · rintro ⟨a, b, c⟩
    refine ⟨a, ⟨p, a, fun x h => h, b⟩, fun q hq hqp ⟨q', k1, k2, k3⟩ => ?_⟩
    have e := c q' k1 (fun x hx => hqp x (k2 x hx)) k3
    subst e
    exact set_eq hs hq k1 hqp k2
  · rintro ⟨a, ⟨q, k1, k2, k3⟩, c⟩
    have e := c q k1 k2 ⟨q, k1, fun x h => h, k3⟩
    subst e
    exact ⟨a, k3, fun q' h1 h2 h3 => c q' h1 h2 ⟨q', h1, fun x h => h, h3⟩⟩
/-- masks as lists -/
theorem mbr_msk (hs : es.Pairwise (· < ·)) (hd : ds.Sublist es) {q : List Int} (hq : q.Sublist es) (h : ∀ x ∈ q, x ∈ ds) : mbr ds (msk ds fun x => decide (x ∈ q)) = q := by
  refine set_eq hs (List.filter_sublist.trans hd) hq (fun x hx => ?_) fun x hx => ?_
  · obtain ⟨h1, h2⟩ := mbr_mem.mp hx
    rw [msk_at h1] at h2
    exact of_decide_eq_true h2
  · exact mbr_mem.mpr ⟨h x hx, by rw [msk_at (h x hx)]; exact decide_eq_true hx⟩
theorem mask_mnl (hs : es.Pairwise (· < ·)) (hd : ds.Sublist es) {FM : Nat → Prop} {FL : List Int → Prop} {L : List Nat} (h1 : ∀ m, m ∈ L ↔ Mn FM m) (ha : ∀ m, FM m ↔ FL (mbr ds m)) (hb : ∀ p, p.Sublist es → FL p → FL (p.filter fun x => decide (x ∈ ds))) (p : List Int) : p ∈ L.map (mbr ds) ↔ Mnl es FL p := by
  have hnd : ds.Nodup := (hs.sublist hd).imp fun h => by omega
  have bit : ∀ (q : List Int) (j : Nat), (msk ds fun x => decide (x ∈ q)).testBit j = true → ∃ x, ds[j]? = some x ∧ x ∈ q ∧ x ∈ ds ∧ ds.idxOf x = j := fun q j hj => by
    rw [msk_bit] at hj
    by_cases hl : j < ds.length
    · rw [List.getElem?_eq_getElem hl] at hj
      exact ⟨ds[j], List.getElem?_eq_getElem hl, of_decide_eq_true hj, List.getElem_mem hl, List.Nodup.idxOf_getElem hnd j hl⟩
    · rw [List.getElem?_eq_none (by omega)] at hj
      cases hj
  constructor
  · intro hp
    obtain ⟨m, hm, rfl⟩ := List.mem_map.mp hp
    obtain ⟨f, min⟩ := (h1 m).mp hm
    refine ⟨List.filter_sublist.trans hd, (ha m).mp f, fun q hq hsub fq => ?_⟩
    have hqd : ∀ x ∈ q, x ∈ ds := fun x hx => (mbr_mem.mp (hsub x hx)).1
    have em := mbr_msk hs hd hq hqd
    have e := min (msk ds fun x => decide (x ∈ q)) (fun j hj => by
      obtain ⟨x, _, hxq, _, hxi⟩ := bit q j hj
      have := (mbr_mem.mp (hsub x hxq)).2
      rw [hxi] at this
      exact this) ((ha _).mpr (by rw [em]; exact fq))
    rw [← em, e]
  · rintro ⟨hp, fp, min⟩
    have e0 := min (p.filter fun x => decide (x ∈ ds)) (List.filter_sublist.trans hp) (fun x hx => (List.mem_filter.mp hx).1) (hb p hp fp)
    have hpd : ∀ x ∈ p, x ∈ ds := fun x hx => by
      rw [← e0] at hx
      exact of_decide_eq_true (List.mem_filter.mp hx).2
    have em := mbr_msk hs hd hp hpd
    refine List.mem_map.mpr ⟨msk ds fun x => decide (x ∈ p), (h1 _).mpr ⟨(ha _).mpr (by rw [em]; exact fp), fun m' hs' f' => ?_⟩, em⟩
    have e := min (mbr ds m') (List.filter_sublist.trans hd) (fun x hx => by
      obtain ⟨k1, k2⟩ := mbr_mem.mp hx
      rw [← em]
      exact mbr_mem.mpr ⟨k1, hs' _ k2⟩) ((ha m').mp f')
    refine sbm_anti hs' fun j hj => ?_
    obtain ⟨x, _, hxp, _, hxi⟩ := bit p j hj
    rw [← e] at hxp
    have := (mbr_mem.mp hxp).2
    rw [hxi] at this
    exact this
theorem mbr_nodup (hnd : ds.Nodup) {L : List Nat} (hn : L.Nodup) (hl : ∀ m ∈ L, m < 2 ^ ds.length) : (L.map (mbr ds)).Nodup := by
  refine List.Pairwise.map _ (fun a b (h : a ∈ L ∧ b ∈ L ∧ a ≠ b) => ?_) (List.Pairwise.imp_of_mem (fun {a b} ha hb h => ⟨ha, hb, h⟩) hn)
  obtain ⟨ha, hb, hne⟩ := h
  intro e
  refine hne (Nat.eq_of_testBit_eq fun j => ?_)
  by_cases hj : j < ds.length
  · have hi : ds.idxOf ds[j] = j := List.Nodup.idxOf_getElem hnd j hj
    have hm : ∀ m, ds[j] ∈ mbr ds m ↔ m.testBit j = true := fun m => by
      rw [mbr_mem, hi]
      exact ⟨fun z => z.2, fun z => ⟨List.getElem_mem hj, z⟩⟩
    rw [Bool.eq_iff_iff, ← hm, ← hm, e]
  · have hp : 2 ^ ds.length ≤ 2 ^ j := Nat.pow_le_pow_right (by decide) (by omega)
    rw [Nat.testBit_lt_two_pow (Nat.lt_of_lt_of_le (hl a ha) hp), Nat.testBit_lt_two_pow (Nat.lt_of_lt_of_le (hl b hb) hp)]
/-- only the rows of its nodes count -/
theorem ev_sub {r q : Int → Bool} : ∀ (a : Bd), (∀ e w t, Bd.nd e w t ∈ subN a → r e = q e) → a.ev r = a.ev q
  | .lf _, _ => rfl
  | .nd e w t, h => by
    have h1 := ev_sub w fun x u v k => h x u v (List.mem_cons_of_mem _ (List.mem_append_left _ k))
    have h2 := ev_sub t fun x u v k => h x u v (List.mem_cons_of_mem _ (List.mem_append_right _ k))
    show (if r e = true then t.ev r else w.ev r) = if q e = true then t.ev q else w.ev q
    rw [h e w t List.mem_cons_self, h1, h2]
/-- the law's least sets -/
theorem leastL_ok (hs : es.Pairwise (· < ·)) : ∀ s : List (List Int), SrtK s → (∀ p ∈ s, p.Sublist es) → (∀ x, x ∈ leastL s ↔ x ∈ s ∧ ∀ y ∈ s, (∀ z ∈ y, z ∈ x) → y = x) ∧ (∀ y ∈ s, ∃ z ∈ leastL s, ∀ v ∈ z, v ∈ y) ∧ (leastL s).Nodup := by
  refine snoc_ind ?_ ?_
  · intro _ _
    refine ⟨fun x => ⟨fun h => (by cases h), fun h => absurd h.1 (by simp)⟩, (fun y h => by cases h), List.Pairwise.nil⟩
  · intro s m ih hsr hes
    unfold SrtK at hsr
    rw [List.pairwise_append] at hsr
    obtain ⟨h1, _, h3⟩ := hsr
    have hm := hes m (List.mem_append_right _ (List.mem_singleton.mpr rfl))
    have hes' : ∀ p ∈ s, p.Sublist es := fun p h => hes p (List.mem_append_left _ h)
    have kf : ∀ x ∈ s, (∀ z ∈ m, z ∈ x) → m = x := fun x hx hmx => by
      have hk := h3 x hx m (List.mem_singleton.mpr rfl)
      have hsub := sub_of hs hm (hes' x hx) hmx
      by_cases hl : m.length = x.length
      · exact hsub.eq_of_length hl
      · have := hsub.length_le
        rw [kLt_ky2, if_neg hl, decide_eq_true (by omega)] at hk
        cases hk
    obtain ⟨g1, g2, g3⟩ := ih h1 hes'
    have sub : ∀ x, x ∈ leastL s → x ∈ s := fun x hx => ((g1 x).mp hx).1
    have keep : ∀ x ∈ s, ((∀ y ∈ s ++ [m], (∀ z ∈ y, z ∈ x) → y = x) ↔ ∀ y ∈ s, (∀ z ∈ y, z ∈ x) → y = x) := fun x hx => by
      constructor
      · exact fun h y hy => h y (List.mem_append_left _ hy)
      · intro h y hy hyx
        rcases List.mem_append.mp hy with hy | hy
        · exact h y hy hyx
        · rw [List.mem_singleton.mp hy] at hyx ⊢
          exact kf x hx hyx
    have wiff : ∀ k : List Int, wth k m = true ↔ ∀ v ∈ k, v ∈ m := fun k => by
      unfold wth
      rw [List.all_eq_true]
      exact ⟨fun z v hv => of_decide_eq_true (z v hv), fun z v hv => decide_eq_true (z v hv)⟩
    rw [leastL_snoc]
    by_cases hp : ((leastL s).any fun k => wth k m) = true
    · rw [if_pos hp]
      obtain ⟨o, o1, o2⟩ := List.any_eq_true.mp hp
      rw [wiff] at o2
      refine ⟨fun x => ?_, fun y hy => ?_, g3⟩
      · constructor
        · intro hx
          have hxs := sub x hx
          exact ⟨List.mem_append_left _ hxs, (keep x hxs).mpr ((g1 x).mp hx).2⟩
        · rintro ⟨hx, hmn⟩
          rcases List.mem_append.mp hx with hx | hx
          · exact (g1 x).mpr ⟨hx, (keep x hx).mp hmn⟩
          · rw [List.mem_singleton.mp hx] at hmn ⊢
            have := hmn o (List.mem_append_left _ (sub o o1)) o2
            rw [← this]
            exact o1
      · rcases List.mem_append.mp hy with hy | hy
        · exact g2 y hy
        · rw [List.mem_singleton.mp hy]
          exact ⟨o, o1, o2⟩
    · rw [if_neg hp]
      have hno : ∀ y ∈ s, ¬ ∀ v ∈ y, v ∈ m := fun y hy hym => by
        obtain ⟨z, z1, z2⟩ := g2 y hy
        exact hp (List.any_eq_true.mpr ⟨z, z1, (wiff z).mpr fun v hv => hym v (z2 v hv)⟩)
      refine ⟨fun x => ?_, fun y hy => ?_, ?_⟩
      · rw [List.mem_append, List.mem_singleton]
        constructor
        · rintro (hx | rfl)
          · have hxs := sub x hx
            exact ⟨List.mem_append_left _ hxs, (keep x hxs).mpr ((g1 x).mp hx).2⟩
          · refine ⟨List.mem_append_right _ (List.mem_singleton.mpr rfl), fun y hy hyx => ?_⟩
            rcases List.mem_append.mp hy with hy | hy
            · exact absurd hyx (hno y hy)
            · exact List.mem_singleton.mp hy
        · rintro ⟨hx, hmn⟩
          rcases List.mem_append.mp hx with hx | hx
          · exact .inl ((g1 x).mpr ⟨hx, (keep x hx).mp hmn⟩)
          · exact .inr (List.mem_singleton.mp hx)
      · rcases List.mem_append.mp hy with hy | hy
        · obtain ⟨z, z1, z2⟩ := g2 y hy
          exact ⟨z, List.mem_append_left _ z1, z2⟩
        · rw [List.mem_singleton.mp hy]
          exact ⟨m, List.mem_append_right _ (List.mem_singleton.mpr rfl), fun v h => h⟩
      · rw [List.nodup_append]
        refine ⟨g3, List.pairwise_singleton _ _, fun a ha b hb e => ?_⟩
        rw [List.mem_singleton.mp hb] at e
        subst e
        exact hno a (sub a ha) fun v h => h
/-- all of both, in order -/
theorem srt_ext : ∀ {a b : List (List Int)}, SrtK a → SrtK b → a.Nodup → b.Nodup → (∀ p, p ∈ a ↔ p ∈ b) → a = b
  | [], [], _, _, _, _, _ => rfl
  | [], y :: b, _, _, _, _, h => by have := (h y).mpr List.mem_cons_self; cases this
  | x :: a, [], _, _, _, _, h => by have := (h x).mp List.mem_cons_self; cases this
  | x :: a, y :: b, ha, hb, na, nb, h => by
    unfold SrtK at ha hb
    rw [List.pairwise_cons] at ha hb
    rw [List.nodup_cons] at na nb
    have e : x = y := by
      rcases List.mem_cons.mp ((h x).mp List.mem_cons_self) with e | hx
      · exact e
      · rcases List.mem_cons.mp ((h y).mpr List.mem_cons_self) with e | hy
        · exact e.symm
        · have k1 := hb.1 x hx
          have k2 := ha.1 y hy
          exact congrArg (fun k : Ck => k.2.2) (kLt_tri k1 k2)
    subst e
    refine congrArg (x :: ·) (srt_ext ha.2 hb.2 na.2 nb.2 fun p => ⟨fun hp => ?_, fun hp => ?_⟩)
    · rcases List.mem_cons.mp ((h p).mp (List.mem_cons_of_mem _ hp)) with e | hp'
      · subst e
        exact absurd hp na.1
      · exact hp'
    · rcases List.mem_cons.mp ((h p).mpr (List.mem_cons_of_mem _ hp)) with e | hp'
      · subst e
        exact absurd hp nb.1
      · exact hp'
theorem meet_is (hs : es.Pairwise (· < ·)) {ls ls' : List (List Int)} (hp : ls'.Perm ((subs es).filter (hits ls))) (hk : SrtK ls') : (∀ p, p ∈ leastL ls' ↔ Mnl es (fun p => hits ls p = true) p) ∧ (leastL ls').Nodup ∧ SrtK (leastL ls') := by
  have hm : ∀ p, p ∈ ls' ↔ p.Sublist es ∧ hits ls p = true := fun p => by
    rw [hp.mem_iff, List.mem_filter]
    exact ⟨fun z => ⟨subs_sub2 es p z.1, z.2⟩, fun z => ⟨subs_mem hs z.1, z.2⟩⟩
  obtain ⟨h1, _, h3⟩ := leastL_ok hs ls' hk fun p h => ((hm p).mp h).1
  refine ⟨fun p => ?_, h3, hk.sublist (leastL_sub _)⟩
  rw [h1]
  constructor
  · rintro ⟨a, b⟩
    have a' := (hm p).mp a
    exact ⟨a'.1, a'.2, fun q hq hqp hh => b q ((hm q).mpr ⟨hq, hh⟩) hqp⟩
  · rintro ⟨a, b, c⟩
    exact ⟨(hm p).mpr ⟨a, b⟩, fun y hy hyp => c y ((hm y).mp hy).1 hyp ((hm y).mp hy).2⟩
theorem rsn_is (hs : es.Pairwise (· < ·)) {T : Bd} (wT : Wf es T) (hds : ds.Pairwise (· < ·)) (hmem : ∀ e, e ∈ ds ↔ dpn T e) : (∀ p, p ∈ (rsn ds ps T).map (mbr ds) ↔ Mnl es (FP ps T) p) ∧ ((rsn ds ps T).map (mbr ds)).Nodup := by
  have hnd : es.Nodup := hs.imp fun h => by omega
  have hin : ∀ e w t, Bd.nd e w t ∈ subN T → e ∈ ds := fun e w t h => (hmem e).mpr ⟨w, t, h⟩
  have hd : ds.Sublist es := by
    have e : es.filter (fun x => decide (x ∈ ds)) = ds := pw_ext3 (hs.sublist List.filter_sublist) hds fun x => by
      rw [List.mem_filter, decide_eq_true_iff]
      exact ⟨fun z => z.2, fun z => ⟨by obtain ⟨u, v, k⟩ := (hmem x).mp z; exact (sub_wf wT k).none_of, z⟩⟩
    rw [← e]
    exact List.filter_sublist
  obtain ⟨r1, r2⟩ := rsn_ok (ds := ds) (ps := ps) hnd T wT hin
  refine ⟨mask_mnl hs hd r1 (fun m => ?_) fun p hp hF r hr => ?_, mbr_nodup (hds.imp fun h => by omega) r2 (rsn_lt T hin)⟩
  · unfold Fm FP
    constructor
    · intro h r hr
      exact h r fun x hx hb => hr x (mbr_mem.mpr ⟨hx, hb⟩)
    · intro h r hr
      exact h r fun x hx => hr x (mbr_mem.mp hx).1 (mbr_mem.mp hx).2
  · rw [ev_sub (q := fun x => if x ∈ ds then r x else decide (x ∈ ps)) T fun e w t h => (if_pos (hin e w t h)).symm]
    refine hF _ fun x hx => ?_
    by_cases hxd : x ∈ ds
    · rw [if_pos hxd]
      exact hr x (List.mem_filter.mpr ⟨hx, decide_eq_true hxd⟩)
    · rw [if_neg hxd]
theorem chg_is (hs : es.Pairwise (· < ·)) {T A : Bd} (wA : Wf es A) (hev : ∀ ρ, A.ev ρ = !T.ev ρ) (hds : ds.Pairwise (· < ·)) (hmem : ∀ e, e ∈ ds ↔ dpn A e) : (∀ p, p ∈ (chg ds ps es A).map (mbr ds) ↔ Mnl es (GP ps T) p) ∧ ((chg ds ps es A).map (mbr ds)).Nodup := by
  have hnd : es.Nodup := hs.imp fun h => by omega
  have hin : ∀ e w t, Bd.nd e w t ∈ subN A → e ∈ ds := fun e w t h => (hmem e).mpr ⟨w, t, h⟩
  have hd : ds.Sublist es := by
    have e : es.filter (fun x => decide (x ∈ ds)) = ds := pw_ext3 (hs.sublist List.filter_sublist) hds fun x => by
      rw [List.mem_filter, decide_eq_true_iff]
      exact ⟨fun z => z.2, fun z => ⟨by obtain ⟨u, v, k⟩ := (hmem x).mp z; exact (sub_wf wA k).none_of, z⟩⟩
    rw [← e]
    exact List.filter_sublist
  obtain ⟨r1, r2⟩ := chg_ok (ds := ds) (ps := ps) (al := es) hnd A wA hin
  have hgp : ∀ p, GP ps T p ↔ A.ev (fun x => decide (x ∈ ps) != decide (x ∈ p)) = true := fun p => by
    unfold GP
    rw [hev]
    cases T.ev (fun x => decide (x ∈ ps) != decide (x ∈ p)) <;> simp
  refine ⟨mask_mnl hs hd r1 (fun m => ?_) fun p hp hG => ?_, mbr_nodup (hds.imp fun h => by omega) r2 (chg_lt A hin)⟩
  · rw [hgp]
    have e : flM ds ps m = fun x => decide (x ∈ ps) != decide (x ∈ mbr ds m) := by
      funext x
      unfold flM
      congr 1
      rw [Bool.eq_iff_iff, Bool.and_eq_true, decide_eq_true_iff, decide_eq_true_iff, mbr_mem]
    unfold Gm
    rw [e]
    exact ⟨fun z => z.1, fun z => ⟨z, fun x hx _ => hd.subset hx⟩⟩
  · rw [hgp] at hG ⊢
    rw [← hG]
    refine ev_sub A fun e w t h => ?_
    have hx := hin e w t h
    have : decide (e ∈ p.filter fun x => decide (x ∈ ds)) = decide (e ∈ p) := by
      rw [decide_eq_decide, List.mem_filter]
      exact ⟨fun z => z.1, fun z => ⟨z, decide_eq_true hx⟩⟩
    rw [this]
end

/-! ### reasons and changes of each part of a condition -/
section
variable {es ds ps al : List Int}
theorem rsn_isG (hs : es.Pairwise (· < ·)) {T : Bd} (wT : Wf es T) (hd : ds.Sublist es) (hin : ∀ e w t, Bd.nd e w t ∈ subN T → e ∈ ds) : (∀ p, p ∈ (rsn ds ps T).map (mbr ds) ↔ Mnl es (FP ps T) p) ∧ ((rsn ds ps T).map (mbr ds)).Nodup := by
  have hnd : es.Nodup := hs.imp fun h => by omega
  obtain ⟨r1, r2⟩ := rsn_ok (ds := ds) (ps := ps) hnd T wT hin
  refine ⟨mask_mnl hs hd r1 (fun m => ?_) fun p hp hF r hr => ?_, mbr_nodup (hnd.sublist hd) r2 (rsn_lt T hin)⟩
  · unfold Fm FP
    constructor
    · intro h r hr
      exact h r fun x hx hb => hr x (mbr_mem.mpr ⟨hx, hb⟩)
    · intro h r hr
      exact h r fun x hx => hr x (mbr_mem.mp hx).1 (mbr_mem.mp hx).2
  · rw [ev_sub (q := fun x => if x ∈ ds then r x else decide (x ∈ ps)) T fun e w t h => (if_pos (hin e w t h)).symm]
    refine hF _ fun x hx => ?_
    by_cases hxd : x ∈ ds
    · rw [if_pos hxd]
      exact hr x (List.mem_filter.mpr ⟨hx, decide_eq_true hxd⟩)
    · rw [if_neg hxd]
/-- the law's least sets out of all that have a property -/
theorem least_is (hs : es.Pairwise (· < ·)) {g : List Int → Bool} {ls' : List (List Int)} (hp : ls'.Perm ((subs es).filter g)) (hk : SrtK ls') : (∀ p, p ∈ leastL ls' ↔ Mnl es (fun p => g p = true) p) ∧ (leastL ls').Nodup ∧ SrtK (leastL ls') := by
  have hm : ∀ p, p ∈ ls' ↔ p.Sublist es ∧ g p = true := fun p => by
    rw [hp.mem_iff, List.mem_filter]
    exact ⟨fun z => ⟨subs_sub2 es p z.1, z.2⟩, fun z => ⟨subs_mem hs z.1, z.2⟩⟩
  obtain ⟨h1, _, h3⟩ := leastL_ok hs ls' hk fun p h => ((hm p).mp h).1
  refine ⟨fun p => ?_, h3, hk.sublist (leastL_sub _)⟩
  rw [h1]
  constructor
  · rintro ⟨a, b⟩
    have a' := (hm p).mp a
    exact ⟨a'.1, a'.2, fun q hq hqp hh => b q ((hm q).mpr ⟨hq, hh⟩) hqp⟩
  · rintro ⟨a, b, c⟩
    exact ⟨(hm p).mpr ⟨a, b⟩, fun y hy hyp => c y ((hm y).mp hy).1 hyp ((hm y).mp hy).2⟩
def frc (es ps : List Int) (a : Bd) (p : List Int) : Bool := (subs es).all fun s => (a.ev fun x => decide (x ∈ s)) || !(p.all fun x => decide (x ∈ s) == decide (x ∈ ps))
theorem frc_iff (hs : es.Pairwise (· < ·)) {a : Bd} (wa : Wf es a) {p : List Int} (hp : p.Sublist es) : frc es ps a p = true ↔ FP ps a p := by
  have hnd : es.Nodup := hs.imp fun h => by omega
  unfold frc FP
  rw [List.all_eq_true]
  constructor
  · intro h r hr
    have h1 := h (es.filter r) (subs_mem hs List.filter_sublist)
    have hx : ∀ x ∈ es, decide (x ∈ es.filter r) = r x := fun x hx => by
      rw [Bool.eq_iff_iff, decide_eq_true_iff, List.mem_filter]
      exact ⟨fun z => z.2, fun z => ⟨hx, z⟩⟩
    have h2 : (p.all fun x => decide (x ∈ es.filter r) == decide (x ∈ ps)) = true := by
      rw [List.all_eq_true]
      intro x hxp
      rw [hx x (hp.subset hxp), hr x hxp]
      exact beq_self_eq_true _
    rw [h2, wf_agree wa hx] at h1
    simpa using h1
  · intro h s hsub
    cases hq : p.all fun x => decide (x ∈ s) == decide (x ∈ ps) with
    | false => simp
    | true =>
      rw [List.all_eq_true] at hq
      rw [h _ fun x hx => eq_of_beq (hq x hx)]
      rfl
/-- as many reasons as the law finds -/
theorem rsn_len (hs : es.Pairwise (· < ·)) {T : Bd} (wT : Wf es T) (hd : ds.Sublist es) (hin : ∀ e w t, Bd.nd e w t ∈ subN T → e ∈ ds) {ls' : List (List Int)} (hp : ls'.Perm ((subs es).filter (frc es ps T))) (hk : SrtK ls') : (leastL ls').Perm ((rsn ds ps T).map (mbr ds)) ∧ (leastL ls').length = (rsn ds ps T).length := by
  obtain ⟨h1, h2, _⟩ := least_is hs hp hk
  obtain ⟨r1, r2⟩ := rsn_isG (ps := ps) hs wT hd hin
  have : (leastL ls').Perm ((rsn ds ps T).map (mbr ds)) := (List.perm_ext_iff_of_nodup h2 r2).mpr fun p => by
    rw [h1, r1]
    exact mnl_congr (fun p hp => frc_iff hs wT hp) p
  exact ⟨this, by rw [this.length_eq, List.length_map]⟩
/-- as many reasons, over which rows ever they are told -/
theorem rsn_len2 (hs : es.Pairwise (· < ·)) {T : Bd} (wT : Wf es T) (hd : ds.Sublist es) (hin : ∀ e w t, Bd.nd e w t ∈ subN T → e ∈ ds) : (rsn ds ps T).length = (rsn es ps T).length := by
  obtain ⟨r1, r2⟩ := rsn_isG (ps := ps) hs wT hd hin
  obtain ⟨q1, q2⟩ := rsn_isG (ps := ps) hs wT (List.Sublist.refl es) fun e w t h => (sub_wf wT h).none_of
  have := ((List.perm_ext_iff_of_nodup r2 q2).mpr fun p => (r1 p).trans (q1 p).symm).length_eq
  rw [List.length_map, List.length_map] at this
  exact this
end
/-- the negation of a condition -/
def bneg : Bd → Bd
  | .lf b => .lf !b
  | .nd e w t => .nd e (bneg w) (bneg t)
theorem bneg_bneg : ∀ a : Bd, bneg (bneg a) = a
  | .lf b => by cases b <;> rfl
  | .nd e w t => by
    show Bd.nd e (bneg (bneg w)) (bneg (bneg t)) = _
    rw [bneg_bneg w, bneg_bneg t]
theorem bneg_wf {es : List Int} {a : Bd} (h : Wf es a) : Wf es (bneg a) := by
  induction h with
  | lf => exact .lf
  | here _ _ hne i1 i2 => exact .here i1 i2 fun z => hne (by
      have := congrArg bneg z
      rw [bneg_bneg, bneg_bneg] at this
      exact this)
  | skip _ ih => exact .skip ih
theorem bneg_ev (r : Int → Bool) : ∀ a : Bd, (bneg a).ev r = !(a.ev r)
  | .lf _ => rfl
  | .nd e w t => by
    have h1 := bneg_ev r w
    have h2 := bneg_ev r t
    show (if r e = true then (bneg t).ev r else (bneg w).ev r) = !(if r e = true then t.ev r else w.ev r)
    rw [h1, h2]
    split <;> rfl

/-! ### the law's reasons -/
theorem bl_eqd (a b : Bool) : decide (V.bl a = V.bl b) = (a == b) := by cases a <;> cases b <;> rfl
theorem two_snoc {α β : Type} {R : α → β → Prop} {cs : List α} {fs : List β} {b : α} {l : β} (hl : cs.length = fs.length) (h : ∀ (k : Nat) c p, cs[k]? = some c → fs[k]? = some p → R c p) (hb : R b l) (k : Nat) (c : α) (p : β) (h1 : (cs ++ [b])[k]? = some c) (h2 : (fs ++ [l])[k]? = some p) : R c p := by
  by_cases hk : k < cs.length
  · rw [List.getElem?_append_left hk] at h1
    rw [List.getElem?_append_left (by omega)] at h2
    exact h k c p h1 h2
  · rw [List.getElem?_append_right (by omega)] at h1
    rw [List.getElem?_append_right (by omega), ← hl] at h2
    cases hz : k - cs.length with
    | zero =>
      rw [hz] at h1 h2
      cases h1
      cases h2
      exact hb
    | succ k => rw [hz] at h1; simp at h1
def agr (ps s p : List Int) : Bool := p.all fun x => decide (x ∈ s) == decide (x ∈ ps)
def sp_lforces (K : PySem.W.Frag) : Sp := fun vs H Q _ => ∃ (H0 : Hp) (ta sa pa ba : Addr) (es ps p : List Int) (a : Bd), vs = [.ref ta, .ref sa, .ref pa, .ref ba] ∧ SqT K H ta ((tt es a).map V.bl) ∧ LLf H0 H sa (subs es) ∧ H pa = some (.lst (ps.map V.int)) ∧ H ba = some (.lst (p.map V.int)) ∧ p.length ≤ 10 ∧ es.length ≤ 5 ∧ ∀ H', Same H H' → Q (.bl (frc es ps a p)) H'
def sp_lforcing (K : PySem.W.Frag) : Sp := fun vs H Q _ => ∃ (ta ea pa : Addr) (es ps : List Int) (a : Bd), vs = [.ref ta, .ref ea, .ref pa] ∧ SqT K H ta ((tt es a).map V.bl) ∧ H ea = some (.lst (es.map V.int)) ∧ H pa = some (.lst (ps.map V.int)) ∧ es.length ≤ 5 ∧ ∀ H' r ls' fs, Same H H' → H r = none → ls'.Perm ((subs es).filter (frc es ps a)) → SrtK ls' → fs = leastL ls' → LLf H H' r fs → Q (.ref r) H'
section
variable {P : Program} {w : World} {K : PySem.W.Frag} {mg : Str → Option Value} {base : Heap}
set_option maxHeartbeats 4000000 in
theorem ok_lforces {f : Addr} {fd : FuncData} (F : Fun K "_law_forces" "_law_forces" s__law_forces f fd) (M : Mg mg) : FnOk P w K mg base CX0 1 f fd ["truth", "subsets", "present", "part"] (sp_lforces K) := by
  refine F.ok sc__law_forces (fun vs H Q E h => ?_) (fun cdv A0 outer s H vs Q E hr h => ?_)
  · obtain ⟨H0, ta, sa, pa, ba, es, ps, p, a, rfl, _⟩ := h
    rfl
  · obtain ⟨H0, ta, sa, pa, ba, es, ps, p, a, rfl, hta, hL, hpa, hba, lp, hl5, q⟩ := h
    refine ⟨_, (pss_cons (ps_for PassesOwn.never rfl (pi_range1 (by rfl) M.range (pa_cons (pe_callB (len_seqK K) (by rfl) M.len PySem.boot_len (pa_cons (pv 1) pa_nil)) pa_nil)) (pg_name (i := 4) sc__law_forces.nd rfl (.inr rfl)) (pss_one (ps_if (PW.pt (pw_and (pt_not (pt_truthK K (pe_ix (ix_tupK K) (pv 0) (pv 4) (fun _ _ => rfl)) (by intro _; rfl))) (pw_and1 (pt_val (pe_callB (allK K rfl) (by rfl) M.all (by decide +kernel) (pa_cons (pe_lc (own := [("entry", 5)]) (g := gName 5) (tt := tYes) rfl sc__law_forces.nd (pi_list (pv 3)) (blkOk_by (N := N__law_forces) (sc := defScope s__law_forces) (by decide +kernel)) (fun _ _ _ _ _ => (pg_name (i := 5) sc__law_forces.nd rfl (.inl rfl))) (fun _ _ _ _ _ => pts_nil) (fun _ _ _ _ _ => (pe_cmpR op_eq (pe_cmpR (inK K) (pv 5) (pe_ix (ix_listK K) (pv 1) (pv 4) (fun _ _ => rfl)) (by rfl)) (pe_cmpR (inK K) (pv 5) (pv 2) (by rfl)) (nomark _)))) pa_nil)))))) (pss_one (ps_ret pe_bl)) pss_nil)))
      (pss_one (ps_ret pe_bl))), ?_⟩
    obtain ⟨bs, ebs, lbs, gbs⟩ := hL
    have lsub : (subs es).length ≤ 32 := by
      have hpow : 2 ^ es.length ≤ 2 ^ 5 := Nat.pow_le_pow_right (by decide) hl5
      rw [subs_len]
      omega
    refine ⟨_, rfl, sa, _, rfl, .inl (.of ebs), ?_⟩
    rw [List.length_map, lbs]
    refine ⟨_, rfl, by omega, by omega, ?_⟩
    refine for_range (lo := 0) (n := (((subs es).length : Nat) : Int).toNat) (fun i σ Hi => Same H Hi ∧ (∃ z4 z5, σ = [some (.ref ta), some (.ref sa), some (.ref pa), some (.ref ba), z4, z5]) ∧ ((subs es).take i).all (fun s => (a.ev fun x => decide (x ∈ s)) || !agr ps s p) = true) ⟨fun _ _ h => h, ⟨_, _, rfl⟩, rfl⟩ (fun i σ Hi hi hp => ?_) (fun σ Hn hp => ?_)
    · obtain ⟨si, ⟨z4, z5, rfl⟩, hall⟩ := hp
      have hi : i < (subs es).length := by omega
      rw [Int.zero_add]
      have hm := List.getElem?_eq_getElem hi
      have hb := List.getElem?_eq_getElem (l := bs) (i := i) (by omega)
      obtain ⟨_, hb1⟩ := gbs i _ _ hb hm
      have hmem := List.getElem_mem hi
      have htt : ((tt es a).map V.bl)[i]? = some (.bl (a.ev fun x => decide (x ∈ (subs es)[i]))) := by
        unfold tt
        rw [List.getElem?_map, List.getElem?_map, hm]
        rfl
      have etk : (subs es).take (i + 1) = (subs es).take i ++ [(subs es)[i]] := by rw [List.take_add_one, hm]; rfl
      rw [etk]
      generalize (subs es)[i] = s at hb1 hmem htt ⊢
      refine ⟨_, rfl, _, rfl, ta, _, _, _, rfl, rfl, SqT.ext si hta, atI_nat htt, _, rfl, ?_⟩
      cases hev : a.ev fun x => decide (x ∈ s) with
      | true =>
        refine iteF (iteF ⟨si, ⟨_, _, rfl⟩, ?_⟩)
        rw [List.all_append, hall, List.all_cons, hev]
        rfl
      | false =>
        refine iteT ?_
        refine ⟨_, rfl, ba, rfl, ⟨_, .of (si _ _ hba)⟩, fun D nD => ?_⟩
        refine lc_list (K := K) (a := ba) (xs := p.map V.int) (fun j Hj => Same Hi Hj ∧ Hj D = some (.lst (((p.take j).map fun x => decide (x ∈ s) == decide (x ∈ ps)).map V.bl))) ⟨same_upd nD, upd_same⟩ (fun j Hj _ hp => .of (hp.1 _ _ (si _ _ hba))) (fun j y Hj hy hp => ?_) (fun H2 hp => ?_)
        · obtain ⟨sj, eD⟩ := hp
          rw [List.getElem?_map] at hy
          obtain ⟨x, hx, rfl⟩ := Option.map_eq_some_iff.mp hy
          have sx := si.trans sj
          refine ⟨rfl, _, rfl, _, rfl, _, rfl, sa, _, _, _, rfl, rfl, .of (sx _ _ ebs), atI_nat (show (bs.map V.ref)[i]? = some (.ref bs[i]) by rw [List.getElem?_map, hb]; rfl), _, _, rfl, .inl (.of (sx _ _ hb1)), rfl, by rw [List.all_map]; exact List.all_eq_true.mpr fun _ _ => rfl, ?_⟩
          rw [if_neg Bool.false_ne_true, inV_int]
          refine ⟨_, rfl, _, rfl, pa, _, rfl, .inl (.of (sx _ _ hpa)), rfl, by rw [List.all_map]; exact List.all_eq_true.mpr fun _ _ => rfl, ?_⟩
          rw [if_neg Bool.false_ne_true, inV_int]
          refine ⟨rfl, _, eD, ?_, fun z o hz => ?_, ?_⟩
          · rw [List.length_map, List.length_map, List.length_take]
            exact Nat.lt_of_le_of_lt (m := 10) (by omega) (by decide)
          · rw [upd_ne (ne_of_none hz nD)]
            exact sj _ _ hz
          · rw [upd_same, bl_eqd, List.take_add_one, hx, List.map_append, List.map_append]
            rfl
        · obtain ⟨s2, eD⟩ := hp
          rw [List.length_map, List.take_of_length_le (Nat.le_refl _)] at eD
          refine ⟨D, _, rfl, .of eD, _, rfl, ?_⟩
          rw [List.all_map, show (p.all (id ∘ fun x => decide (x ∈ s) == decide (x ∈ ps))) = agr ps s p from rfl]
          cases hag : agr ps s p with
          | true =>
            have hf : frc es ps a p = false := by
              unfold frc
              rw [List.all_eq_false]
              refine ⟨s, hmem, ?_⟩
              rw [hev, show (p.all fun x => decide (x ∈ s) == decide (x ∈ ps)) = true from hag]
              exact Bool.false_ne_true
            rw [hf] at q
            exact iteT (q _ (si.trans s2))
          | false =>
            refine iteF ⟨si.trans s2, ⟨_, _, rfl⟩, ?_⟩
            rw [List.all_append, hall, List.all_cons, hev, hag]
            rfl
    · obtain ⟨sn, ⟨z4, z5, rfl⟩, hall⟩ := hp
      rw [Int.toNat_natCast, List.take_of_length_le (Nat.le_refl _)] at hall
      have hf : frc es ps a p = true := hall
      rw [hf] at q
      exact q Hn sn
set_option maxHeartbeats 4000000 in
theorem ok_lforcing {f : Addr} {fd : FuncData} (F : Fun K "_law_forcing" "_law_forcing" s__law_forcing f fd) (M : Mg mg) (c__law_subsets : Cl P w K mg base 1 "_law_subsets" sp_subsN) (c__law_forces : Cl P w K mg base 1 "_law_forces" (sp_lforces K)) (c__law_least : Cl P w K mg base 4 "_law_least" sp_lleast) : FnOk P w K mg base CX0 5 f fd ["truth", "entries", "present"] (sp_lforcing K) := by
  refine F.ok sc__law_forcing (fun vs H Q E h => ?_) (fun cdv A0 outer s H vs Q E hr h => ?_)
  · obtain ⟨ta, ea, pa, es, ps, a, rfl, _⟩ := h
    rfl
  · obtain ⟨ta, ea, pa, es, ps, a, rfl, hta, hea, hpa, hl5, q⟩ := h
    refine ⟨_, (pss_cons (ps_set (i := 3) sc__law_forcing.nd rfl (.inr rfl) (pe_u c__law_subsets hr (by first | decide | omega) (by rfl) (pa_cons (pv 1) pa_nil)))
      (pss_one (ps_ret (pe_u c__law_least hr (by first | decide | omega) (by rfl) (pa_cons (pe_lc (own := [("part", 4)]) (g := gName 4) rfl sc__law_forcing.nd (pi_list (pv 3)) (blkOk_by (N := N__law_forcing) (sc := defScope s__law_forcing) (by decide +kernel)) (fun _ _ _ _ _ => (pg_name (i := 4) sc__law_forcing.nd rfl (.inl rfl))) (fun _ _ _ _ _ => (pts_one (pt_val (pe_u c__law_forces hr (by first | decide | omega) (by rfl) (pa_cons (pv 0) (pa_cons (pv 3) (pa_cons (pv 2) (pa_cons (pv 4) pa_nil)))))))) (fun _ _ _ _ _ => (pv 4))) pa_nil))))), ?_⟩
    refine ⟨_, rfl, ea, es, rfl, hea, by omega, fun H1 sp s1 nsp ll => ?_⟩
    obtain ⟨as0, eS0, las0, g0⟩ := ll
    have lsub : (subs es).length ≤ 32 := by
      have hpow : 2 ^ es.length ≤ 2 ^ 5 := Nat.pow_le_pow_right (by decide) hl5
      rw [subs_len]
      omega
    refine ⟨_, rfl, sp, rfl, ⟨_, .of eS0⟩, fun D nD => ?_⟩
    refine lc_list (K := K) (a := sp) (xs := as0.map V.ref) (tt := tB (tCall (sp_lforces K) [] E0 (tCons (tVar 0) (tCons (tVar 3) (tCons (tVar 2) (tCons (tVar 4) tNil)))))) (fun j Hj => Same H1 Hj ∧ ∃ cs : List Addr, Hj D = some (.lst (cs.map V.ref)) ∧ cs.length = (((subs es).take j).filter (frc es ps a)).length ∧ ∀ (k : Nat) b p, cs[k]? = some b → (((subs es).take j).filter (frc es ps a))[k]? = some p → H b = none ∧ H1 b = some (.lst (p.map V.int))) ⟨same_upd nD, [], upd_same, rfl, by intro k b p h; simp at h⟩ (fun j Hj _ hp => .of (hp.1 _ _ eS0)) (fun j y Hj hy hp => ?_) (fun H2 hp => ?_)
    · obtain ⟨sj, cs, eD, lcs, gcs⟩ := hp
      rw [List.getElem?_map] at hy
      obtain ⟨b, hb, rfl⟩ := Option.map_eq_some_iff.mp hy
      have hj : j < (subs es).length := by rw [← las0]; exact (List.getElem?_eq_some_iff.mp hb).1
      have hm := List.getElem?_eq_getElem hj
      obtain ⟨nb, hb1⟩ := g0 j b _ hb hm
      have lpl := (subs_sub2 es _ (List.getElem_mem hj)).length_le
      have etk : ((subs es).take (j + 1)).filter (frc es ps a) = ((subs es).take j).filter (frc es ps a) ++ if frc es ps a (subs es)[j] = true then [(subs es)[j]] else [] := by
        rw [List.take_add_one, hm, List.filter_append]
        show _ ++ List.filter _ [(subs es)[j]] = _
        rw [List.filter_cons, List.filter_nil]
      have lfl : (((subs es).take j).filter (frc es ps a)).length ≤ 32 := Nat.le_trans (List.length_filter_le _ _) (by rw [List.length_take]; omega)
      rw [etk]
      generalize (subs es)[j] = l at hb1 lpl ⊢
      generalize ((subs es).take j).filter (frc es ps a) = fs at lcs gcs lfl ⊢
      have s1j := s1.trans sj
      refine ⟨rfl, _, rfl, _, rfl, _, rfl, _, rfl, H, ta, sp, pa, b, es, ps, l, a, rfl, SqT.ext s1j hta, ⟨as0, sj _ _ eS0, las0, fun i c p h1 h2 => ⟨(g0 i c p h1 h2).1, sj _ _ (g0 i c p h1 h2).2⟩⟩, s1j _ _ hpa, sj _ _ hb1, by omega, hl5, fun H3 s3 => ⟨_, rfl, ?_⟩⟩
      have eD3 := s3 _ _ eD
      refine ite2 (fun g => ?_) (fun g => ?_)
      · rw [if_pos g]
        refine ⟨_, rfl, _, eD3, ?_, fun z o hz => ?_, cs ++ [b], by rw [upd_same, List.map_append]; rfl, by rw [List.length_append, List.length_append, lcs]; rfl, two_snoc lcs gcs ⟨nb, hb1⟩⟩
        · rw [List.length_map, lcs]
          exact Nat.lt_of_le_of_lt (m := 32) (by omega) (by decide)
        · rw [upd_ne (ne_of_none hz nD)]
          exact s3 _ _ (sj _ _ hz)
      · rw [if_neg g, List.append_nil]
        exact ⟨sj.trans s3, cs, eD3, lcs, gcs⟩
    · obtain ⟨s2, cs, eD, lcs, gcs⟩ := hp
      rw [List.length_map, las0, List.take_of_length_le (Nat.le_refl _)] at lcs gcs
      have s02 := s1.trans s2
      refine ⟨H, D, _, rfl, ⟨cs, eD, lcs, fun k b p h1 h2 => ⟨(gcs k b p h1 h2).1, s2 _ _ (gcs k b p h1 h2).2⟩⟩, Nat.le_trans (List.length_filter_le _ _) (by omega), fun p hp => ?_, fun H' r ls' fs s' nr hp hs hf hL => q H' r ls' fs (s02.trans s') (s02.free nr) hp hs hf hL⟩
      have := (subs_sub2 es p (List.mem_filter.mp hp).1).length_le
      omega
end

/-! ### lists of sets in the laws of reasons and changes -/
theorem few_sub {es ds : List Int} {T : Bd} (hs : es.Pairwise (· < ·)) (wT : Wf es T) (hds : ds.Pairwise (· < ·)) (hmem : ∀ e, e ∈ ds ↔ dpn T e) {n : Nat} (hl : es.length ≤ n) : ds.length ≤ n := by
  have e : es.filter (fun x => decide (x ∈ ds)) = ds := pw_ext3 (hs.sublist List.filter_sublist) hds fun x => by
    rw [List.mem_filter, decide_eq_true_iff]
    exact ⟨fun z => z.2, fun z => ⟨by obtain ⟨u, v, k⟩ := (hmem x).mp z; exact (sub_wf wT k).none_of, z⟩⟩
  rw [← e]
  exact Nat.le_trans (List.length_filter_le _ _) hl
def LD (ls : List (List Int)) : PyData := .list (ls.map fun p => .list (p.map PyData.int))
theorem dp_sets {K : PySem.W.Frag} {H0 H : Hp} {r : Addr} {ls : List (List Int)} (h : LLf H0 H r ls) : Dp K H (.ref r) (LD ls) := by
  obtain ⟨bs, e, hl, hg⟩ := h
  refine .lst (.of e) ?_
  clear e
  induction ls generalizing bs with
  | nil =>
    have : bs = [] := List.eq_nil_of_length_eq_zero hl
    rw [this]
    exact .nil
  | cons p ls ih =>
    cases bs with
    | nil => cases hl
    | cons b bs =>
      exact .cons (dp_ints (.of (hg 0 b p rfl rfl).2)) (ih bs (by simpa using hl) fun i c q h1 h2 => hg (i + 1) c q (by simpa using h1) (by simpa using h2))
theorem sh_sets {ls : List (List Int)} (h : ls.length ≤ 100) (k : ∀ p ∈ ls, p.length ≤ 100) : Sh 4 (LD ls) := by
  refine .lst (by rw [List.length_map]; omega) fun d hd => ?_
  obtain ⟨p, hp, rfl⟩ := List.mem_map.mp hd
  refine .lst (by rw [List.length_map]; have := k p hp; omega) fun d hd => ?_
  obtain ⟨x, _, rfl⟩ := List.mem_map.mp hd
  exact .int _
theorem LLf.ext {H0 H H' : Hp} {r : Addr} {ls : List (List Int)} (e : Same H H') (h : LLf H0 H r ls) : LLf H0 H' r ls := by
  obtain ⟨bs, h1, h2, h3⟩ := h
  exact ⟨bs, e _ _ h1, h2, fun i b p g1 g2 => ⟨(h3 i b p g1 g2).1, e _ _ (h3 i b p g1 g2).2⟩⟩
theorem LLf.fds {C : Addr} {K : PySem.W.Frag} {s : SA} {N : Nds} {es : List Int} {L : Nat} {H0 H H' : Hp} {r : Addr} {ls : List (List Int)} (st : Sto C K H0 s N es L) (nr : H0 r = none) (f : FdS s H H') (h : LLf H0 H r ls) : LLf H0 H' r ls := by
  obtain ⟨bs, h1, h2, h3⟩ := h
  have g := bu_ne st nr
  refine ⟨bs, f _ _ g.1 g.2.1 g.2.2 h1, h2, fun i b p g1 g2 => ?_⟩
  obtain ⟨k1, k2⟩ := h3 i b p g1 g2
  have g' := bu_ne st k1
  exact ⟨k1, f _ _ g'.1 g'.2.1 g'.2.2 k2⟩

theorem few_subl {es ds : List Int} {T : Bd} (hs : es.Pairwise (· < ·)) (wT : Wf es T) (hds : ds.Pairwise (· < ·)) (hmem : ∀ e, e ∈ ds ↔ dpn T e) : ds.Sublist es := by
  have e : es.filter (fun x => decide (x ∈ ds)) = ds := pw_ext3 (hs.sublist List.filter_sublist) hds fun x => by
    rw [List.mem_filter, decide_eq_true_iff]
    exact ⟨fun z => z.2, fun z => ⟨by obtain ⟨u, v, k⟩ := (hmem x).mp z; exact (sub_wf wT k).none_of, z⟩⟩
  rw [← e]
  exact List.filter_sublist
/-- the limit is kept over the rows that count just if it is over all of them -/
theorem cnt_all {es ps ds : List Int} {T : Bd} {fs : List Bd} {o : Nat} (hs : es.Pairwise (· < ·)) (wT : Wf es T) (hd : ds.Sublist es) (hin : ∀ e w t, Bd.nd e w t ∈ subN T → e ∈ ds) (fmem : ∀ x, x ∈ fs ↔ x ∈ subN T) (ho : 0 < o) : (∀ m ∈ (fs.map fun x => (rsn es ps x).length) ++ [(rsn es ps T).length], m ≤ o) ↔ ∀ x ∈ subN T, (rsn ds ps x).length ≤ o := by
  have key : ∀ x ∈ subN T, (rsn ds ps x).length = (rsn es ps x).length := fun x hx => rsn_len2 hs (sub_wf wT hx) hd fun e w t h => hin e w t (sub_trn hx h)
  constructor
  · intro h x hx
    rw [key x hx]
    exact h _ (List.mem_append_left _ (List.mem_map.mpr ⟨x, (fmem x).mpr hx, rfl⟩))
  · intro h m hm
    rcases List.mem_append.mp hm with hm | hm
    · obtain ⟨x, hx, rfl⟩ := List.mem_map.mp hm
      have hx := (fmem x).mp hx
      rw [← key x hx]
      exact h x hx
    · rw [List.mem_singleton.mp hm]
      cases T with
      | lf b =>
        cases b with
        | false => exact Nat.zero_le _
        | true => exact ho
      | nd e w t =>
        have hx : Bd.nd e w t ∈ subN (Bd.nd e w t) := List.mem_cons_self
        rw [← key _ hx]
        exact h _ hx
def sp_law (K : PySem.W.Frag) : Sp := fun vs H Q _ => ∃ (a : Addr) (ns : List Int), vs = [.ref a] ∧ SqL K H a (ns.map V.int) ∧ ns.length ≤ 63 ∧ ∀ H', Q (.bl true) H'
section
variable {P : Program} {w : World} {K : PySem.W.Frag} {mg : Str → Option Value} {base : Heap}
set_option maxHeartbeats 16000000 in
theorem ok_law {f C C2 CL CS : Addr} {fd : FuncData} (F : Fun K "law" "law" s_law f fd) (M : Mg mg) (hm_LineError : mg "LineError" = some (.ref CL)) (hm_SourceError : mg "SourceError" = some (.ref CS)) (hm_TooManyReasons : mg "TooManyReasons" = some (.ref C2)) (CA : Cat K C2 CL CS) (c__law_draw : Cl P w K mg base 1 "_law_draw" (sp_draw K)) (c__law_next : Cl P w K mg base 1 "_law_next" sp_next) (c__law_entries : Cl P w K mg base 2 "_law_entries" (sp_ents 5)) (c__law_tree : Cl P w K mg base 7 "_law_tree" (sp_ltr K 6)) (c_Diagrams___init__ : ClC P w K mg base 1 "Diagrams" C (sp_dinit C K))
    (c__law_build : Cl P w K mg base 19 "_law_build" (sp_build C K 6 9)) (c__law_true : Cl P w K mg base 10 "_law_true" (sp_true K 9)) (c__law_truth : Cl P w K mg base 12 "_law_truth" (sp_truth K 10)) (c__law_forcing : Cl P w K mg base 5 "_law_forcing" (sp_lforcing K)) (c__law_diagrams : Cl P w K mg base 3 "_law_diagrams" (sp_ldia K)) (cn_reasons : ClNX P w K mg base 10 "reasons" 3 ["most"] (fun us ws => us ++ ws) (sp_rsns C C2 K))
    (c__law_same : Cl P w K mg base 6 "_law_same" (sp_same K 5)) : FnOk P w K mg base CX0 20 f fd ["script"] (sp_law K) := by
  refine F.ok sc_law (fun vs H Q E h => ?_) (fun cdv A0 outer s0 H vs Q E hr h => ?_)
  · obtain ⟨a, ns, rfl, _⟩ := h
    rfl
  obtain ⟨a, ns, rfl, hS, _, q⟩ := h
  refine ⟨_, (pss_cons (ps_set (i := 1) sc_law.nd rfl (.inr rfl) (pe_u c__law_draw hr (by first | decide | omega) (by rfl) (pa_cons (pv 0) pa_nil)))
      (pss_cons (ps_set (i := 2) sc_law.nd rfl (.inr rfl) (pe_u c__law_entries hr (by first | decide | omega) (by rfl) (pa_cons (pv 1) (pa_cons pe_int pa_nil))))
      (pss_cons (ps_set (i := 3) sc_law.nd rfl (.inl rfl) (pe_u c__law_tree hr (by first | decide | omega) (by rfl) (pa_cons (pv 1) (pa_cons (pv 2) (pa_cons (pe_op op_add pe_int (pe_u c__law_next hr (by first | decide | omega) (by rfl) (pa_cons (pv 1) (pa_cons pe_int pa_nil)))) pa_nil)))))
      (pss_cons (ps_set (i := 4) sc_law.nd rfl (.inr rfl) (pe_lc (own := [("entry", 14)]) (g := gName 14) rfl sc_law.nd (pi_list (pv 2)) (blkOk_by (N := N_law) (sc := defScope s_law) (by decide +kernel)) (fun _ _ _ _ _ => (pg_name (i := 14) sc_law.nd rfl (.inl rfl))) (fun _ _ _ _ _ => (pts_one (pt_truthK K (pe_u c__law_next hr (by first | decide | omega) (by rfl) (pa_cons (pv 1) (pa_cons pe_int pa_nil))) (by intro _; rfl)))) (fun _ _ _ _ _ => (pv 14))))
      (pss_cons (ps_set (i := 5) sc_law.nd rfl (.inl rfl) (pe_mk0 c_Diagrams___init__ hr (by first | decide | omega) (by rfl)))
      (pss_cons (ps_set (i := 6) sc_law.nd rfl (.inl rfl) (pe_u c__law_build hr (by first | decide | omega) (by rfl) (pa_cons (pv 5) (pa_cons (pv 3) pa_nil))))
      (pss_cons (ps_if (pt_not (pt_val (pe_u c__law_true hr (by first | decide | omega) (by rfl) (pa_cons (pv 3) (pa_cons (pv 4) pa_nil))))) (pss_one (ps_set (i := 3) sc_law.nd rfl (.inl rfl) (pe_tup (pa_cons pe_str (pa_cons (pv 3) pa_nil))))) pss_nil)
      (pss_cons (ps_set (i := 7) sc_law.nd rfl (.inl rfl) (pe_u c__law_truth hr (by first | decide | omega) (by rfl) (pa_cons (pv 3) (pa_cons (pv 2) pa_nil))))
      (pss_cons (ps_set (i := 8) sc_law.nd rfl (.inl rfl) (pe_u c__law_forcing hr (by first | decide | omega) (by rfl) (pa_cons (pv 7) (pa_cons (pv 2) (pa_cons (pv 4) pa_nil)))))
      (pss_cons (ps_set (i := 9) sc_law.nd rfl (.inl rfl) (pe_op op_cat (pe_lc (own := [("one", 15)]) (g := gName 15) (tt := tYes) rfl sc_law.nd (pi_list (pe_u c__law_diagrams hr (by first | decide | omega) (by rfl) (pa_cons (pe_lst (pa_cons (pv 7) pa_nil)) (pa_cons (pe_callB (len_seqK K) (by rfl) M.len PySem.boot_len (pa_cons (pv 2) pa_nil)) pa_nil)))) (blkOk_by (N := N_law) (sc := defScope s_law) (by decide +kernel)) (fun _ _ _ _ _ => (pg_name (i := 15) sc_law.nd rfl (.inl rfl))) (fun _ _ _ _ _ => pts_nil) (fun _ _ _ _ _ => (pe_callB (len_seqK K) (by rfl) M.len PySem.boot_len (pa_cons (pe_u c__law_forcing hr (by first | decide | omega) (by rfl) (pa_cons (pv 15) (pa_cons (pv 2) (pa_cons (pv 4) pa_nil)))) pa_nil)))) (pe_lst (pa_cons (pe_callB (len_seqK K) (by rfl) M.len PySem.boot_len (pa_cons (pv 8) pa_nil)) pa_nil))))
      (pss_cons (ps_for PassesOwn.never rfl (pi_tup (pe_tup (pa_cons pe_int (pa_cons (pe_op op_add pe_int (pe_u c__law_next hr (by first | decide | omega) (by rfl) (pa_cons (pv 1) (pa_cons pe_int pa_nil)))) pa_nil)))) (pg_name (i := 10) sc_law.nd rfl (.inl rfl)) (pss_cons (ps_set (i := 11) sc_law.nd rfl (.inl rfl) (pe_callTy (listK K) (by rfl) M.list (by decide +kernel) (pa_cons (pv 4) pa_nil)))
      (pss_cons (ps_set (i := 12) sc_law.nd rfl (.inl rfl) (pe_cmpR op_gt (pe_callB (cr_max rfl) (by rfl) M.max (by decide +kernel) (pa_cons (pv 9) pa_nil)) (pv 10) (nomark _)))
      (pss_one (ps_try_as (i := 13) (Wout := fun _ _ _ _ => False) (c := .ref _) rfl rfl sc_law.nd rfl rfl ⟨rfl, by decide, Or.inl hm_LineError⟩ takes0
      (fun W pn xe tk _ => (pss_one (ps_if (PW.pt (pw_or (pt_truthK K (pv 12) (by intro _; rfl)) (pw_or (pt_not (pt_val (pe_u c__law_same hr (by first | decide | omega) (by rfl) (pa_cons (pe_knS cn_reasons hr (by first | decide | omega) (E := WE W) (fun σ => passAt tk σ) (by rfl) (pa_cons (pv 5) (pa_cons (pv 6) (pa_cons (pv 11) pa_nil))) (pk_cons (pv 10) pk_nil)) (pa_cons (pv 8) pa_nil))))) (pw_or1 (pt_cmpR (neDK K hr.units) (pv 11) (pv 4) (nomark _)))))) (pss_cons (ps_if (pt_not (pt_truthK K (pv 12) (by intro _; rfl))) (pss_one (ps_ret pe_bl)) pss_nil)
      (pss_cons (ps_expr (pe_knS cn_reasons hr (by first | decide | omega) (E := WE W) (fun σ => passAt tk σ) (by rfl) (pa_cons (pv 5) (pa_cons (pv 6) (pa_cons (pv 11) pa_nil))) (pk_cons (pv 10) pk_nil)))
      (pss_one (ps_ret pe_bl)))) pss_nil)))
      (fun a oe cls d pn hz hf => (pss_one (ps_if (PW.pt (pw_or (pt_not (pt_truthK K (pv 12) (by intro _; rfl))) (pw_or (pt_not (pt_val (pe_callB (call_isX hz hf) (by rfl) M.isinstance (by decide +kernel) (pa_cons (pv 13) (pa_cons (C8.pe_gc (v := .ref _) (by rfl) ⟨_, hm_TooManyReasons, rfl⟩) pa_nil))))) (pw_or1 (pt_val (pe_callB (call_isX hz hf) (by rfl) M.isinstance (by decide +kernel) (pa_cons (pv 13) (pa_cons (C8.pe_gc (v := .ref _) (by rfl) ⟨_, hm_SourceError, rfl⟩) pa_nil)))))))) (pss_one (ps_ret pe_bl)) pss_nil))))))))
      (pss_one (ps_ret pe_bl))))))))))))), ?_⟩
  refine ⟨_, rfl, a, ns, rfl, hS, fun H1 d c s1 nd dr => ?_⟩
  refine ⟨_, rfl, d, c, rfl, by decide, by decide, dr, fun H2 ea es f2 dr2 na en => ?_⟩
  have hl5 : es.length ≤ 5 := en.2.2.2.2.2.1
  refine ⟨_, rfl, _, rfl, _, rfl, d, c, 4, rfl, dr2, by decide, by decide, fun H3 r f3 _ dr3 r0 r1 => ?_⟩
  obtain ⟨k1, rfl⟩ := Int.eq_ofNat_of_zero_le r0
  have en3 := en.fd f3
  refine ⟨_, _, rfl, rfl, d, c, ea, es, 5, 1 + k1, rfl, by omega, dr3, en3, by decide, fun H4 v1 t1 f4 dr4 ok1 ht1 dp1 => ?_⟩
  have en4 := en3.fd f4
  have hsrt : es.Pairwise (· < ·) := en4.2.2.2.1
  have ee4 := en4.2.2.1
  have lns : ∀ x ∈ es, _ := en4.2.2.2.2.2.2
  -- who is there
  refine ⟨_, rfl, ea, rfl, ⟨_, .of ee4⟩, fun pa nP => ?_⟩
  have nPd := dr4.nd nP
  have nPc := dr4.nc nP
  refine lc_list (K := K) (a := ea) (xs := es.map V.int) (tt := fun σ H Q => tCall sp_next [] E0 (tCons (tVar 1) (tCons (tC (V.int 2)) tNil)) σ H fun x H' => ∃ k, TruV K x H' k ∧ Q k H') (fun j Hj => Dr Hj d c ∧ (∀ b u, b ≠ d → H4 b = some u → Hj b = some u) ∧ ∃ ps : List Int, Hj pa = some (.lst (ps.map V.int)) ∧ ps.Sublist (es.take j)) ⟨dr4.upd nPd nPc, fun b u n e => by rw [upd_ne (ne_of_none e nP)]; exact e, [], upd_same, List.nil_sublist _⟩ (fun j Hj _ hp => .of (hp.2.1 _ _ en4.1 ee4)) (fun j y Hj hy hp => ?_) (fun H5 hp => ?_)
  · obtain ⟨drj, fj, ps, ePj, hps⟩ := hp
    rw [List.getElem?_map] at hy
    obtain ⟨x, hx, rfl⟩ := Option.map_eq_some_iff.mp hy
    have hj := (List.getElem?_eq_some_iff.mp hx).1
    have etk : es.take (j + 1) = es.take j ++ [x] := by rw [List.take_add_one, hx]; rfl
    have lps := hps.length_le
    rw [List.length_take] at lps
    refine ⟨rfl, _, rfl, d, c, 2, rfl, drj, by decide, by decide, fun H' r f' _ dr' r0 r1 => ⟨_, rfl, ?_⟩⟩
    refine ite2 (fun g => ?_) (fun g => ?_)
    · refine ⟨_, rfl, _, f' _ _ nPd ePj, ?_, dr'.upd nPd nPc, fun b u n e => ?_, ps ++ [x], ?_, ?_⟩
      · rw [List.length_map]
        exact Nat.lt_of_le_of_lt (m := 5) (by omega) (by decide)
      · rw [upd_ne (ne_of_none e nP)]
        exact f' _ _ n (fj _ _ n e)
      · rw [upd_same, List.map_append]
        rfl
      · rw [etk]
        exact List.Sublist.append hps (List.Sublist.refl _)
    · exact ⟨dr', fun b u n e => f' _ _ n (fj _ _ n e), ps, f' _ _ nPd ePj, by rw [etk]; exact hps.trans (List.sublist_append_left _ _)⟩
  obtain ⟨dr5, f45, ps, eP5, hps⟩ := hp
  rw [List.length_map, List.take_of_length_le (Nat.le_refl _)] at hps
  have ee5 := f45 _ _ en4.1 ee4
  have dp5 := Dp.fd dr4.lst f45 _ _ (tr_only _) dp1
  have en5 : EnA H5 ea d c es 5 := ⟨en4.1, en4.2.1, ee5, en4.2.2.2⟩
  have lps := hps.length_le
  refine fun x dx nx ndx nex => ⟨x, dx, rfl, upd_same, fun H7 sa hsp f7 hk hu hm stm => ⟨rfl, ?_⟩⟩
  subst hsp
  have s7 := made_same nx ndx f7
  have hk := made_free hk
  have hu := made_free hu
  have hm := made_free hm
  have st7 := stm es hsrt
  have ek : ea ≠ sa.k ∧ ea ≠ sa.u ∧ ea ≠ sa.m := ⟨ne_of_none ee5 hk, ne_of_none ee5 hu, ne_of_none ee5 hm⟩
  have pk : pa ≠ sa.k ∧ pa ≠ sa.u ∧ pa ≠ sa.m := ⟨ne_of_none eP5 hk, ne_of_none eP5 hu, ne_of_none eP5 hm⟩
  have dk : d ≠ sa.k ∧ d ≠ sa.u ∧ d ≠ sa.m := by
    obtain ⟨zs, hz⟩ := dr5.lst
    exact ⟨ne_of_none hz hk, ne_of_none hz hu, ne_of_none hz hm⟩
  have dp7 := Dp.ext s7 _ _ dp5
  have ee7 := s7 _ _ ee5
  have eP7 := s7 _ _ eP5
  have dr7 := dr5.ext s7
  have hob : opB es ≤ 64 := by
    have hpow : 2 ^ es.length ≤ 2 ^ 5 := Nat.pow_le_pow_right (by decide) hl5
    unfold opB
    omega
  have sl : (500000 : Nat) < sizeLine := by decide
  have b1 : t1.sz * opB es ≤ 33000 := by
    have h1 := tr_sz t1
    have h2 : 2 ^ (t1.ht + 1) ≤ 2 ^ 6 := Nat.pow_le_pow_right (by decide) (by omega)
    have h3 : t1.sz * opB es ≤ 64 * 64 := Nat.mul_le_mul (by omega) hob
    omega
  refine ⟨_, rfl, _, rfl, sa, [], es, 0, v1, t1, rfl, st7, by omega, ok1, by omega, dp7, by rw [List.length_nil]; omega, by omega, fun H8 N nc T f8 l8 st8 aT wT vT => ?_⟩
  rw [List.nil_append] at st8 aT
  have dp8 := st7.dp f8 (tr_only _) dp7
  have ee8 := f8 _ _ ek.1 ek.2.1 ek.2.2 ee7
  have eP8 := f8 _ _ pk.1 pk.2.1 pk.2.2 eP7
  have hpow : 2 ^ es.length ≤ 32 := Nat.pow_le_pow_right (n := 2) (by decide) hl5
  have hsz : ∀ B, Wf es B → B.sz ≤ 1000 := fun B hB => by
    have := wf_sz hB
    omega
  have hnd := st8.es_nd
  -- the tree, or its negation
  refine ⟨_, rfl, _, rfl, v1, pa, t1, ps, rfl, dp8, .of eP8, by omega, _, rfl, ?_⟩
  have eT1 : ∀ ρ, T.ev ρ = t1.ev ρ := vT
  refine ite2 (fun g => ?h1) (fun g => ?h2)
  case' h1 =>
    refine ⟨_, rfl, by show 2 ≤ sizeLine; decide, fun tp ntp => ?_⟩
    have s9 := same_upd ntp (o := .tup [.str "not", v1])
    obtain ⟨t9, et9⟩ : ∃ t9, t9 = Tr.nt t1 := ⟨_, rfl⟩
    have dp9 : Dp K (upd H8 tp (.tup [.str "not", v1])) (.ref tp) t9.d := by
      rw [et9]
      exact .tup (.of upd_same) (.cons (.str _) (.cons (Dp.ext s9 _ _ dp8) .nil))
    have ht9 : t9.ht < 10 := by
      rw [et9]
      show t1.ht + 1 < 10
      omega
    obtain ⟨TT, eTT⟩ : ∃ TT, TT = bneg T := ⟨_, rfl⟩
    have wTT : Wf es TT := by rw [eTT]; exact bneg_wf wT
    have hT9 : ∀ ρ, TT.ev ρ = t9.ev ρ := fun ρ => by
      rw [eTT, bneg_ev, eT1, et9]
      rfl
    have hTP : ∀ ρ, TT.ev ρ = (T.ev ρ == T.ev fun x => decide (x ∈ ps)) := fun ρ => by
      have g2 : (T.ev fun x => decide (x ∈ ps)) = false := by
        rw [eT1]
        cases z : t1.ev fun x => decide (x ∈ ps) with
        | false => rfl
        | true => rw [z] at g; cases g
      rw [eTT, bneg_ev, g2]
      cases T.ev ρ <;> rfl
    generalize upd H8 tp (.tup [.str "not", v1]) = H9 at s9 dp9 ⊢
    clear et9 eTT
    generalize V.ref tp = v9 at dp9 ⊢
  case' h2 =>
    obtain ⟨H9, e9⟩ : ∃ H9, H9 = H8 := ⟨_, rfl⟩
    have s9 : Same H8 H9 := by rw [e9]; exact fun _ _ h => h
    obtain ⟨t9, et9⟩ : ∃ t9, t9 = t1 := ⟨_, rfl⟩
    have dp9 : Dp K H9 v1 t9.d := by rw [et9, e9]; exact dp8
    have ht9 : t9.ht < 10 := by rw [et9]; omega
    obtain ⟨TT, eTT⟩ : ∃ TT, TT = T := ⟨_, rfl⟩
    have wTT : Wf es TT := by rw [eTT]; exact wT
    have hT9 : ∀ ρ, TT.ev ρ = t9.ev ρ := fun ρ => by rw [eTT, eT1, et9]
    have hTP : ∀ ρ, TT.ev ρ = (T.ev ρ == T.ev fun x => decide (x ∈ ps)) := fun ρ => by
      have g2 : (T.ev fun x => decide (x ∈ ps)) = true := by
        rw [eT1]
        cases z : t1.ev fun x => decide (x ∈ ps) with
        | true => rfl
        | false => rw [z] at g; exact absurd rfl g
      rw [eTT, g2]
      cases T.ev ρ <;> rfl
    rw [← e9]
    clear et9 eTT e9 dp7 dp8 dp5 dp1
    generalize v1 = v9 at dp9 ⊢
  all_goals
    have ee9 := s9 _ _ ee8
    have eP9 := s9 _ _ eP8
    have st9 := st8.ext s9
    -- its truth, and its reasons
    refine ⟨_, rfl, _, rfl, v9, ea, es, t9, rfl, dp9, ee9, by omega, ht9, fun HA ta sA eA => ?_⟩
    have ett : tru es t9 = tt es TT := List.map_congr_left fun p _ => (hT9 _).symm
    rw [ett] at eA
    have eeA := sA _ _ ee9
    have ePA := sA _ _ eP9
    refine ⟨_, rfl, _, rfl, _, rfl, ta, ea, pa, es, ps, TT, rfl, .of eA, eeA, ePA, hl5, fun HB rd lsd due sB nB pB kB hdue LB => ?_⟩
    have eAB := sB _ _ eA
    have eeB := sB _ _ eeA
    have ePB := sB _ _ ePA
    -- how many there are
    refine ⟨_, rfl, by show 1 ≤ sizeLine; decide, fun p1 n1 => ?_⟩
    have sp1 := same_upd n1 (o := .lst [.ref ta])
    have ep1 : (upd HB p1 (.lst [.ref ta])) p1 = some (.lst [.ref ta]) := upd_same
    generalize upd HB p1 (.lst [.ref ta]) = HC at sp1 ep1 ⊢
    refine ⟨_, rfl, ea, _, rfl, .inl (.of (sp1 _ _ eeB)), ?_⟩
    rw [List.length_map]
    refine ⟨p1, es, [TT], rfl, ⟨[.ref ta], ep1, .cons (dp_tt (.of (sp1 _ _ eAB))) .nil⟩, hnd, by omega, fun x hx => by rw [List.mem_singleton.mp hx]; exact wTT, by show 1 ≤ 100; decide, fun x hx => by rw [List.mem_singleton.mp hx]; exact hsz _ wTT, fun HD qf fs sD tD fnd fmem => ?_⟩
    have fmem : ∀ x, x ∈ fs ↔ x ∈ subN TT := fun x => by
      rw [fmem]
      exact ⟨fun ⟨b, hb, h⟩ => by rw [List.mem_singleton.mp hb] at h; exact h, fun h => ⟨TT, List.mem_singleton.mpr rfl, h⟩⟩
    have lfs : fs.length ≤ 1000 := by
      have hp : fs.Perm (post [] TT) := (List.perm_ext_iff_of_nodup fnd (post_nodup TT [] List.Pairwise.nil)).mpr fun x => by
        rw [fmem, post_iff (by intro _ _ _ h; cases h)]
        exact ⟨.inr, fun h => h.elim (fun z => by cases z) id⟩
      have h1 := post_len TT []
      have h2 := hsz TT wTT
      have h3 : ([] : List Bd).length = 0 := rfl
      rw [hp.length_eq]
      omega
    have hin : ∀ x ∈ subN TT, ∀ e u v, Bd.nd e u v ∈ subN x → e ∈ es := fun x hx e u v h => (sub_wf wTT (sub_trn hx h)).none_of
    obtain ⟨vs, efs, dfs⟩ := tD
    have lvs : vs.length = fs.length := by rw [DpAll.len dfs, List.length_map]
    have sBD := sp1.trans sD
    have eeD := sBD _ _ eeB
    have ePD := sBD _ _ ePB
    refine ⟨qf, rfl, ⟨_, .of efs⟩, fun D nD => ?_⟩
    refine lc_list (K := K) (a := qf) (xs := vs) (fun j Hj => Same HD Hj ∧ Hj D = some (.lst (natL ((fs.take j).map fun x => (rsn es ps x).length)))) ⟨same_upd nD, upd_same⟩ (fun j Hj _ hp => .of (hp.1 _ _ efs)) (fun j y Hj hy hp => ?_) (fun HF hp => ?_)
    · obtain ⟨sj, eD⟩ := hp
      have hj : j < fs.length := by rw [← lvs]; exact (List.getElem?_eq_some_iff.mp hy).1
      have hm := List.getElem?_eq_getElem hj
      obtain ⟨u, hu, hd⟩ := DpAll.get dfs (show (fs.map (bDt es))[j]? = some (bDt es fs[j]) by rw [List.getElem?_map, hm]; rfl)
      obtain rfl : u = y := Option.some.inj (hu.symm.trans hy)
      have hx := (fmem _).mp (List.getElem_mem hj)
      generalize fs[j] = x at hm hd hx
      obtain ⟨q', rfl, hs⟩ := tt_seq hd
      refine ⟨rfl, _, rfl, _, rfl, _, rfl, q', ea, pa, es, ps, x, rfl, SqT.ext sj hs, sj _ _ eeD, sj _ _ ePD, hl5, fun HE re lse dse sE nE pE kE hE LE => ?_⟩
      obtain ⟨be, eE, lE, _⟩ := LE
      refine ⟨re, _, rfl, .inl (.of eE), ?_⟩
      rw [List.length_map, lE, hE, (rsn_len hsrt (sub_wf wTT hx) (List.Sublist.refl es) (hin x hx) pE kE).2]
      refine ⟨_, sE _ _ eD, ?_, fun z o hz => ?_, ?_⟩
      · rw [natL_len, List.length_map, List.length_take]
        exact Nat.lt_of_le_of_lt (m := 1000) (by omega) (by decide)
      · rw [upd_ne (ne_of_none hz nD)]
        exact sE _ _ (sj _ _ hz)
      · rw [upd_same, List.take_add_one, hm, List.map_append, natL_app]
        rfl
    obtain ⟨sF, eD⟩ := hp
    rw [lvs, List.take_of_length_le (Nat.le_refl _)] at eD
    have sBF := sBD.trans sF
    have LF := LB.ext sBF
    obtain ⟨bd, erd, lrd, grd⟩ := id LF
    refine ⟨_, rfl, rd, _, rfl, .inl (.of erd), ?_⟩
    have hinT : ∀ e u v, Bd.nd e u v ∈ subN TT → e ∈ es := fun e u v h => (sub_wf wTT h).none_of
    rw [List.length_map, lrd, hdue, (rsn_len hsrt wTT (List.Sublist.refl es) hinT pB kB).2]
    refine ⟨by show 1 ≤ sizeLine; decide, fun p2 n2 => ?_⟩
    have s2 := same_upd n2 (o := .lst [.int (((rsn es ps TT).length : Nat) : Int)])
    have e2 : (upd HF p2 (.lst [.int (((rsn es ps TT).length : Nat) : Int)])) p2 = some (.lst (natL [(rsn es ps TT).length])) := upd_same
    generalize upd HF p2 (.lst [.int (((rsn es ps TT).length : Nat) : Int)]) = HG at s2 e2 ⊢
    refine ⟨D, p2, _, _, rfl, rfl, s2 _ _ eD, e2, by rw [natL_len, natL_len, List.length_map]; exact Nat.le_trans (m := 1001) (by show fs.length + 1 ≤ 1001; omega) (by decide), fun cc ncc => ?_⟩
    rw [← natL_app]
    obtain ⟨cnt, ecnt⟩ : ∃ cnt, cnt = (fs.map fun x => (rsn es ps x).length) ++ [(rsn es ps TT).length] := ⟨_, rfl⟩
    rw [← ecnt]
    have scc := same_upd ncc (o := .lst (natL cnt))
    have ecc : (upd HG cc (.lst (natL cnt))) cc = some (.lst (natL cnt)) := upd_same
    generalize upd HG cc (.lst (natL cnt)) = HH at scc ecc ⊢
    have sBG := sBF.trans s2
    have sBH := sBG.trans scc
    have s9H := (sA.trans sB).trans sBH
    have stH := st9.ext s9H
    have ePH := sBH _ _ ePB
    have LH := LB.ext sBH
    have dr8 : Dr H8 d c := by
      obtain ⟨n1, ns', pos, rest, seed, h1, h2, h3⟩ := dr7
      have hc : c ≠ sa.k ∧ c ≠ sa.u ∧ c ≠ sa.m := by
        obtain ⟨_, _, _, _, _, _, g2, _⟩ := dr5
        exact ⟨ne_of_none g2 hk, ne_of_none g2 hu, ne_of_none g2 hm⟩
      exact ⟨n1, ns', pos, rest, seed, f8 _ _ dk.1 dk.2.1 dk.2.2 h1, f8 _ _ hc.1 hc.2.1 hc.2.2 h2, h3⟩
    have drA := (dr8.ext s9).ext sA
    have drH := drA.ext (sB.trans sBH)
    have ckk := bu_ne (st9.ext ((sA.trans sB).trans sBG)) ncc
    have ncd : cc ≠ d := by
      obtain ⟨zs, hz⟩ := (drA.ext (sB.trans sBG)).lst
      exact (ne_of_none hz ncc).symm
    -- the two limits
    refine ⟨_, rfl, d, c, 6, rfl, drH, by decide, by decide, fun HI r fI _ drI r0 r1 => ?_⟩
    obtain ⟨k9, rfl⟩ := Int.eq_ofNat_of_zero_le r0
    have stI := stH.fd drH.lst dk.1 fI
    have ePI := fI _ _ nPd ePH
    have eccI := fI _ _ ncd ecc
    have LI : LLf HA HI rd due := by
      obtain ⟨bs, h1, h2, h3⟩ := LH
      obtain ⟨zs, hz⟩ := drA.lst
      exact ⟨bs, fI _ _ (ne_of_none hz nB).symm h1, h2, fun i b p g1 g2 => ⟨(h3 i b p g1 g2).1, fI _ _ (ne_of_none hz (h3 i b p g1 g2).1).symm (h3 i b p g1 g2).2⟩⟩
    refine ⟨_, _, rfl, rfl, by show 2 ≤ sizeLine; decide, fun Tp nTp => ?_⟩
    have sT := same_upd nTp (o := .tup [.int 200, .int (1 + (k9 : Int))])
    have eT : (upd HI Tp (.tup [.int 200, .int (1 + (k9 : Int))])) Tp = some (.tup [.int 200, .int (1 + (k9 : Int))]) := upd_same
    have stT := stI.ext sT
    have ePT := sT _ _ ePI
    have eccT := sT _ _ eccI
    have LT := LI.ext sT
    have tkk := bu_ne stI nTp
    generalize upd HI Tp (.tup [.int 200, .int (1 + (k9 : Int))]) = HT at sT eT stT ePT eccT LT ⊢
    refine ⟨Tp, rfl, ⟨_, .of eT⟩, ?_⟩
    have lN : N.length ≤ 33000 := by
      have := l8
      omega
    have st0 := st9.ext sA
    refine for_tup (K := K) (a := Tp) (xs := [.int 200, .int (1 + (k9 : Int))]) (fun i σ Hi => Hi pa = some (.lst (ps.map V.int)) ∧ LLf HA Hi rd due ∧ Hi cc = some (.lst (natL cnt)) ∧ (∃ M L, M.length ≤ 64 * i ∧ L ≤ 33000 + 64 * i ∧ Sto C K Hi sa (N ++ M) es L) ∧ Hi Tp = some (.tup [.int 200, .int (1 + (k9 : Int))]) ∧ ∃ z10 z11 z12 z13, σ = [some (.ref a), some (.ref d), some (.ref ea), some v9, some (.ref pa), some (.ref sa.p), some (.int ((nc : Nat) : Int)), some (.ref ta), some (.ref rd), some (.ref cc), z10, z11, z12, z13, none, none]) ⟨ePT, LT, eccT, ⟨[], 0 + t1.sz * opB es, Nat.zero_le _, by omega, by rw [List.append_nil]; exact stT⟩, eT, _, _, _, _, rfl⟩ (fun i σ Hi _ hp => .of hp.2.2.2.2.1) (fun i y σ Hi hy hp => ?_) (fun σ Hn hp => ?_)
    rotate_left
    · exact q Hn
    obtain ⟨ePi, Li, ecci, ⟨M0, L0, lM0, lL0, sti⟩, eTi, z10, z11, z12, z13, rfl⟩ := hp
    have i2 : i < 2 := by
      rcases Nat.lt_or_ge i 2 with h | h
      · exact h
      · rw [List.getElem?_eq_none (by show 2 ≤ i; exact h)] at hy
        cases hy
    obtain ⟨o, rfl, o0⟩ : ∃ o : Nat, y = .int ((o : Nat) : Int) ∧ 0 < o := by
      match i, i2, hy with
      | 0, _, hy =>
        cases hy
        exact ⟨200, rfl, by decide⟩
      | 1, _, hy =>
        cases hy
        exact ⟨1 + k9, by rw [Int.natCast_add]; rfl, by omega⟩
    refine ⟨_, rfl, pa, _, rfl, .inl (.of ePi), fun hd nhd => ?_⟩
    have shd := same_upd nhd (o := .lst (ps.map V.int))
    have ehd : (upd Hi hd (.lst (ps.map V.int))) hd = some (.lst (ps.map V.int)) := upd_same
    have sth := sti.ext shd
    have hdk := bu_ne sti nhd
    generalize upd Hi hd (.lst (ps.map V.int)) = Hj at shd ehd sth ⊢
    refine ⟨_, rfl, cc, cnt.map fun n => ((n : Nat) : Int), rfl, .of (by rw [shd _ _ ecci]; unfold natL; rw [List.map_map]; rfl), by rw [ecnt, List.length_map, List.length_append]; exact Nat.succ_pos _, fun mx hm1 hm2 => ⟨_, rfl, _, _, rfl, rfl, ?_⟩⟩
    obtain ⟨m, emx, hm⟩ : ∃ m : Nat, mx = ((m : Nat) : Int) ∧ m ∈ cnt := by
      obtain ⟨m, h1, h2⟩ := List.mem_map.mp hm1
      exact ⟨m, h2.symm, h1⟩
    have fin : ∀ Hz M', FdS sa Hj Hz → Sto C K Hz sa (N ++ M0 ++ M') es (L0 + 2 ^ es.length) → M'.length ≤ 2 ^ es.length → Hz pa = some (.lst (ps.map V.int)) ∧ LLf HA Hz rd due ∧ Hz cc = some (.lst (natL cnt)) ∧ (∃ M L, M.length ≤ 64 * (i + 1) ∧ L ≤ 33000 + 64 * (i + 1) ∧ Sto C K Hz sa (N ++ M) es L) ∧ Hz Tp = some (.tup [.int 200, .int (1 + (k9 : Int))]) := fun Hz M' f st lM => ⟨f _ _ pk.1 pk.2.1 pk.2.2 (shd _ _ ePi), (Li.ext shd).fds st0 nB f, f _ _ ckk.1 ckk.2.1 ckk.2.2 (shd _ _ ecci), ⟨M0 ++ M', L0 + 2 ^ es.length, by rw [List.length_append]; omega, by omega, by rw [← List.append_assoc]; exact st⟩, f _ _ tkk.1 tkk.2.1 tkk.2.2 (shd _ _ eTi)⟩
    by_cases hre : ((o : Nat) : Int) < mx
    · dsimp only
      rw [decide_eq_true hre]
      refine ⟨_, rfl, _, rfl, ?_⟩
      refine iteT (iteT ?_)
      refine ⟨_, rfl, _, rfl, iteF ?_⟩
      refine ⟨_, rfl, _, rfl, _, rfl, _, rfl, rfl, rfl, sa, N ++ M0, es, L0, nc, T, hd, ps, o, rfl, sth, aT.mono, wT, hsz _ wT, hl5, ehd, hdk, by rw [List.length_append]; omega, by omega, fun T' ds wT' hT' hds hmem => ?_⟩
      have eT' : T' = TT := canon hnd wT' wTT fun r => by rw [hT', hTP]
      subst T'
      have hno : ¬ ∀ x ∈ subN TT, (rsn ds ps x).length ≤ o := fun h => by
        have := (cnt_all (ps := ps) hsrt wTT (few_subl hsrt wTT hds hmem) (fun e u v h => (hmem e).mpr ⟨u, v, h⟩) fmem o0).mpr h m (by rw [← ecnt]; exact hm)
        omega
      rw [if_neg hno]
      intro H' M' f' st' lM'
      refine ⟨true, CA.ex, fun _ a0 na0 => ?_, fun q => Bool.noConfusion q⟩
      refine ⟨_, rfl, _, rfl, iteF ?_⟩
      refine ⟨_, rfl, C2, V.ref C2, .ref C2, true, rfl, rfl, CA.xc, rfl, fun u h => h, CA.k1, _, rfl, iteF ?_⟩
      refine ⟨_, rfl, C2, V.ref CS, .ref CS, false, rfl, rfl, CA.xc, rfl, fun u h => h, CA.k2, _, rfl, iteF ?_⟩
      obtain ⟨g1, g2, g3, g4, g5⟩ := fin H' M' f' st' lM'
      exact ⟨g1, g2, g3, g4, g5, _, _, _, _, rfl⟩
    · dsimp only
      rw [decide_eq_false hre]
      refine ⟨_, rfl, _, rfl, ?_⟩
      refine iteF ?_
      refine ⟨_, rfl, _, rfl, _, rfl, _, rfl, rfl, rfl, sa, N ++ M0, es, L0, nc, T, hd, ps, o, rfl, sth, aT.mono, wT, hsz _ wT, hl5, ehd, hdk, by rw [List.length_append]; omega, by omega, fun T' ds wT' hT' hds hmem => ?_⟩
      have eT' : T' = TT := canon hnd wT' wTT fun r => by rw [hT', hTP]
      subst T'
      have hsl := few_subl hsrt wTT hds hmem
      have hin2 : ∀ e u v, Bd.nd e u v ∈ subN TT → e ∈ ds := fun e u v h => (hmem e).mpr ⟨u, v, h⟩
      rw [if_pos ((cnt_all (ps := ps) hsrt wTT hsl hin2 fmem o0).mp fun m' hm' => by
        have := hm2 _ (List.mem_map.mpr ⟨m', by rw [ecnt]; exact hm', rfl⟩)
        omega)]
      intro H' r ls M' f' st' lM' nr Lr pr kr
      obtain ⟨l1, l2, l3⟩ := least_is hsrt pB kB
      obtain ⟨r1', _⟩ := rsn_len hsrt wTT hsl hin2 pB kB
      rw [← hdue] at l1 l2 l3 r1'
      obtain rfl : ls = due := srt_ext kr l3 ((pr.trans r1'.symm).nodup_iff.mpr l2) l2 fun p => (pr.trans r1'.symm).mem_iff
      obtain ⟨g1, g2, g3, g4, g5⟩ := fin H' M' f' st' lM'
      have ehd' := f' _ _ hdk.1 hdk.2.1 hdk.2.2 ehd
      have lls : ls.length ≤ 32 := by
        rw [hdue]
        refine Nat.le_trans (leastL_sub _).length_le ?_
        rw [pB.length_eq]
        refine Nat.le_trans (List.length_filter_le _ _) ?_
        rw [subs_len]
        exact hpow
      refine ⟨_, rfl, _, _, LD ls, 4, rfl, rfl, sh_sets (by omega) fun p hp => by have := ((l1 p).mp hp).1.length_le; omega, dp_sets Lr, dp_sets g2, fun Hs ss => ⟨_, rfl, iteF ?_⟩⟩
      refine ⟨_, rfl, _, rfl, .list (ps.map PyData.int), .list (ps.map PyData.int), dp_ints (.of (ss _ _ ehd')), dp_ints (.of (ss _ _ g1)), ints_shaped _, ints_shaped _, _, rfl, ?_⟩
      rw [ints_eqv]
      refine iteF ?_
      have st2 := st'.ext ss
      obtain ⟨g1, g2, g3, g4, g5⟩ := fin Hs M' (f'.trans (FdS.of ss)) st2 lM'
      exact ⟨g1, g2, g3, g4, g5, _, _, _, _, rfl⟩
end

set_option maxHeartbeats 0 in
theorem all_mk {l : PySem.W.OpenLaw} {w : World} {K : PySem.W.Frag} {h : Heap} {mg : Str → Option Value} {fa : Addr} (X : K.In h) (G : h.Ns mainGlobals mg) (hfa : mg "law" = some (.ref fa))
    {od0 an0 : Option Addr} {sl0 : Array (Option Value)} {oc0 kV0 dc0 pm0 cd0 ct0 : Value} {f0 : Addr}
    {od1 an1 : Option Addr} {sl1 : Array (Option Value)} {oc1 kV1 dc1 pm1 cd1 ct1 : Value} {f1 : Addr}
    {od2 an2 : Option Addr} {sl2 : Array (Option Value)} {oc2 kV2 dc2 pm2 cd2 ct2 : Value} {f2 : Addr}
    {od3 an3 : Option Addr} {sl3 : Array (Option Value)} {oc3 kV3 dc3 pm3 cd3 ct3 : Value} {f3 : Addr}
    {od4 an4 : Option Addr} {sl4 : Array (Option Value)} {oc4 dc4 pm4 cd4 ct4 : Value} {f4 : Addr}
    {kD4 : Addr} {tkd4_most : Tok}
    {od5 an5 : Option Addr} {sl5 : Array (Option Value)} {oc5 kV5 dc5 pm5 cd5 ct5 : Value} {f5 : Addr}
    {od6 an6 : Option Addr} {sl6 : Array (Option Value)} {oc6 kV6 dc6 pm6 cd6 ct6 : Value} {f6 : Addr}
    {od7 an7 : Option Addr} {sl7 : Array (Option Value)} {oc7 kV7 dc7 pm7 cd7 ct7 : Value} {f7 : Addr}
    {od8 an8 : Option Addr} {sl8 : Array (Option Value)} {oc8 kV8 dc8 pm8 cd8 ct8 : Value} {f8 : Addr}
    {od9 an9 : Option Addr} {sl9 : Array (Option Value)} {oc9 kV9 dc9 pm9 cd9 ct9 : Value} {f9 : Addr}
    {od10 an10 : Option Addr} {sl10 : Array (Option Value)} {oc10 kV10 dc10 pm10 cd10 ct10 : Value} {f10 : Addr}
    {od11 an11 : Option Addr} {sl11 : Array (Option Value)} {oc11 kV11 dc11 pm11 cd11 ct11 : Value} {f11 : Addr}
    {od12 an12 : Option Addr} {sl12 : Array (Option Value)} {oc12 kV12 dc12 pm12 cd12 ct12 : Value} {f12 : Addr}
    {od13 an13 : Option Addr} {sl13 : Array (Option Value)} {oc13 kV13 dc13 pm13 cd13 ct13 : Value} {f13 : Addr}
    {od14 an14 : Option Addr} {sl14 : Array (Option Value)} {oc14 kV14 dc14 pm14 cd14 ct14 : Value} {f14 : Addr}
    {od15 an15 : Option Addr} {sl15 : Array (Option Value)} {oc15 kV15 dc15 pm15 cd15 ct15 : Value} {f15 : Addr}
    {od16 an16 : Option Addr} {sl16 : Array (Option Value)} {oc16 kV16 dc16 pm16 cd16 ct16 : Value} {f16 : Addr}
    {od17 an17 : Option Addr} {sl17 : Array (Option Value)} {oc17 kV17 dc17 pm17 cd17 ct17 : Value} {f17 : Addr}
    {od18 an18 : Option Addr} {sl18 : Array (Option Value)} {oc18 kV18 dc18 pm18 cd18 ct18 : Value} {f18 : Addr}
    {od19 an19 : Option Addr} {sl19 : Array (Option Value)} {oc19 kV19 dc19 pm19 cd19 ct19 : Value} {f19 : Addr}
    {od20 an20 : Option Addr} {sl20 : Array (Option Value)} {oc20 kV20 dc20 pm20 cd20 ct20 : Value} {f20 : Addr}
    {od21 an21 : Option Addr} {sl21 : Array (Option Value)} {oc21 kV21 dc21 pm21 cd21 ct21 : Value} {f21 : Addr}
    {od22 an22 : Option Addr} {sl22 : Array (Option Value)} {oc22 kV22 dc22 pm22 cd22 ct22 : Value} {f22 : Addr}
    {od23 an23 : Option Addr} {sl23 : Array (Option Value)} {oc23 kV23 dc23 pm23 cd23 ct23 : Value} {f23 : Addr}
    {od24 an24 : Option Addr} {sl24 : Array (Option Value)} {oc24 kV24 dc24 pm24 cd24 ct24 : Value} {f24 : Addr}
    {od25 an25 : Option Addr} {sl25 : Array (Option Value)} {oc25 kV25 dc25 pm25 cd25 ct25 : Value} {f25 : Addr}
    {od26 an26 : Option Addr} {sl26 : Array (Option Value)} {oc26 kV26 dc26 pm26 cd26 ct26 : Value} {f26 : Addr}
    {od27 an27 : Option Addr} {sl27 : Array (Option Value)} {oc27 kV27 dc27 pm27 cd27 ct27 : Value} {f27 : Addr}
    {od28 an28 : Option Addr} {sl28 : Array (Option Value)} {oc28 kV28 dc28 pm28 cd28 ct28 : Value} {f28 : Addr}
    {od29 an29 : Option Addr} {sl29 : Array (Option Value)} {oc29 kV29 dc29 pm29 cd29 ct29 : Value} {f29 : Addr}
    {od30 an30 : Option Addr} {sl30 : Array (Option Value)} {oc30 kV30 dc30 pm30 cd30 ct30 : Value} {f30 : Addr}
    {od31 an31 : Option Addr} {sl31 : Array (Option Value)} {oc31 kV31 dc31 pm31 cd31 ct31 : Value} {f31 : Addr}
    {od32 an32 : Option Addr} {sl32 : Array (Option Value)} {oc32 kV32 dc32 pm32 cd32 ct32 : Value} {f32 : Addr}
    {od33 an33 : Option Addr} {sl33 : Array (Option Value)} {oc33 kV33 dc33 pm33 cd33 ct33 : Value} {f33 : Addr}
    {od34 an34 : Option Addr} {sl34 : Array (Option Value)} {oc34 kV34 dc34 pm34 cd34 ct34 : Value} {f34 : Addr}
    {od35 an35 : Option Addr} {sl35 : Array (Option Value)} {oc35 kV35 dc35 pm35 cd35 ct35 : Value} {f35 : Addr}
    {od36 an36 : Option Addr} {sl36 : Array (Option Value)} {oc36 kV36 dc36 pm36 cd36 ct36 : Value} {f36 : Addr}
    {od37 an37 : Option Addr} {sl37 : Array (Option Value)} {oc37 kV37 dc37 pm37 cd37 ct37 : Value} {f37 : Addr}
    {od38 an38 : Option Addr} {sl38 : Array (Option Value)} {oc38 kV38 dc38 pm38 cd38 ct38 : Value} {f38 : Addr}
    {C_Diagrams : Addr}
    {C_TooManyReasons : Addr}
    {C_LineError : Addr}
    {C_SourceError : Addr}
    (a0 : PySem.W.nsIn K mainGlobals "set_key" = some (some (.ref f0))) (l0 : K.lookup f0 = some ⟨oc0, od0, .func (PySem.W.fnOf "set_key" "set_key" (defArgs s_set_key) (defBody s_set_key) (defScope s_set_key) .none kV0 dc0 pm0 an0 cd0 ct0), sl0⟩) (c0 : PySem.W.codeIn K cd0 "set_key" = true) (k0 : PySem.W.keepIn K (.ref f0) = true)
    (a1 : PySem.W.nsIn K mainGlobals "members" = some (some (.ref f1))) (l1 : K.lookup f1 = some ⟨oc1, od1, .func (PySem.W.fnOf "members" "members" (defArgs s_members) (defBody s_members) (defScope s_members) .none kV1 dc1 pm1 an1 cd1 ct1), sl1⟩) (c1 : PySem.W.codeIn K cd1 "members" = true) (k1 : PySem.W.keepIn K (.ref f1) = true)
    (a2 : PySem.W.nsIn K mainGlobals "least_masks" = some (some (.ref f2))) (l2 : K.lookup f2 = some ⟨oc2, od2, .func (PySem.W.fnOf "least_masks" "least_masks" (defArgs s_least_masks) (defBody s_least_masks) (defScope s_least_masks) .none kV2 dc2 pm2 an2 cd2 ct2), sl2⟩) (c2 : PySem.W.codeIn K cd2 "least_masks" = true) (k2 : PySem.W.keepIn K (.ref f2) = true)
    (a3 : PySem.W.nsIn K mainGlobals "has_part" = some (some (.ref f3))) (l3 : K.lookup f3 = some ⟨oc3, od3, .func (PySem.W.fnOf "has_part" "has_part" (defArgs s_has_part) (defBody s_has_part) (defScope s_has_part) .none kV3 dc3 pm3 an3 cd3 ct3), sl3⟩) (c3 : PySem.W.codeIn K cd3 "has_part" = true) (k3 : PySem.W.keepIn K (.ref f3) = true)
    (a4 : PySem.W.nsIn K mainGlobals "reasons" = some (some (.ref f4))) (l4 : K.lookup f4 = some ⟨oc4, od4, .func (PySem.W.fnOf "reasons" "reasons" (defArgs s_reasons) (defBody s_reasons) (defScope s_reasons) .none (.ref kD4) dc4 pm4 an4 cd4 ct4), sl4⟩) (c4 : PySem.W.codeIn K cd4 "reasons" = true) (k4 : PySem.W.keepIn K (.ref f4) = true)
    (kd4_most : PySem.W.nsIn K kD4 "most" = some (some (.int 200 tkd4_most)))
    (a5 : PySem.W.nsIn K mainGlobals "forcing_node" = some (some (.ref f5))) (l5 : K.lookup f5 = some ⟨oc5, od5, .func (PySem.W.fnOf "forcing_node" "forcing_node" (defArgs s_forcing_node) (defBody s_forcing_node) (defScope s_forcing_node) .none kV5 dc5 pm5 an5 cd5 ct5), sl5⟩) (c5 : PySem.W.codeIn K cd5 "forcing_node" = true) (k5 : PySem.W.keepIn K (.ref f5) = true)
    (a6 : PySem.W.findIn K (.ref C_Diagrams) "__init__" = some (some (.ref f6))) (i6 : PySem.W.isFn K (.ref f6) = true) (l6 : K.lookup f6 = some ⟨oc6, od6, .func (PySem.W.fnOf "__init__" "Diagrams.__init__" (defArgs s_Diagrams___init__) (defBody s_Diagrams___init__) (defScope s_Diagrams___init__) .none kV6 dc6 pm6 an6 cd6 ct6), sl6⟩) (c6 : PySem.W.codeIn K cd6 "Diagrams.__init__" = true) (k6 : PySem.W.keepIn K (.ref f6) = true)
    (a7 : PySem.W.findIn K (.ref C_Diagrams) "there" = some (some (.ref f7))) (i7 : PySem.W.isFn K (.ref f7) = true) (l7 : K.lookup f7 = some ⟨oc7, od7, .func (PySem.W.fnOf "there" "Diagrams.there" (defArgs s_Diagrams_there) (defBody s_Diagrams_there) (defScope s_Diagrams_there) .none kV7 dc7 pm7 an7 cd7 ct7), sl7⟩) (c7 : PySem.W.codeIn K cd7 "Diagrams.there" = true) (k7 : PySem.W.keepIn K (.ref f7) = true)
    (a8 : PySem.W.findIn K (.ref C_Diagrams) "conjunction" = some (some (.ref f8))) (i8 : PySem.W.isFn K (.ref f8) = true) (l8 : K.lookup f8 = some ⟨oc8, od8, .func (PySem.W.fnOf "conjunction" "Diagrams.conjunction" (defArgs s_Diagrams_conjunction) (defBody s_Diagrams_conjunction) (defScope s_Diagrams_conjunction) .none kV8 dc8 pm8 an8 cd8 ct8), sl8⟩) (c8 : PySem.W.codeIn K cd8 "Diagrams.conjunction" = true) (k8 : PySem.W.keepIn K (.ref f8) = true)
    (a9 : PySem.W.findIn K (.ref C_Diagrams) "disjunction" = some (some (.ref f9))) (i9 : PySem.W.isFn K (.ref f9) = true) (l9 : K.lookup f9 = some ⟨oc9, od9, .func (PySem.W.fnOf "disjunction" "Diagrams.disjunction" (defArgs s_Diagrams_disjunction) (defBody s_Diagrams_disjunction) (defScope s_Diagrams_disjunction) .none kV9 dc9 pm9 an9 cd9 ct9), sl9⟩) (c9 : PySem.W.codeIn K cd9 "Diagrams.disjunction" = true) (k9 : PySem.W.keepIn K (.ref f9) = true)
    (a10 : PySem.W.findIn K (.ref C_Diagrams) "negation" = some (some (.ref f10))) (i10 : PySem.W.isFn K (.ref f10) = true) (l10 : K.lookup f10 = some ⟨oc10, od10, .func (PySem.W.fnOf "negation" "Diagrams.negation" (defArgs s_Diagrams_negation) (defBody s_Diagrams_negation) (defScope s_Diagrams_negation) .none kV10 dc10 pm10 an10 cd10 ct10), sl10⟩) (c10 : PySem.W.codeIn K cd10 "Diagrams.negation" = true) (k10 : PySem.W.keepIn K (.ref f10) = true)
    (a11 : PySem.W.findIn K (.ref C_Diagrams) "differs" = some (some (.ref f11))) (i11 : PySem.W.isFn K (.ref f11) = true) (l11 : K.lookup f11 = some ⟨oc11, od11, .func (PySem.W.fnOf "differs" "Diagrams.differs" (defArgs s_Diagrams_differs) (defBody s_Diagrams_differs) (defScope s_Diagrams_differs) .none kV11 dc11 pm11 an11 cd11 ct11), sl11⟩) (c11 : PySem.W.codeIn K cd11 "Diagrams.differs" = true) (k11 : PySem.W.keepIn K (.ref f11) = true)
    (a12 : PySem.W.findIn K (.ref C_Diagrams) "holds" = some (some (.ref f12))) (i12 : PySem.W.isFn K (.ref f12) = true) (l12 : K.lookup f12 = some ⟨oc12, od12, .func (PySem.W.fnOf "holds" "Diagrams.holds" (defArgs s_Diagrams_holds) (defBody s_Diagrams_holds) (defScope s_Diagrams_holds) .none kV12 dc12 pm12 an12 cd12 ct12), sl12⟩) (c12 : PySem.W.codeIn K cd12 "Diagrams.holds" = true) (k12 : PySem.W.keepIn K (.ref f12) = true)
    (a13 : PySem.W.findIn K (.ref C_Diagrams) "depends" = some (some (.ref f13))) (i13 : PySem.W.isFn K (.ref f13) = true) (l13 : K.lookup f13 = some ⟨oc13, od13, .func (PySem.W.fnOf "depends" "Diagrams.depends" (defArgs s_Diagrams_depends) (defBody s_Diagrams_depends) (defScope s_Diagrams_depends) .none kV13 dc13 pm13 an13 cd13 ct13), sl13⟩) (c13 : PySem.W.codeIn K cd13 "Diagrams.depends" = true) (k13 : PySem.W.keepIn K (.ref f13) = true)
    (a14 : PySem.W.findIn K (.ref C_Diagrams) "table" = some (some (.ref f14))) (i14 : PySem.W.isFn K (.ref f14) = true) (l14 : K.lookup f14 = some ⟨oc14, od14, .func (PySem.W.fnOf "table" "Diagrams.table" (defArgs s_Diagrams_table) (defBody s_Diagrams_table) (defScope s_Diagrams_table) .none kV14 dc14 pm14 an14 cd14 ct14), sl14⟩) (c14 : PySem.W.codeIn K cd14 "Diagrams.table" = true) (k14 : PySem.W.keepIn K (.ref f14) = true)
    (a15 : PySem.W.findIn K (.ref C_Diagrams) "listed" = some (some (.ref f15))) (i15 : PySem.W.isFn K (.ref f15) = true) (l15 : K.lookup f15 = some ⟨oc15, od15, .func (PySem.W.fnOf "listed" "Diagrams.listed" (defArgs s_Diagrams_listed) (defBody s_Diagrams_listed) (defScope s_Diagrams_listed) .none kV15 dc15 pm15 an15 cd15 ct15), sl15⟩) (c15 : PySem.W.codeIn K cd15 "Diagrams.listed" = true) (k15 : PySem.W.keepIn K (.ref f15) = true)
    (a16 : PySem.W.findIn K (.ref C_Diagrams) "top" = some (some (.ref f16))) (i16 : PySem.W.isFn K (.ref f16) = true) (l16 : K.lookup f16 = some ⟨oc16, od16, .func (PySem.W.fnOf "top" "Diagrams.top" (defArgs s_Diagrams_top) (defBody s_Diagrams_top) (defScope s_Diagrams_top) .none kV16 dc16 pm16 an16 cd16 ct16), sl16⟩) (c16 : PySem.W.codeIn K cd16 "Diagrams.top" = true) (k16 : PySem.W.keepIn K (.ref f16) = true)
    (a17 : PySem.W.findIn K (.ref C_Diagrams) "branches" = some (some (.ref f17))) (i17 : PySem.W.isFn K (.ref f17) = true) (l17 : K.lookup f17 = some ⟨oc17, od17, .func (PySem.W.fnOf "branches" "Diagrams.branches" (defArgs s_Diagrams_branches) (defBody s_Diagrams_branches) (defScope s_Diagrams_branches) .none kV17 dc17 pm17 an17 cd17 ct17), sl17⟩) (c17 : PySem.W.codeIn K cd17 "Diagrams.branches" = true) (k17 : PySem.W.keepIn K (.ref f17) = true)
    (a18 : PySem.W.findIn K (.ref C_Diagrams) "node_of" = some (some (.ref f18))) (i18 : PySem.W.isFn K (.ref f18) = true) (l18 : K.lookup f18 = some ⟨oc18, od18, .func (PySem.W.fnOf "node_of" "Diagrams.node_of" (defArgs s_Diagrams_node_of) (defBody s_Diagrams_node_of) (defScope s_Diagrams_node_of) .none kV18 dc18 pm18 an18 cd18 ct18), sl18⟩) (c18 : PySem.W.codeIn K cd18 "Diagrams.node_of" = true) (k18 : PySem.W.keepIn K (.ref f18) = true)
    (a19 : PySem.W.findIn K (.ref C_Diagrams) "node" = some (some (.ref f19))) (i19 : PySem.W.isFn K (.ref f19) = true) (l19 : K.lookup f19 = some ⟨oc19, od19, .func (PySem.W.fnOf "node" "Diagrams.node" (defArgs s_Diagrams_node) (defBody s_Diagrams_node) (defScope s_Diagrams_node) .none kV19 dc19 pm19 an19 cd19 ct19), sl19⟩) (c19 : PySem.W.codeIn K cd19 "Diagrams.node" = true) (k19 : PySem.W.keepIn K (.ref f19) = true)
    (a20 : PySem.W.findIn K (.ref C_Diagrams) "combine" = some (some (.ref f20))) (i20 : PySem.W.isFn K (.ref f20) = true) (l20 : K.lookup f20 = some ⟨oc20, od20, .func (PySem.W.fnOf "combine" "Diagrams.combine" (defArgs s_Diagrams_combine) (defBody s_Diagrams_combine) (defScope s_Diagrams_combine) .none kV20 dc20 pm20 an20 cd20 ct20), sl20⟩) (c20 : PySem.W.codeIn K cd20 "Diagrams.combine" = true) (k20 : PySem.W.keepIn K (.ref f20) = true)
    (a21 : PySem.W.nsIn K mainGlobals "_law_draw" = some (some (.ref f21))) (l21 : K.lookup f21 = some ⟨oc21, od21, .func (PySem.W.fnOf "_law_draw" "_law_draw" (defArgs s__law_draw) (defBody s__law_draw) (defScope s__law_draw) .none kV21 dc21 pm21 an21 cd21 ct21), sl21⟩) (c21 : PySem.W.codeIn K cd21 "_law_draw" = true) (k21 : PySem.W.keepIn K (.ref f21) = true)
    (a22 : PySem.W.nsIn K mainGlobals "_law_next" = some (some (.ref f22))) (l22 : K.lookup f22 = some ⟨oc22, od22, .func (PySem.W.fnOf "_law_next" "_law_next" (defArgs s__law_next) (defBody s__law_next) (defScope s__law_next) .none kV22 dc22 pm22 an22 cd22 ct22), sl22⟩) (c22 : PySem.W.codeIn K cd22 "_law_next" = true) (k22 : PySem.W.keepIn K (.ref f22) = true)
    (a23 : PySem.W.nsIn K mainGlobals "_law_same" = some (some (.ref f23))) (l23 : K.lookup f23 = some ⟨oc23, od23, .func (PySem.W.fnOf "_law_same" "_law_same" (defArgs s__law_same) (defBody s__law_same) (defScope s__law_same) .none kV23 dc23 pm23 an23 cd23 ct23), sl23⟩) (c23 : PySem.W.codeIn K cd23 "_law_same" = true) (k23 : PySem.W.keepIn K (.ref f23) = true)
    (a24 : PySem.W.nsIn K mainGlobals "_law_entries" = some (some (.ref f24))) (l24 : K.lookup f24 = some ⟨oc24, od24, .func (PySem.W.fnOf "_law_entries" "_law_entries" (defArgs s__law_entries) (defBody s__law_entries) (defScope s__law_entries) .none kV24 dc24 pm24 an24 cd24 ct24), sl24⟩) (c24 : PySem.W.codeIn K cd24 "_law_entries" = true) (k24 : PySem.W.keepIn K (.ref f24) = true)
    (a25 : PySem.W.nsIn K mainGlobals "_law_tree" = some (some (.ref f25))) (l25 : K.lookup f25 = some ⟨oc25, od25, .func (PySem.W.fnOf "_law_tree" "_law_tree" (defArgs s__law_tree) (defBody s__law_tree) (defScope s__law_tree) .none kV25 dc25 pm25 an25 cd25 ct25), sl25⟩) (c25 : PySem.W.codeIn K cd25 "_law_tree" = true) (k25 : PySem.W.keepIn K (.ref f25) = true)
    (a26 : PySem.W.nsIn K mainGlobals "_law_build" = some (some (.ref f26))) (l26 : K.lookup f26 = some ⟨oc26, od26, .func (PySem.W.fnOf "_law_build" "_law_build" (defArgs s__law_build) (defBody s__law_build) (defScope s__law_build) .none kV26 dc26 pm26 an26 cd26 ct26), sl26⟩) (c26 : PySem.W.codeIn K cd26 "_law_build" = true) (k26 : PySem.W.keepIn K (.ref f26) = true)
    (a27 : PySem.W.nsIn K mainGlobals "_law_true" = some (some (.ref f27))) (l27 : K.lookup f27 = some ⟨oc27, od27, .func (PySem.W.fnOf "_law_true" "_law_true" (defArgs s__law_true) (defBody s__law_true) (defScope s__law_true) .none kV27 dc27 pm27 an27 cd27 ct27), sl27⟩) (c27 : PySem.W.codeIn K cd27 "_law_true" = true) (k27 : PySem.W.keepIn K (.ref f27) = true)
    (a28 : PySem.W.nsIn K mainGlobals "_law_subsets" = some (some (.ref f28))) (l28 : K.lookup f28 = some ⟨oc28, od28, .func (PySem.W.fnOf "_law_subsets" "_law_subsets" (defArgs s__law_subsets) (defBody s__law_subsets) (defScope s__law_subsets) .none kV28 dc28 pm28 an28 cd28 ct28), sl28⟩) (c28 : PySem.W.codeIn K cd28 "_law_subsets" = true) (k28 : PySem.W.keepIn K (.ref f28) = true)
    (a29 : PySem.W.nsIn K mainGlobals "_law_truth" = some (some (.ref f29))) (l29 : K.lookup f29 = some ⟨oc29, od29, .func (PySem.W.fnOf "_law_truth" "_law_truth" (defArgs s__law_truth) (defBody s__law_truth) (defScope s__law_truth) .none kV29 dc29 pm29 an29 cd29 ct29), sl29⟩) (c29 : PySem.W.codeIn K cd29 "_law_truth" = true) (k29 : PySem.W.keepIn K (.ref f29) = true)
    (a30 : PySem.W.nsIn K mainGlobals "_law_fixed" = some (some (.ref f30))) (l30 : K.lookup f30 = some ⟨oc30, od30, .func (PySem.W.fnOf "_law_fixed" "_law_fixed" (defArgs s__law_fixed) (defBody s__law_fixed) (defScope s__law_fixed) .none kV30 dc30 pm30 an30 cd30 ct30), sl30⟩) (c30 : PySem.W.codeIn K cd30 "_law_fixed" = true) (k30 : PySem.W.keepIn K (.ref f30) = true)
    (a31 : PySem.W.nsIn K mainGlobals "_law_top" = some (some (.ref f31))) (l31 : K.lookup f31 = some ⟨oc31, od31, .func (PySem.W.fnOf "_law_top" "_law_top" (defArgs s__law_top) (defBody s__law_top) (defScope s__law_top) .none kV31 dc31 pm31 an31 cd31 ct31), sl31⟩) (c31 : PySem.W.codeIn K cd31 "_law_top" = true) (k31 : PySem.W.keepIn K (.ref f31) = true)
    (a32 : PySem.W.nsIn K mainGlobals "_law_diagrams" = some (some (.ref f32))) (l32 : K.lookup f32 = some ⟨oc32, od32, .func (PySem.W.fnOf "_law_diagrams" "_law_diagrams" (defArgs s__law_diagrams) (defBody s__law_diagrams) (defScope s__law_diagrams) .none kV32 dc32 pm32 an32 cd32 ct32), sl32⟩) (c32 : PySem.W.codeIn K cd32 "_law_diagrams" = true) (k32 : PySem.W.keepIn K (.ref f32) = true)
    (a33 : PySem.W.nsIn K mainGlobals "_law_set_key" = some (some (.ref f33))) (l33 : K.lookup f33 = some ⟨oc33, od33, .func (PySem.W.fnOf "_law_set_key" "_law_set_key" (defArgs s__law_set_key) (defBody s__law_set_key) (defScope s__law_set_key) .none kV33 dc33 pm33 an33 cd33 ct33), sl33⟩) (c33 : PySem.W.codeIn K cd33 "_law_set_key" = true) (k33 : PySem.W.keepIn K (.ref f33) = true)
    (a34 : PySem.W.nsIn K mainGlobals "_law_within" = some (some (.ref f34))) (l34 : K.lookup f34 = some ⟨oc34, od34, .func (PySem.W.fnOf "_law_within" "_law_within" (defArgs s__law_within) (defBody s__law_within) (defScope s__law_within) .none kV34 dc34 pm34 an34 cd34 ct34), sl34⟩) (c34 : PySem.W.codeIn K cd34 "_law_within" = true) (k34 : PySem.W.keepIn K (.ref f34) = true)
    (a35 : PySem.W.nsIn K mainGlobals "_law_least" = some (some (.ref f35))) (l35 : K.lookup f35 = some ⟨oc35, od35, .func (PySem.W.fnOf "_law_least" "_law_least" (defArgs s__law_least) (defBody s__law_least) (defScope s__law_least) .none kV35 dc35 pm35 an35 cd35 ct35), sl35⟩) (c35 : PySem.W.codeIn K cd35 "_law_least" = true) (k35 : PySem.W.keepIn K (.ref f35) = true)
    (a36 : PySem.W.nsIn K mainGlobals "_law_forces" = some (some (.ref f36))) (l36 : K.lookup f36 = some ⟨oc36, od36, .func (PySem.W.fnOf "_law_forces" "_law_forces" (defArgs s__law_forces) (defBody s__law_forces) (defScope s__law_forces) .none kV36 dc36 pm36 an36 cd36 ct36), sl36⟩) (c36 : PySem.W.codeIn K cd36 "_law_forces" = true) (k36 : PySem.W.keepIn K (.ref f36) = true)
    (a37 : PySem.W.nsIn K mainGlobals "_law_forcing" = some (some (.ref f37))) (l37 : K.lookup f37 = some ⟨oc37, od37, .func (PySem.W.fnOf "_law_forcing" "_law_forcing" (defArgs s__law_forcing) (defBody s__law_forcing) (defScope s__law_forcing) .none kV37 dc37 pm37 an37 cd37 ct37), sl37⟩) (c37 : PySem.W.codeIn K cd37 "_law_forcing" = true) (k37 : PySem.W.keepIn K (.ref f37) = true)
    (a38 : PySem.W.nsIn K mainGlobals "law" = some (some (.ref f38))) (l38 : K.lookup f38 = some ⟨oc38, od38, .func (PySem.W.fnOf "law" "law" (defArgs s_law) (defBody s_law) (defScope s_law) .none kV38 dc38 pm38 an38 cd38 ct38), sl38⟩) (c38 : PySem.W.codeIn K cd38 "law" = true) (k38 : PySem.W.keepIn K (.ref f38) = true)
    {tk_NEVER : Tok} (w_NEVER : PySem.W.nsIn K mainGlobals "NEVER" = some (some (.int 0 tk_NEVER))) {tk_ALWAYS : Tok} (w_ALWAYS : PySem.W.nsIn K mainGlobals "ALWAYS" = some (some (.int 1 tk_ALWAYS))) {tk_FIRST_NODE : Tok} (w_FIRST_NODE : PySem.W.nsIn K mainGlobals "FIRST_NODE" = some (some (.int 2 tk_FIRST_NODE))) (aC_Diagrams : PySem.W.nsIn K mainGlobals "Diagrams" = some (some (.ref C_Diagrams))) (pg_Diagrams : PySem.W.plainGet K C_Diagrams Str.empty = true) (hd_Diagrams : PySem.W.hasDictIn K C_Diagrams = true) (po_Diagrams : PySem.W.plainOver K C_Diagrams = true) (sa_Diagrams : PySem.W.findIn K (.ref C_Diagrams) "__setattr__" = some (some (.builtin "object.__setattr__"))) (mk_Diagrams : PySem.W.makesIn K C_Diagrams = true) (kc_Diagrams : PySem.W.keepIn K (.ref C_Diagrams) = true) (nf_Diagrams_combined : PySem.W.findIn K (.ref C_Diagrams) "combined" = some none) (nf_Diagrams_kept : PySem.W.findIn K (.ref C_Diagrams) "kept" = some none) (nf_Diagrams_numbers : PySem.W.findIn K (.ref C_Diagrams) "numbers" = some none) (z_abs : PySem.W.nsIn K mainGlobals "abs" = some none) (z_all : PySem.W.nsIn K mainGlobals "all" = some none) (z_any : PySem.W.nsIn K mainGlobals "any" = some none) (z_bool : PySem.W.nsIn K mainGlobals "bool" = some none) (z_enumerate : PySem.W.nsIn K mainGlobals "enumerate" = some none) (z_int : PySem.W.nsIn K mainGlobals "int" = some none) (z_isinstance : PySem.W.nsIn K mainGlobals "isinstance" = some none) (z_len : PySem.W.nsIn K mainGlobals "len" = some none) (z_list : PySem.W.nsIn K mainGlobals "list" = some none) (z_max : PySem.W.nsIn K mainGlobals "max" = some none) (z_min : PySem.W.nsIn K mainGlobals "min" = some none) (z_range : PySem.W.nsIn K mainGlobals "range" = some none) (z_set : PySem.W.nsIn K mainGlobals "set" = some none) (z_sorted : PySem.W.nsIn K mainGlobals "sorted" = some none) (z_str : PySem.W.nsIn K mainGlobals "str" = some none) (z_tuple : PySem.W.nsIn K mainGlobals "tuple" = some none) (epa_TooManyReasons : PySem.W.nsIn K mainGlobals "TooManyReasons" = some (some (.ref C_TooManyReasons))) (epq_TooManyReasons : PySem.W.excIn K C_TooManyReasons [.type "ValueError", .type "Exception", .type "BaseException", .type "object"] "ValueError.__new__" = true) (epk_TooManyReasons : PySem.W.keepIn K (.ref C_TooManyReasons) = true) (eps_TooManyReasons : PySem.W.subIn K (.ref C_TooManyReasons) (.type "BaseException") = some true) (ept_TooManyReasons : PySem.W.typeIn K (.ref C_TooManyReasons) = some (.type "type")) (ea_LineError : PySem.W.nsIn K mainGlobals "LineError" = some (some (.ref C_LineError))) (ea_SourceError : PySem.W.nsIn K mainGlobals "SourceError" = some (some (.ref C_SourceError))) (ecs_TooManyReasons : PySem.W.subIn K (.ref C_LineError) (.type "BaseException") = some true) (ech_TooManyReasons : PySem.W.hasDictIn K C_LineError = true) (ect_TooManyReasons : PySem.W.typeIn K (.ref C_LineError) = some (.type "type")) (ecl_TooManyReasons : PySem.W.subIn K (.ref C_TooManyReasons) (.ref C_LineError) = some true) (exg_TooManyReasons : PySem.W.findIn K (.ref C_TooManyReasons) "__getattribute__" = some (some (.builtin "BaseException.__getattribute__"))) (exk_TooManyReasons : PySem.W.findIn K (.ref C_TooManyReasons) "__getattr__" = some none) (exd_TooManyReasons : PySem.W.hasDictIn K C_TooManyReasons = true) (exa_TooManyReasons : PySem.W.findIn K (.ref C_TooManyReasons) "__class__" = some (some (.builtin "object.__class__"))) (exn_TooManyReasons : PySem.W.specialIn K (.builtin "object.__class__") "__get__" = some (some (.builtin "getset_descriptor.__get__"))) (ext_TooManyReasons : PySem.W.takesIn K (.builtin "object.__class__") = some true) (exm_TooManyReasons : PySem.W.mroIn K C_TooManyReasons (.type "object") = some true) (ek1_TooManyReasons : PySem.W.subIn K (.ref C_TooManyReasons) (.ref C_TooManyReasons) = some true) (ek2_TooManyReasons : PySem.W.subIn K (.ref C_TooManyReasons) (.ref C_SourceError) = some false) (eob_TooManyReasons : PySem.W.subIn K (.ref C_SourceError) (.type "BaseException") = some true) (eod_TooManyReasons : PySem.W.hasDictIn K C_SourceError = true) (eot_TooManyReasons : PySem.W.typeIn K (.ref C_SourceError) = some (.type "type")) :
    ∃ fd : FuncData, (∀ (s : Shared) (v : Value), BindsTo s fd ⟨[v], []⟩ [("script", v)]) ∧ ∀ base : Heap, K.In base → base.Ns mainGlobals mg → FnOk l.prog w K mg base CX0 20 fa fd ["script"] (sp_law K) := by
  have e := hfa.symm.trans (PySem.W.mg_of X G a38)
  cases e
  have F_set_key := fun_mk (st := s_set_key) l0 c0 k0
  have b_set_key := F_set_key.binds (ps := ["numbers"]) fun _ _ _ _ _ _ us hl => match us, hl with | [_], _ => rfl
  have g_set_key := PySem.W.mg_of X G a0
  have F_members := fun_mk (st := s_members) l1 c1 k1
  have b_members := F_members.binds (ps := ["mask", "entries"]) fun _ _ _ _ _ _ us hl => match us, hl with | [_, _], _ => rfl
  have g_members := PySem.W.mg_of X G a1
  have F_least_masks := fun_mk (st := s_least_masks) l2 c2 k2
  have b_least_masks := F_least_masks.binds (ps := ["masks", "most"]) fun _ _ _ _ _ _ us hl => match us, hl with | [_, _], _ => rfl
  have g_least_masks := PySem.W.mg_of X G a2
  have F_has_part := fun_mk (st := s_has_part) l3 c3 k3
  have b_has_part := F_has_part.binds (ps := ["mask", "others"]) fun _ _ _ _ _ _ us hl => match us, hl with | [_, _], _ => rfl
  have g_has_part := PySem.W.mg_of X G a3
  have F_reasons := fun_mk (st := s_reasons) l4 c4 k4
  have FD_reasons := fund_mk (st := s_reasons) (kws := [("most", V.int 200)]) l4 c4 k4 (fun q hq => by simp only [List.mem_cons, List.not_mem_nil, or_false] at hq; rcases hq with rfl; exact ⟨_, kd4_most, ⟨_, rfl⟩⟩)
  obtain ⟨ds_reasons, vd_reasons, bd_reasons⟩ := FD_reasons.binds0 (ps := ["store", "condition", "present", "most"]) 3 (by simp) rfl (fun D doc pm an cdv ct us ks hl hk => match us, ks, hl, hk with | [_, _, _], [_], _, _ => ⟨_, _, _, _, _, _, rfl, rfl, rfl⟩)
  obtain ⟨_, bn_reasons⟩ := FD_reasons.kbinds0 (ps := ["store", "condition", "present", "most"]) 3 ["most"] [] (fun us _ ws => us ++ ws) (by simp) (fun q hq => by cases hq) (fun a _ c => a.append c) (fun D doc pm an cdv ct us mv ws hl _ hw => match us, ws, hl, hw with | [_, _, _], [_], _, _ => rfl)
  have g_reasons := PySem.W.mg_of X G a4
  have F_forcing_node := fun_mk (st := s_forcing_node) l5 c5 k5
  have b_forcing_node := F_forcing_node.binds (ps := ["bit", "now", "other", "most"]) fun _ _ _ _ _ _ us hl => match us, hl with | [_, _, _, _], _ => rfl
  have g_forcing_node := PySem.W.mg_of X G a5
  have F_Diagrams___init__ := fun_mk (st := s_Diagrams___init__) l6 c6 k6
  have b_Diagrams___init__ := F_Diagrams___init__.binds (ps := ["self"]) fun _ _ _ _ _ _ us hl => match us, hl with | [_], _ => rfl
  have mk0_Diagrams : Mk K C_Diagrams f6 := ⟨mk_Diagrams, a6, i6, kc_Diagrams⟩
  have F_Diagrams_there := fun_mk (st := s_Diagrams_there) l7 c7 k7
  have b_Diagrams_there := F_Diagrams_there.binds (ps := ["self", "entry"]) fun _ _ _ _ _ _ us hl => match us, hl with | [_, _], _ => rfl
  have m_Diagrams_there : Meth K C_Diagrams "there" f7 := ⟨a7, i7, k7⟩
  have F_Diagrams_conjunction := fun_mk (st := s_Diagrams_conjunction) l8 c8 k8
  have b_Diagrams_conjunction := F_Diagrams_conjunction.binds (ps := ["self", "first", "second"]) fun _ _ _ _ _ _ us hl => match us, hl with | [_, _, _], _ => rfl
  have m_Diagrams_conjunction : Meth K C_Diagrams "conjunction" f8 := ⟨a8, i8, k8⟩
  have F_Diagrams_disjunction := fun_mk (st := s_Diagrams_disjunction) l9 c9 k9
  have b_Diagrams_disjunction := F_Diagrams_disjunction.binds (ps := ["self", "first", "second"]) fun _ _ _ _ _ _ us hl => match us, hl with | [_, _, _], _ => rfl
  have m_Diagrams_disjunction : Meth K C_Diagrams "disjunction" f9 := ⟨a9, i9, k9⟩
  have F_Diagrams_negation := fun_mk (st := s_Diagrams_negation) l10 c10 k10
  have b_Diagrams_negation := F_Diagrams_negation.binds (ps := ["self", "condition"]) fun _ _ _ _ _ _ us hl => match us, hl with | [_, _], _ => rfl
  have m_Diagrams_negation : Meth K C_Diagrams "negation" f10 := ⟨a10, i10, k10⟩
  have F_Diagrams_differs := fun_mk (st := s_Diagrams_differs) l11 c11 k11
  have b_Diagrams_differs := F_Diagrams_differs.binds (ps := ["self", "first", "second"]) fun _ _ _ _ _ _ us hl => match us, hl with | [_, _, _], _ => rfl
  have m_Diagrams_differs : Meth K C_Diagrams "differs" f11 := ⟨a11, i11, k11⟩
  have F_Diagrams_holds := fun_mk (st := s_Diagrams_holds) l12 c12 k12
  have b_Diagrams_holds := F_Diagrams_holds.binds (ps := ["self", "condition", "present"]) fun _ _ _ _ _ _ us hl => match us, hl with | [_, _, _], _ => rfl
  have m_Diagrams_holds : Meth K C_Diagrams "holds" f12 := ⟨a12, i12, k12⟩
  have F_Diagrams_depends := fun_mk (st := s_Diagrams_depends) l13 c13 k13
  have b_Diagrams_depends := F_Diagrams_depends.binds (ps := ["self", "condition"]) fun _ _ _ _ _ _ us hl => match us, hl with | [_, _], _ => rfl
  have m_Diagrams_depends : Meth K C_Diagrams "depends" f13 := ⟨a13, i13, k13⟩
  have F_Diagrams_table := fun_mk (st := s_Diagrams_table) l14 c14 k14
  have b_Diagrams_table := F_Diagrams_table.binds (ps := ["self", "condition"]) fun _ _ _ _ _ _ us hl => match us, hl with | [_, _], _ => rfl
  have m_Diagrams_table : Meth K C_Diagrams "table" f14 := ⟨a14, i14, k14⟩
  have F_Diagrams_listed := fun_mk (st := s_Diagrams_listed) l15 c15 k15
  have b_Diagrams_listed := F_Diagrams_listed.binds (ps := ["self", "conditions"]) fun _ _ _ _ _ _ us hl => match us, hl with | [_, _], _ => rfl
  have m_Diagrams_listed : Meth K C_Diagrams "listed" f15 := ⟨a15, i15, k15⟩
  have F_Diagrams_top := fun_mk (st := s_Diagrams_top) l16 c16 k16
  have b_Diagrams_top := F_Diagrams_top.binds (ps := ["self", "conditions"]) fun _ _ _ _ _ _ us hl => match us, hl with | [_, _], _ => rfl
  have m_Diagrams_top : Meth K C_Diagrams "top" f16 := ⟨a16, i16, k16⟩
  have F_Diagrams_branches := fun_mk (st := s_Diagrams_branches) l17 c17 k17
  have b_Diagrams_branches := F_Diagrams_branches.binds (ps := ["self", "condition", "entry"]) fun _ _ _ _ _ _ us hl => match us, hl with | [_, _, _], _ => rfl
  have m_Diagrams_branches : Meth K C_Diagrams "branches" f17 := ⟨a17, i17, k17⟩
  have F_Diagrams_node_of := fun_mk (st := s_Diagrams_node_of) l18 c18 k18
  have b_Diagrams_node_of := F_Diagrams_node_of.binds (ps := ["self", "condition"]) fun _ _ _ _ _ _ us hl => match us, hl with | [_, _], _ => rfl
  have m_Diagrams_node_of : Meth K C_Diagrams "node_of" f18 := ⟨a18, i18, k18⟩
  have F_Diagrams_node := fun_mk (st := s_Diagrams_node) l19 c19 k19
  have b_Diagrams_node := F_Diagrams_node.binds (ps := ["self", "entry", "without", "there"]) fun _ _ _ _ _ _ us hl => match us, hl with | [_, _, _, _], _ => rfl
  have m_Diagrams_node : Meth K C_Diagrams "node" f19 := ⟨a19, i19, k19⟩
  have F_Diagrams_combine := fun_mk (st := s_Diagrams_combine) l20 c20 k20
  have b_Diagrams_combine := F_Diagrams_combine.binds (ps := ["self", "condition", "first", "second"]) fun _ _ _ _ _ _ us hl => match us, hl with | [_, _, _, _], _ => rfl
  have m_Diagrams_combine : Meth K C_Diagrams "combine" f20 := ⟨a20, i20, k20⟩
  have F__law_draw := fun_mk (st := s__law_draw) l21 c21 k21
  have b__law_draw := F__law_draw.binds (ps := ["script"]) fun _ _ _ _ _ _ us hl => match us, hl with | [_], _ => rfl
  have g__law_draw := PySem.W.mg_of X G a21
  have F__law_next := fun_mk (st := s__law_next) l22 c22 k22
  have b__law_next := F__law_next.binds (ps := ["draw", "many"]) fun _ _ _ _ _ _ us hl => match us, hl with | [_, _], _ => rfl
  have g__law_next := PySem.W.mg_of X G a22
  have F__law_same := fun_mk (st := s__law_same) l23 c23 k23
  have b__law_same := F__law_same.binds (ps := ["actual", "due"]) fun _ _ _ _ _ _ us hl => match us, hl with | [_, _], _ => rfl
  have g__law_same := PySem.W.mg_of X G a23
  have F__law_entries := fun_mk (st := s__law_entries) l24 c24 k24
  have b__law_entries := F__law_entries.binds (ps := ["draw", "most"]) fun _ _ _ _ _ _ us hl => match us, hl with | [_, _], _ => rfl
  have g__law_entries := PySem.W.mg_of X G a24
  have F__law_tree := fun_mk (st := s__law_tree) l25 c25 k25
  have b__law_tree := F__law_tree.binds (ps := ["draw", "entries", "depth"]) fun _ _ _ _ _ _ us hl => match us, hl with | [_, _, _], _ => rfl
  have g__law_tree := PySem.W.mg_of X G a25
  have F__law_build := fun_mk (st := s__law_build) l26 c26 k26
  have b__law_build := F__law_build.binds (ps := ["store", "tree"]) fun _ _ _ _ _ _ us hl => match us, hl with | [_, _], _ => rfl
  have g__law_build := PySem.W.mg_of X G a26
  have F__law_true := fun_mk (st := s__law_true) l27 c27 k27
  have b__law_true := F__law_true.binds (ps := ["tree", "present"]) fun _ _ _ _ _ _ us hl => match us, hl with | [_, _], _ => rfl
  have g__law_true := PySem.W.mg_of X G a27
  have F__law_subsets := fun_mk (st := s__law_subsets) l28 c28 k28
  have b__law_subsets := F__law_subsets.binds (ps := ["entries"]) fun _ _ _ _ _ _ us hl => match us, hl with | [_], _ => rfl
  have g__law_subsets := PySem.W.mg_of X G a28
  have F__law_truth := fun_mk (st := s__law_truth) l29 c29 k29
  have b__law_truth := F__law_truth.binds (ps := ["tree", "entries"]) fun _ _ _ _ _ _ us hl => match us, hl with | [_, _], _ => rfl
  have g__law_truth := PySem.W.mg_of X G a29
  have F__law_fixed := fun_mk (st := s__law_fixed) l30 c30 k30
  have b__law_fixed := F__law_fixed.binds (ps := ["truth", "k", "there"]) fun _ _ _ _ _ _ us hl => match us, hl with | [_, _, _], _ => rfl
  have g__law_fixed := PySem.W.mg_of X G a30
  have F__law_top := fun_mk (st := s__law_top) l31 c31 k31
  have b__law_top := F__law_top.binds (ps := ["truth", "count"]) fun _ _ _ _ _ _ us hl => match us, hl with | [_, _], _ => rfl
  have g__law_top := PySem.W.mg_of X G a31
  have F__law_diagrams := fun_mk (st := s__law_diagrams) l32 c32 k32
  have b__law_diagrams := F__law_diagrams.binds (ps := ["truths", "count"]) fun _ _ _ _ _ _ us hl => match us, hl with | [_, _], _ => rfl
  have g__law_diagrams := PySem.W.mg_of X G a32
  have F__law_set_key := fun_mk (st := s__law_set_key) l33 c33 k33
  have b__law_set_key := F__law_set_key.binds (ps := ["members_v"]) fun _ _ _ _ _ _ us hl => match us, hl with | [_], _ => rfl
  have g__law_set_key := PySem.W.mg_of X G a33
  have F__law_within := fun_mk (st := s__law_within) l34 c34 k34
  have b__law_within := F__law_within.binds (ps := ["part", "whole"]) fun _ _ _ _ _ _ us hl => match us, hl with | [_, _], _ => rfl
  have g__law_within := PySem.W.mg_of X G a34
  have F__law_least := fun_mk (st := s__law_least) l35 c35 k35
  have b__law_least := F__law_least.binds (ps := ["sets"]) fun _ _ _ _ _ _ us hl => match us, hl with | [_], _ => rfl
  have g__law_least := PySem.W.mg_of X G a35
  have F__law_forces := fun_mk (st := s__law_forces) l36 c36 k36
  have b__law_forces := F__law_forces.binds (ps := ["truth", "subsets", "present", "part"]) fun _ _ _ _ _ _ us hl => match us, hl with | [_, _, _, _], _ => rfl
  have g__law_forces := PySem.W.mg_of X G a36
  have F__law_forcing := fun_mk (st := s__law_forcing) l37 c37 k37
  have b__law_forcing := F__law_forcing.binds (ps := ["truth", "entries", "present"]) fun _ _ _ _ _ _ us hl => match us, hl with | [_, _, _], _ => rfl
  have g__law_forcing := PySem.W.mg_of X G a37
  have F_law := fun_mk (st := s_law) l38 c38 k38
  have cl_Diagrams : Cls K C_Diagrams := ⟨pg_Diagrams, hd_Diagrams, po_Diagrams, sa_Diagrams⟩
  have g_Diagrams := PySem.W.mg_of X G aC_Diagrams
  have M : Mg mg := ⟨PySem.W.mg_none_of X G z_abs, PySem.W.mg_none_of X G z_all, PySem.W.mg_none_of X G z_any, PySem.W.mg_none_of X G z_bool, PySem.W.mg_none_of X G z_enumerate, PySem.W.mg_none_of X G z_int, PySem.W.mg_none_of X G z_isinstance, PySem.W.mg_none_of X G z_len, PySem.W.mg_none_of X G z_list, PySem.W.mg_none_of X G z_max, PySem.W.mg_none_of X G z_min, PySem.W.mg_none_of X G z_range, PySem.W.mg_none_of X G z_set, PySem.W.mg_none_of X G z_sorted, PySem.W.mg_none_of X G z_str, PySem.W.mg_none_of X G z_tuple⟩
  exact ⟨PySem.W.fnOf "law" "law" (defArgs s_law) (defBody s_law) (defScope s_law) .none kV38 dc38 pm38 an38 cd38 ct38, fun s v => .of_eq rfl, fun base _ _ => by
  have GD : DgC K C_Diagrams mg := ⟨cl_Diagrams, nf_Diagrams_kept, nf_Diagrams_numbers, nf_Diagrams_combined, ⟨_, PySem.W.mg_of X G w_NEVER, _, rfl⟩, ⟨_, PySem.W.mg_of X G w_ALWAYS, _, rfl⟩, ⟨_, PySem.W.mg_of X G w_FIRST_NODE, _, rfl⟩⟩
  have NOF := FnOk.clm (P := l.prog) (w := w) (base := base) (ok_nof F_Diagrams_node_of M GD) m_Diagrams_node_of cl_Diagrams b_Diagrams_node_of
  have NDE := FnOk.clm (P := l.prog) (w := w) (base := base) (ok_node F_Diagrams_node M GD) m_Diagrams_node cl_Diagrams b_Diagrams_node
  have TOP := FnOk.clm (ok_top F_Diagrams_top M GD NOF) m_Diagrams_top cl_Diagrams b_Diagrams_top
  have BRA := FnOk.clm (ok_bra F_Diagrams_branches M GD NOF) m_Diagrams_branches cl_Diagrams b_Diagrams_branches
  have CMB := cl_comb F_Diagrams_combine M GD m_Diagrams_combine b_Diagrams_combine NDE TOP BRA 6
  have THE := FnOk.clm (ok_there F_Diagrams_there M GD NDE) m_Diagrams_there cl_Diagrams b_Diagrams_there
  have CON := FnOk.clm (ok_conj F_Diagrams_conjunction M GD CMB) m_Diagrams_conjunction cl_Diagrams b_Diagrams_conjunction
  have DIS := FnOk.clm (ok_disj F_Diagrams_disjunction M GD CMB) m_Diagrams_disjunction cl_Diagrams b_Diagrams_disjunction
  have NEG := FnOk.clm (ok_neg F_Diagrams_negation M GD CMB) m_Diagrams_negation cl_Diagrams b_Diagrams_negation
  have DIF := FnOk.clm (ok_diff F_Diagrams_differs M GD CMB NEG) m_Diagrams_differs cl_Diagrams b_Diagrams_differs
  have DIN : ClC l.prog w K mg base 1 "Diagrams" C_Diagrams (sp_dinit C_Diagrams K) := ⟨_, _, _, ok_dinit F_Diagrams___init__ GD, mk0_Diagrams, g_Diagrams, b_Diagrams___init__⟩
  have N := FnOk.cl (P := l.prog) (w := w) (base := base) (ok_next F__law_next M) F__law_next g__law_next b__law_next
  have DR := FnOk.cl (P := l.prog) (w := w) (base := base) (ok_draw F__law_draw M) F__law_draw g__law_draw b__law_draw
  have LTR := cl_ltr F__law_tree M g__law_tree b__law_tree N
  have LBU := cl_build 6 F__law_build M g__law_build b__law_build THE CON DIS NEG DIF
  have LTU := cl_true (P := l.prog) (w := w) (base := base) F__law_true M g__law_true b__law_true
  have LSU := FnOk.cl (P := l.prog) (w := w) (base := base) (ok_subs F__law_subsets M) F__law_subsets g__law_subsets b__law_subsets

  have PE_R : PlE K mg C_TooManyReasons "TooManyReasons" := ⟨epq_TooManyReasons, PySem.W.mg_of X G epa_TooManyReasons, epk_TooManyReasons, eps_TooManyReasons, ept_TooManyReasons⟩
  have CA : Cat K C_TooManyReasons C_LineError C_SourceError := ⟨PySem.W.exm_ref ecs_TooManyReasons ech_TooManyReasons ect_TooManyReasons ecl_TooManyReasons, ⟨exg_TooManyReasons, exk_TooManyReasons, eps_TooManyReasons, exd_TooManyReasons, exa_TooManyReasons, exn_TooManyReasons, ext_TooManyReasons, exm_TooManyReasons⟩, kit_refT, kit_refF eob_TooManyReasons eod_TooManyReasons eot_TooManyReasons ek1_TooManyReasons ek2_TooManyReasons⟩
  have LIS := FnOk.clm (ok_listed F_Diagrams_listed M GD NOF) m_Diagrams_listed cl_Diagrams b_Diagrams_listed
  have TAB := FnOk.clm (ok_table F_Diagrams_table M GD LIS) m_Diagrams_table cl_Diagrams b_Diagrams_table
  have HOL := FnOk.clm (ok_holds F_Diagrams_holds M GD NOF) m_Diagrams_holds cl_Diagrams b_Diagrams_holds
  have DEP := FnOk.clm (ok_dep F_Diagrams_depends M GD TAB) m_Diagrams_depends cl_Diagrams b_Diagrams_depends
  have HAS := FnOk.cl (P := l.prog) (w := w) (base := base) (ok_has F_has_part M) F_has_part g_has_part b_has_part
  have LMS := FnOk.cl (ok_lms F_least_masks M HAS) F_least_masks g_least_masks b_least_masks
  have FNO := FnOk.clx (ok_fnode F_forcing_node M PE_R LMS) F_forcing_node g_forcing_node b_forcing_node
  have MBR := FnOk.cl (P := l.prog) (w := w) (base := base) (ok_mbr F_members M) F_members g_members b_members
  have SKY := FnOk.cl (P := l.prog) (w := w) (base := base) (ok_skeyP F_set_key M) F_set_key g_set_key b_set_key
  have RSN : ClNX l.prog w K mg base 10 "reasons" 3 ["most"] (fun us ws => us ++ ws) (sp_rsns C_Diagrams C_TooManyReasons K) := ⟨_, _, _, _, ok_rsns F_reasons M HOL NEG TAB DEP MBR FNO SKY, g_reasons, F_reasons.kp, bn_reasons⟩
  have SM := cl_same (P := l.prog) (w := w) (base := base) F__law_same M g__law_same b__law_same
  have LEN := FnOk.cl (ok_ents 5 F__law_entries M N) F__law_entries g__law_entries b__law_entries
  have LSN := FnOk.cl (P := l.prog) (w := w) (base := base) (ok_subsN F__law_subsets M) F__law_subsets g__law_subsets b__law_subsets
  have LSK := FnOk.cl (P := l.prog) (w := w) (base := base) (ok_lskey F__law_set_key M) F__law_set_key g__law_set_key b__law_set_key
  have LWI := FnOk.cl (P := l.prog) (w := w) (base := base) (ok_lwith F__law_within M) F__law_within g__law_within b__law_within
  have LLE := FnOk.cl (ok_lleast F__law_least M LSK LWI) F__law_least g__law_least b__law_least
  have LTT := FnOk.cl (ok_truth 10 F__law_truth M LSU (LTU 10)) F__law_truth g__law_truth b__law_truth
  have LFX := FnOk.cl (P := l.prog) (w := w) (base := base) (ok_fixed F__law_fixed M) F__law_fixed g__law_fixed b__law_fixed
  have LTP := FnOk.cl (ok_ltop F__law_top M LFX) F__law_top g__law_top b__law_top
  have LDI := FnOk.cl (ok_ldia F__law_diagrams M LFX LTP) F__law_diagrams g__law_diagrams b__law_diagrams
  have LFO := FnOk.cl (P := l.prog) (w := w) (base := base) (ok_lforces F__law_forces M) F__law_forces g__law_forces b__law_forces
  have LFI := FnOk.cl (ok_lforcing F__law_forcing M LSN LFO LLE) F__law_forcing g__law_forcing b__law_forcing
  exact ok_law F_law M (PySem.W.mg_of X G ea_LineError) (PySem.W.mg_of X G ea_SourceError) (PySem.W.mg_of X G epa_TooManyReasons) CA DR N LEN (LTR 6) DIN (LBU 9) (LTU 9) LTT LFI LDI RSN (SM 5)⟩
end Lw
open PySem PySem.W PyProof.Rows
set_option maxHeartbeats 0 in
theorem PySem.Challenge.cw_lineworks_k62_reasons_of_conditions_holds : PySem.Challenge.rw_lineworks_k62_reasons_of_conditions.Holds := by
  w_on; o_law; k_head; (case hw => w_witness2)
  k_fill
  refine L2.walk_of (l := PySem.Challenge.rw_lineworks_k62_reasons_of_conditions) (n := 63) (k := 20) (x := "script") (CX := fun _ => L2.CX0) (sp := fun w => Lw.sp_law _) rfl (by decide) rfl ⟨rfl, by decide, by decide⟩ (fun w h Y => PySem.W.kIn_of Y) ?F (fun _ _ a ns hl _ hS => ⟨a, ns, rfl, hS, hl, fun _ => rfl⟩) (fun _ _ _ _ _ h => h)
  case F =>
    intro w mg fa h KX G hmg
    refine' Lw.all_mk KX G hmg ?a0 ?l0 ?c0 ?k0 ?a1 ?l1 ?c1 ?k1 ?a2 ?l2 ?c2 ?k2 ?a3 ?l3 ?c3 ?k3 ?a4 ?l4 ?c4 ?k4 ?kd4_most ?a5 ?l5 ?c5 ?k5 ?a6 ?i6 ?l6 ?c6 ?k6 ?a7 ?i7 ?l7 ?c7 ?k7 ?a8 ?i8 ?l8 ?c8 ?k8 ?a9 ?i9 ?l9 ?c9 ?k9 ?a10 ?i10 ?l10 ?c10 ?k10 ?a11 ?i11 ?l11 ?c11 ?k11 ?a12 ?i12 ?l12 ?c12 ?k12 ?a13 ?i13 ?l13 ?c13 ?k13 ?a14 ?i14 ?l14 ?c14 ?k14 ?a15 ?i15 ?l15 ?c15 ?k15 ?a16 ?i16 ?l16 ?c16 ?k16 ?a17 ?i17 ?l17 ?c17 ?k17 ?a18 ?i18 ?l18 ?c18 ?k18 ?a19 ?i19 ?l19 ?c19 ?k19 ?a20 ?i20 ?l20 ?c20 ?k20 ?a21 ?l21 ?c21 ?k21 ?a22 ?l22 ?c22 ?k22 ?a23 ?l23 ?c23 ?k23 ?a24 ?l24 ?c24 ?k24 ?a25 ?l25 ?c25 ?k25 ?a26 ?l26 ?c26 ?k26 ?a27 ?l27 ?c27 ?k27 ?a28 ?l28 ?c28 ?k28 ?a29 ?l29 ?c29 ?k29 ?a30 ?l30 ?c30 ?k30 ?a31 ?l31 ?c31 ?k31 ?a32 ?l32 ?c32 ?k32 ?a33 ?l33 ?c33 ?k33 ?a34 ?l34 ?c34 ?k34 ?a35 ?l35 ?c35 ?k35 ?a36 ?l36 ?c36 ?k36 ?a37 ?l37 ?c37 ?k37 ?a38 ?l38 ?c38 ?k38 ?w_NEVER ?w_ALWAYS ?w_FIRST_NODE ?aC_Diagrams ?pg_Diagrams ?hd_Diagrams ?po_Diagrams ?sa_Diagrams ?mk_Diagrams ?kc_Diagrams ?nf_Diagrams_combined ?nf_Diagrams_kept ?nf_Diagrams_numbers ?z_abs ?z_all ?z_any ?z_bool ?z_enumerate ?z_int ?z_isinstance ?z_len ?z_list ?z_max ?z_min ?z_range ?z_set ?z_sorted ?z_str ?z_tuple ?epa_TooManyReasons ?epq_TooManyReasons ?epk_TooManyReasons ?eps_TooManyReasons ?ept_TooManyReasons ?ea_LineError ?ea_SourceError ?ecs_TooManyReasons ?ech_TooManyReasons ?ect_TooManyReasons ?ecl_TooManyReasons ?exg_TooManyReasons ?exk_TooManyReasons ?exd_TooManyReasons ?exa_TooManyReasons ?exn_TooManyReasons ?ext_TooManyReasons ?exm_TooManyReasons ?ek1_TooManyReasons ?ek2_TooManyReasons ?eob_TooManyReasons ?eod_TooManyReasons ?eot_TooManyReasons
    (case aC_Diagrams => k_is)
    (case pg_Diagrams => k_is)
    (case hd_Diagrams => k_is)
    (case po_Diagrams => k_is)
    (case sa_Diagrams => k_is)
    (case mk_Diagrams => k_is)
    (case kc_Diagrams => k_is)
    (case nf_Diagrams_combined => k_is)
    (case nf_Diagrams_kept => k_is)
    (case nf_Diagrams_numbers => k_is)
    (case a0 => k_is); (case l0 => k_is); (case c0 => k_is); (case k0 => k_is)
    (case a1 => k_is); (case l1 => k_is); (case c1 => k_is); (case k1 => k_is)
    (case a2 => k_is); (case l2 => k_is); (case c2 => k_is); (case k2 => k_is)
    (case a3 => k_is); (case l3 => k_is); (case c3 => k_is); (case k3 => k_is)
    (case a4 => k_is); (case l4 => k_is); (case c4 => k_is); (case k4 => k_is)
    (case kd4_most => k_is)
    (case a5 => k_is); (case l5 => k_is); (case c5 => k_is); (case k5 => k_is)
    (case a6 => k_is); (case i6 => k_is); (case l6 => k_is); (case c6 => k_is); (case k6 => k_is)
    (case a7 => k_is); (case i7 => k_is); (case l7 => k_is); (case c7 => k_is); (case k7 => k_is)
    (case a8 => k_is); (case i8 => k_is); (case l8 => k_is); (case c8 => k_is); (case k8 => k_is)
    (case a9 => k_is); (case i9 => k_is); (case l9 => k_is); (case c9 => k_is); (case k9 => k_is)
    (case a10 => k_is); (case i10 => k_is); (case l10 => k_is); (case c10 => k_is); (case k10 => k_is)
    (case a11 => k_is); (case i11 => k_is); (case l11 => k_is); (case c11 => k_is); (case k11 => k_is)
    (case a12 => k_is); (case i12 => k_is); (case l12 => k_is); (case c12 => k_is); (case k12 => k_is)
    (case a13 => k_is); (case i13 => k_is); (case l13 => k_is); (case c13 => k_is); (case k13 => k_is)
    (case a14 => k_is); (case i14 => k_is); (case l14 => k_is); (case c14 => k_is); (case k14 => k_is)
    (case a15 => k_is); (case i15 => k_is); (case l15 => k_is); (case c15 => k_is); (case k15 => k_is)
    (case a16 => k_is); (case i16 => k_is); (case l16 => k_is); (case c16 => k_is); (case k16 => k_is)
    (case a17 => k_is); (case i17 => k_is); (case l17 => k_is); (case c17 => k_is); (case k17 => k_is)
    (case a18 => k_is); (case i18 => k_is); (case l18 => k_is); (case c18 => k_is); (case k18 => k_is)
    (case a19 => k_is); (case i19 => k_is); (case l19 => k_is); (case c19 => k_is); (case k19 => k_is)
    (case a20 => k_is); (case i20 => k_is); (case l20 => k_is); (case c20 => k_is); (case k20 => k_is)
    (case a21 => k_is); (case l21 => k_is); (case c21 => k_is); (case k21 => k_is)
    (case a22 => k_is); (case l22 => k_is); (case c22 => k_is); (case k22 => k_is)
    (case a23 => k_is); (case l23 => k_is); (case c23 => k_is); (case k23 => k_is)
    (case a24 => k_is); (case l24 => k_is); (case c24 => k_is); (case k24 => k_is)
    (case a25 => k_is); (case l25 => k_is); (case c25 => k_is); (case k25 => k_is)
    (case a26 => k_is); (case l26 => k_is); (case c26 => k_is); (case k26 => k_is)
    (case a27 => k_is); (case l27 => k_is); (case c27 => k_is); (case k27 => k_is)
    (case a28 => k_is); (case l28 => k_is); (case c28 => k_is); (case k28 => k_is)
    (case a29 => k_is); (case l29 => k_is); (case c29 => k_is); (case k29 => k_is)
    (case a30 => k_is); (case l30 => k_is); (case c30 => k_is); (case k30 => k_is)
    (case a31 => k_is); (case l31 => k_is); (case c31 => k_is); (case k31 => k_is)
    (case a32 => k_is); (case l32 => k_is); (case c32 => k_is); (case k32 => k_is)
    (case a33 => k_is); (case l33 => k_is); (case c33 => k_is); (case k33 => k_is)
    (case a34 => k_is); (case l34 => k_is); (case c34 => k_is); (case k34 => k_is)
    (case a35 => k_is); (case l35 => k_is); (case c35 => k_is); (case k35 => k_is)
    (case a36 => k_is); (case l36 => k_is); (case c36 => k_is); (case k36 => k_is)
    (case a37 => k_is); (case l37 => k_is); (case c37 => k_is); (case k37 => k_is)
    (case a38 => k_is); (case l38 => k_is); (case c38 => k_is); (case k38 => k_is)
    (case w_NEVER => k_is)
    (case w_ALWAYS => k_is)
    (case w_FIRST_NODE => k_is)
    (case z_abs => k_is); (case z_all => k_is); (case z_any => k_is); (case z_bool => k_is); (case z_enumerate => k_is); (case z_int => k_is); (case z_isinstance => k_is); (case z_len => k_is); (case z_list => k_is); (case z_max => k_is); (case z_min => k_is); (case z_range => k_is); (case z_set => k_is); (case z_sorted => k_is); (case z_str => k_is); (case z_tuple => k_is)
    (case epa_TooManyReasons => k_is)
    (case epq_TooManyReasons => k_exc)
    (case epk_TooManyReasons => k_is)
    (case eps_TooManyReasons => k_is)
    (case ept_TooManyReasons => k_is)
    (case ea_LineError => k_is)
    (case ea_SourceError => k_is)
    (case ecs_TooManyReasons => k_is)
    (case ech_TooManyReasons => k_is)
    (case ect_TooManyReasons => k_is)
    (case ecl_TooManyReasons => k_is)
    (case exg_TooManyReasons => k_is)
    (case exk_TooManyReasons => k_is)
    (case exd_TooManyReasons => k_is)
    (case exa_TooManyReasons => k_is)
    (case exn_TooManyReasons => k_is)
    (case ext_TooManyReasons => k_is)
    (case exm_TooManyReasons => k_is)
    (case ek1_TooManyReasons => k_is)
    (case ek2_TooManyReasons => k_is)
    (case eob_TooManyReasons => k_is)
    (case eod_TooManyReasons => k_is)
    (case eot_TooManyReasons => k_is)

