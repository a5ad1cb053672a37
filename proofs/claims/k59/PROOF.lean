import PyProof.Rows.All
import Wide.All
import OpenK.AllK
import Wide.FinOn
import HandS.ForMost
import HandS.Wide
import HandS.IsInst
import HandS.Codes
import HandS.More
import HandS.Deep
import PySem.Challenge.RW_lineworks_k59_tables_tell_conditions
set_option Elab.async false
set_option linter.all false
set_option maxRecDepth 100000
namespace Lw
open PySem PySem.Spec PyProof.Rows L2
def topS (i : Nat) : Stmt := PySem.Challenge.pw_lineworks_k59_tables_tell_conditions.main.body.getD i (.Pass ⟨0, 0, 0, 0⟩)
abbrev s__wall : Stmt := topS 0
abbrev s_Diagrams___init__ : Stmt := inClass (topS 5) 0
abbrev N_Diagrams___init__ : List Str := ["self"]
theorem sc_Diagrams___init__ : FnScope N_Diagrams___init__ ["self"] (defScope s_Diagrams___init__) := ⟨rfl, rfl, rfl, by decide +kernel, rfl, by decide +kernel, by decide +kernel⟩
abbrev s_Diagrams_there : Stmt := inClass (topS 5) 1
abbrev N_Diagrams_there : List Str := ["self", "entry"]
theorem sc_Diagrams_there : FnScope N_Diagrams_there ["self", "entry"] (defScope s_Diagrams_there) := ⟨rfl, rfl, rfl, by decide +kernel, rfl, by decide +kernel, by decide +kernel⟩
abbrev s_Diagrams_conjunction : Stmt := inClass (topS 5) 2
abbrev N_Diagrams_conjunction : List Str := ["self", "first", "second"]
theorem sc_Diagrams_conjunction : FnScope N_Diagrams_conjunction ["self", "first", "second"] (defScope s_Diagrams_conjunction) := ⟨rfl, rfl, rfl, by decide +kernel, rfl, by decide +kernel, by decide +kernel⟩
abbrev s_Diagrams_disjunction : Stmt := inClass (topS 5) 3
abbrev N_Diagrams_disjunction : List Str := ["self", "first", "second"]
theorem sc_Diagrams_disjunction : FnScope N_Diagrams_disjunction ["self", "first", "second"] (defScope s_Diagrams_disjunction) := ⟨rfl, rfl, rfl, by decide +kernel, rfl, by decide +kernel, by decide +kernel⟩
abbrev s_Diagrams_negation : Stmt := inClass (topS 5) 4
abbrev N_Diagrams_negation : List Str := ["self", "condition"]
theorem sc_Diagrams_negation : FnScope N_Diagrams_negation ["self", "condition"] (defScope s_Diagrams_negation) := ⟨rfl, rfl, rfl, by decide +kernel, rfl, by decide +kernel, by decide +kernel⟩
abbrev s_Diagrams_differs : Stmt := inClass (topS 5) 5
abbrev N_Diagrams_differs : List Str := ["self", "first", "second"]
theorem sc_Diagrams_differs : FnScope N_Diagrams_differs ["self", "first", "second"] (defScope s_Diagrams_differs) := ⟨rfl, rfl, rfl, by decide +kernel, rfl, by decide +kernel, by decide +kernel⟩
abbrev s_Diagrams_restrict : Stmt := inClass (topS 5) 6
abbrev s_Diagrams_holds : Stmt := inClass (topS 5) 7
abbrev s_Diagrams_depends : Stmt := inClass (topS 5) 8
abbrev s_Diagrams_size : Stmt := inClass (topS 5) 9
abbrev N_Diagrams_size : List Str := ["self", "conditions", "nodes", "_"]
theorem sc_Diagrams_size : FnScope N_Diagrams_size ["self", "conditions"] (defScope s_Diagrams_size) := ⟨rfl, rfl, rfl, by decide +kernel, rfl, by decide +kernel, by decide +kernel⟩
abbrev s_Diagrams_implies : Stmt := inClass (topS 5) 10
abbrev s_Diagrams_helps : Stmt := inClass (topS 5) 11
abbrev s_Diagrams_hurts : Stmt := inClass (topS 5) 12
abbrev s_Diagrams_ways : Stmt := inClass (topS 5) 13
abbrev s_Diagrams_first_set : Stmt := inClass (topS 5) 14
abbrev s_Diagrams_table : Stmt := inClass (topS 5) 15
abbrev N_Diagrams_table : List Str := ["self", "condition", "nodes", "numbers"]
theorem sc_Diagrams_table : FnScope N_Diagrams_table ["self", "condition"] (defScope s_Diagrams_table) := ⟨rfl, rfl, rfl, by decide +kernel, rfl, by decide +kernel, by decide +kernel⟩
abbrev s_Diagrams_listed : Stmt := inClass (topS 5) 16
abbrev N_Diagrams_listed : List Str := ["self", "conditions", "nodes", "numbers", "left", "condition", "entry", "without", "there", "waiting", "part"]
theorem sc_Diagrams_listed : FnScope N_Diagrams_listed ["self", "conditions"] (defScope s_Diagrams_listed) := ⟨rfl, rfl, rfl, by decide +kernel, rfl, by decide +kernel, by decide +kernel⟩
abbrev s_Diagrams_top : Stmt := inClass (topS 5) 17
abbrev N_Diagrams_top : List Str := ["self", "conditions", "condition"]
theorem sc_Diagrams_top : FnScope N_Diagrams_top ["self", "conditions"] (defScope s_Diagrams_top) := ⟨rfl, rfl, rfl, by decide +kernel, rfl, by decide +kernel, by decide +kernel⟩
abbrev s_Diagrams_branches : Stmt := inClass (topS 5) 18
abbrev N_Diagrams_branches : List Str := ["self", "condition", "entry", "asked", "without", "there"]
theorem sc_Diagrams_branches : FnScope N_Diagrams_branches ["self", "condition", "entry"] (defScope s_Diagrams_branches) := ⟨rfl, rfl, rfl, by decide +kernel, rfl, by decide +kernel, by decide +kernel⟩
abbrev s_Diagrams_node_of : Stmt := inClass (topS 5) 19
abbrev N_Diagrams_node_of : List Str := ["self", "condition"]
theorem sc_Diagrams_node_of : FnScope N_Diagrams_node_of ["self", "condition"] (defScope s_Diagrams_node_of) := ⟨rfl, rfl, rfl, by decide +kernel, rfl, by decide +kernel, by decide +kernel⟩
abbrev s_Diagrams_node : Stmt := inClass (topS 5) 20
abbrev N_Diagrams_node : List Str := ["self", "entry", "without", "there", "made"]
theorem sc_Diagrams_node : FnScope N_Diagrams_node ["self", "entry", "without", "there"] (defScope s_Diagrams_node) := ⟨rfl, rfl, rfl, by decide +kernel, rfl, by decide +kernel, by decide +kernel⟩
abbrev s_Diagrams_combine : Stmt := inClass (topS 5) 21
abbrev N_Diagrams_combine : List Str := ["self", "condition", "first", "second", "asked", "entry", "without", "there", "first_without", "first_there", "second_without", "second_there"]
theorem sc_Diagrams_combine : FnScope N_Diagrams_combine ["self", "condition", "first", "second"] (defScope s_Diagrams_combine) := ⟨rfl, rfl, rfl, by decide +kernel, rfl, by decide +kernel, by decide +kernel⟩
abbrev s__law_draw : Stmt := topS 7
abbrev N__law_draw : List Str := ["script"]
theorem sc__law_draw : FnScope N__law_draw ["script"] (defScope s__law_draw) := ⟨rfl, rfl, rfl, by decide +kernel, rfl, by decide +kernel, by decide +kernel⟩
abbrev s__law_next : Stmt := topS 8
abbrev N__law_next : List Str := ["draw", "many", "found", "cell"]
theorem sc__law_next : FnScope N__law_next ["draw", "many"] (defScope s__law_next) := ⟨rfl, rfl, rfl, by decide +kernel, rfl, by decide +kernel, by decide +kernel⟩
abbrev s__law_same : Stmt := topS 9
abbrev N__law_same : List Str := ["actual", "due", "k"]
theorem sc__law_same : FnScope N__law_same ["actual", "due"] (defScope s__law_same) := ⟨rfl, rfl, rfl, by decide +kernel, rfl, by decide +kernel, by decide +kernel⟩
abbrev s__law_entries : Stmt := topS 10
abbrev N__law_entries : List Str := ["draw", "most", "entries", "last", "k"]
theorem sc__law_entries : FnScope N__law_entries ["draw", "most"] (defScope s__law_entries) := ⟨rfl, rfl, rfl, by decide +kernel, rfl, by decide +kernel, by decide +kernel⟩
abbrev s__law_tree : Stmt := topS 11
abbrev N__law_tree : List Str := ["draw", "entries", "depth", "form", "first"]
theorem sc__law_tree : FnScope N__law_tree ["draw", "entries", "depth"] (defScope s__law_tree) := ⟨rfl, rfl, rfl, by decide +kernel, rfl, by decide +kernel, by decide +kernel⟩
abbrev s__law_build : Stmt := topS 12
abbrev N__law_build : List Str := ["store", "tree", "first", "second"]
theorem sc__law_build : FnScope N__law_build ["store", "tree"] (defScope s__law_build) := ⟨rfl, rfl, rfl, by decide +kernel, rfl, by decide +kernel, by decide +kernel⟩
abbrev s__law_true : Stmt := topS 13
abbrev N__law_true : List Str := ["tree", "present", "first", "second"]
theorem sc__law_true : FnScope N__law_true ["tree", "present"] (defScope s__law_true) := ⟨rfl, rfl, rfl, by decide +kernel, rfl, by decide +kernel, by decide +kernel⟩
abbrev s__law_subsets : Stmt := topS 14
abbrev N__law_subsets : List Str := ["entries", "found", "entry", "part"]
theorem sc__law_subsets : FnScope N__law_subsets ["entries"] (defScope s__law_subsets) := ⟨rfl, rfl, rfl, by decide +kernel, rfl, by decide +kernel, by decide +kernel⟩
abbrev s__law_truth : Stmt := topS 15
abbrev N__law_truth : List Str := ["tree", "entries", "part"]
theorem sc__law_truth : FnScope N__law_truth ["tree", "entries"] (defScope s__law_truth) := ⟨rfl, rfl, rfl, by decide +kernel, rfl, by decide +kernel, by decide +kernel⟩
abbrev s__law_fixed : Stmt := topS 16
abbrev N__law_fixed : List Str := ["truth", "k", "there", "step", "j", "found", "at", "base"]
theorem sc__law_fixed : FnScope N__law_fixed ["truth", "k", "there"] (defScope s__law_fixed) := ⟨rfl, rfl, rfl, by decide +kernel, rfl, by decide +kernel, by decide +kernel⟩
abbrev s__law_top : Stmt := topS 17
abbrev N__law_top : List Str := ["truth", "count", "k"]
theorem sc__law_top : FnScope N__law_top ["truth", "count"] (defScope s__law_top) := ⟨rfl, rfl, rfl, by decide +kernel, rfl, by decide +kernel, by decide +kernel⟩
abbrev s__law_diagrams : Stmt := topS 18
abbrev N__law_diagrams : List Str := ["truths", "count", "found", "waiting", "truth", "k"]
theorem sc__law_diagrams : FnScope N__law_diagrams ["truths", "count"] (defScope s__law_diagrams) := ⟨rfl, rfl, rfl, by decide +kernel, rfl, by decide +kernel, by decide +kernel⟩
abbrev s__law_listed : Stmt := topS 19
abbrev N__law_listed : List Str := ["truth", "entries", "known", "k"]
theorem sc__law_listed : FnScope N__law_listed ["truth", "entries", "known"] (defScope s__law_listed) := ⟨rfl, rfl, rfl, by decide +kernel, rfl, by decide +kernel, by decide +kernel⟩
abbrev s__law_number : Stmt := topS 20
abbrev N__law_number : List Str := ["truth", "known"]
theorem sc__law_number : FnScope N__law_number ["truth", "known"] (defScope s__law_number) := ⟨rfl, rfl, rfl, by decide +kernel, rfl, by decide +kernel, by decide +kernel⟩
abbrev s_law : Stmt := topS 21
abbrev N_law : List Str := ["script", "draw", "entries", "store", "k", "trees", "conditions", "truths", "known", "nodes", "truth", "at", "parts", "many", "handed", "kept", "due", "tree", "side"]
theorem sc_law : FnScope N_law ["script"] (defScope s_law) := ⟨rfl, rfl, rfl, by decide +kernel, rfl, by decide +kernel, by decide +kernel⟩
/-! ### heaps and calls -/
theorem same_upd {H : Hp} {p : Addr} {o : HO} (h : H p = none) : Same H (upd H p o) := fun b x e => by
  rw [upd_ne (ne_of_none e h)]
  exact e
/-- what stood stands, but for the object at d -/
def Fd (d : Addr) (H H' : Hp) : Prop := ∀ b o, b ≠ d → H b = some o → H' b = some o
theorem Fd.refl (d : Addr) (H : Hp) : Fd d H H := fun _ _ _ e => e
theorem Fd.trans {d : Addr} {H H1 H2 : Hp} (a : Fd d H H1) (b : Fd d H1 H2) : Fd d H H2 := fun c o n e => b c o n (a c o n e)
theorem Fd.of {d : Addr} {H H' : Hp} (a : Same H H') : Fd d H H' := fun b o _ e => a b o e
theorem Fd.new {d : Addr} {H : Hp} {p : Addr} {o : HO} (h : H p = none) : Fd d H (upd H p o) := Fd.of (same_upd h)
theorem Fd.at {d : Addr} {H : Hp} {o : HO} : Fd d H (upd H d o) := fun b x n e => by
  rw [upd_ne n]
  exact e
/-- a def that may be called by its name -/
structure Cl (P : Program) (w : World) (K : PySem.W.Frag) (mg : Str → Option Value) (base : Heap) (k : Nat) (x : Str) (sp : Sp) : Prop where
  ex : ∃ (f : Addr) (fd : FuncData) (ps : List Str), FnOk P w K mg base CX0 k f fd ps sp ∧ mg x = some (.ref f) ∧ PySem.W.keepIn K (.ref f) = true ∧ Binds K fd ps []
section
variable {X : Cx} {k j : Nat} {x : Str} {sp : Sp} {p pos : Pos} {e : Expr} {es : List Expr} {t : TA}
theorem pe_u (c : Cl X.prog X.w X.K X.mg X.base k x sp) (hr : Room j X.A) (hk : k ≤ j) (hg : Gl X x) (ha : PA X (e :: es) t)
    (hdb : (x == ("__debug__" : Str)) = false := by decide) (he : starEach (e :: es) X.env = (false, eval e X.env) :: starEach es X.env := by rfl) (hpl : (backTo pos (starEach es X.env)).any (·.1) = false := by rfl) :
    PE X (.Call (.Name x p) (e :: es) [] pos) (tCall sp [] E0 t) := by
  obtain ⟨f, fd, ps, F, hm, kp, b⟩ := c.ex
  exact pe_call F (hr.mono hk) hg hm kp b .nil pass0 ha hdb he hpl
theorem pe_u0 (c : Cl X.prog X.w X.K X.mg X.base k x sp) (hr : Room j X.A) (hk : k ≤ j) (hg : Gl X x) (hdb : (x == ("__debug__" : Str)) = false := by decide) : PE X (.Call (.Name x p) [] [] pos) (tCall sp [] E0 tNil) := by
  obtain ⟨f, fd, ps, F, hm, kp, b⟩ := c.ex
  exact pe_call0 F (hr.mono hk) hg hm kp b .nil pass0 hdb
end
theorem FnOk.cl {P : Program} {w : World} {K : PySem.W.Frag} {mg : Str → Option Value} {base : Heap} {k : Nat} {x q : Str} {st : Stmt} {f : Addr} {fd : FuncData} {ps : List Str} {sp : Sp} (h : FnOk P w K mg base CX0 k f fd ps sp) (F : Fun K x q st f fd) (g : mg x = some (.ref f)) (b : Binds K fd ps []) : Cl P w K mg base k x sp := ⟨f, fd, ps, h, g, F.kp, b⟩
/-! ### rules with the written part named (within a comprehension) -/
section
variable {X : Cx} (K : PySem.W.Frag)
theorem ix_listK (h : X.K = K := by rfl) : IxR X (rIxL K) := by subst h; exact ix_list
theorem ix_tupK (h : X.K = K := by rfl) : IxR X (rIxT K) := by subst h; exact ix_tup
theorem ix_seqK (h : X.K = K := by rfl) : IxR X (rIx K) := by subst h; exact ix_seq
theorem len_seqK (h : X.K = K := by rfl) : CallR X (.builtin "len") (fun xs H Q => ∃ p ys, xs = [.ref p] ∧ (SqL K H p ys ∨ SqT K H p ys) ∧ Q (.int ys.length) H) := by subst h; exact call_len_seq
theorem isiK (h : X.K = K := by rfl) : CallR X (.builtin "isinstance") (rIsi K) := by subst h; exact call_isi
theorem isiTK (h : X.K = K := by rfl) : CallR X (.builtin "isinstance") (rIsiT K) := by subst h; exact call_isiT
theorem allK (hc : X.calm = true) (h : X.K = K := by rfl) : CallR X (.builtin "all") (rAll K) := by subst h; exact cr_all hc
theorem listK (h : X.K = K := by rfl) : CallR X (.type "list") (fun xs H Q => ∃ p ys, xs = [.ref p] ∧ (SqL K H p ys ∨ SqT K H p ys) ∧ ∀ l, H l = none → Q (.ref l) (upd H l (.lst ys))) := by subst h; exact call_list_of
theorem tupleK (h : X.K = K := by rfl) : CallR X (.type "tuple") (fun xs H Q => ∃ p ys, xs = [.ref p] ∧ ((SqL K H p ys ∧ ∀ l, H l = none → Q (.ref l) (upd H l (.tup ys))) ∨ (SqT K H p ys ∧ Q (.ref p) H))) := by subst h; exact call_tuple_of
theorem inK (h : X.K = K := by rfl) : OpR X (compareOp .In) (rIn K false) := by subst h; exact op_in_seq
theorem notInK (h : X.K = K := by rfl) : OpR X (compareOp .NotIn) (rIn K true) := by subst h; exact op_notIn_seq
theorem pe_bmK {T : String} {name : Str} {id : String} {r : V → List V → Hp → VK → Prop} {o e : Expr} {es : List Expr} {to : TE} {t : TA} {apos cpos : Pos} (pa : PlainAttrs T) (slot : Slot T name id) (hty : typeOf (.builtin id) = pure (.type "method_descriptor")) (hm : MtR X id r) (ho : PE X o to) (ha : PA X (e :: es) t) (hK : X.K = K := by rfl)
    (hbase : attributeBase o name X.env (eval o X.env) = eval o X.env := by rfl)
    (hfew : ((backTo cpos (starEach (e :: es) X.env)).all (fun x => !x.1) && (backToKw cpos (keywordEach [] X.env)).all (fun x => x.1.isSome)
      && decide ((e :: es).length + ([] : List Keyword).length + (if ([] : List Keyword).isEmpty then 0 else 1) < 30)) = true := by rfl)
    (hline : (apos.endLine == cpos.line) = true := by rfl) (hs : starEach (e :: es) X.env = (false, eval e X.env) :: starEach es X.env := by rfl) (hplain : (backTo cpos (starEach es X.env)).any (·.1) = false := by rfl) :
    PE X (.Call (.Attribute o name apos) (e :: es) [] cpos) (tBM K T r to t) := by subst hK; exact pe_bm pa slot hty hm ho ha hbase hfew hline hs hplain
theorem pt_truthK {a : Expr} {ta : TE} (ha : PE X a ta) (he : ∀ whole, isTrue a X.env whole = (do let v ← whole; standAt a.pos; holding [v] (truthy v))) (h : X.K = K := by rfl) : PT X a (fun σ H Q => ta σ H fun x H' => ∃ k, TruV K x H' k ∧ Q k H') := by subst h; exact pt_truth ha he
theorem eqDK (hu : X.A.units + 64 < cLine) (h : X.K = K := by rfl) : OpR X (compareOp .Eq) (rEqD K) := by subst h; exact op_eqD hu
theorem neDK (hu : X.A.units + 64 < cLine) (h : X.K = K := by rfl) : OpR X (compareOp .NotEq) (rNeD K) := by subst h; exact op_neD hu
end
/-- over the signs of a text -/
theorem for_strs {x : Str} {g : TG} {tb : TS} {D : Ends} {σ : L2.St} {H : Hp} (Pv : Nat → L2.St → Hp → Prop) (h0 : Pv 0 σ H)
    (hs : ∀ i c σ H, x.cps.toList[i]? = some c → Pv i σ H → g (.str ⟨#[c]⟩) σ H fun σ2 H2 => tb { D with nx := Pv (i + 1), ct := Pv (i + 1), bk := D.nx } σ2 H2) (hd : ∀ σ H, Pv x.cps.toList.length σ H → D.nx σ H) :
    ∃ W : Nat → Nat → L2.St → Hp → Prop, (∃ m, W 0 m σ H) ∧ ∀ i m σ H, W i m σ H →
      ((Its x).stop i H ∧ D.nx σ H) ∨ ((Its x).go i H ∧ ∃ N : L2.St → Hp → Prop, (∀ σ' H', N σ' H' → ∃ m', m' < m ∧ W (i + 1) m' σ' H') ∧ ∀ v H', (Its x).yld i H v H' → g v σ H' fun σ2 H2 => tb { D with nx := N, ct := N, bk := D.nx } σ2 H2) := by
  have es : x.cps.toList.length = x.cps.size := by simp
  refine ⟨fun i m σ H => m = x.cps.size - i ∧ i ≤ x.cps.size ∧ Pv i σ H, ⟨x.cps.size, by simp, Nat.zero_le _, h0⟩, ?_⟩
  rintro i m σ H ⟨rfl, hi, p⟩
  by_cases hlt : i < x.cps.size
  · refine .inr ⟨hlt, Pv (i + 1), fun σ' H' p' => ⟨x.cps.size - (i + 1), by omega, rfl, hlt, p'⟩, fun v H' y => ?_⟩
    obtain ⟨e, c, hc, rfl⟩ := y
    subst e
    exact hs i c σ _ (by rw [Array.getElem?_toList]; exact hc) p
  · have e : i = x.cps.size := by omega
    subst e
    exact .inl ⟨Nat.le_refl _, hd σ H (by rw [es]; exact p)⟩
theorem joinL0 : ∀ ps : List (List Nat), TL.joinL [] ps = ps.flatten
  | [] => rfl
  | [p] => by
    show p = p ++ []
    rw [List.append_nil]
  | p :: q :: r => by
    show p ++ ([] ++ TL.joinL [] (q :: r)) = p ++ (q :: r).flatten
    rw [joinL0 (q :: r), List.nil_append]
theorem join0 (ys : List Str) : Txt.join ⟨#[]⟩ ys = ⟨((ys.map TL.tl).flatten).toArray⟩ := by
  refine TL.ext_tl ?_
  rw [TL.join_eq, TL.tl_join]
  show TL.joinL [] _ = _
  rw [joinL0]
theorem flat_len : ∀ ys : List Str, ((ys.map TL.tl).flatten).length = (ys.map (·.length)).sum
  | [] => rfl
  | y :: ys => by
    rw [List.map_cons, List.flatten_cons, List.length_append, flat_len ys, List.map_cons, List.sum_cons]
    show y.cps.toList.length + _ = _
    rw [Array.length_toList]
    rfl
theorem S_len' (l : List Nat) : (⟨l.toArray⟩ : Str).length = l.length := by simp [Str.length]
theorem cut_to (l : List Nat) {o : Nat} (h : o ≤ l.length) : cutS ⟨l.toArray⟩ none (some (o : Int)) = ⟨(l.take o).toArray⟩ := by
  unfold cutS
  rw [HT.sIx_none, HT.sIx_nat, S_len', Nat.sub_zero, Nat.min_eq_left h]
  show (⟨((l.drop 0).take o).toArray⟩ : Str) = _
  rw [List.drop_zero]
theorem str1 (c : Nat) (d : Nat) : decide (V.str ⟨#[c]⟩ = V.str ⟨#[d]⟩) = decide (c = d) := by
  by_cases h : c = d
  · subst h
    rw [decide_eq_true rfl, decide_eq_true rfl]
  · rw [decide_eq_false h, decide_eq_false]
    intro e
    have e1 := V.str.inj e
    have e2 := Array.toList_inj.mpr (Str.mk.inj e1)
    exact h (by simpa using e2)
def tx (l : List Nat) : V := .str ⟨l.toArray⟩
/-- a comprehension's scope within another scope -/
def relS (scope sc : Scope) : Scope := { scope with names := scope.names.map fun (n, k) => if (k == .free && sc.kind == .function && sc.names.lookup n == some .cell) then (n, .cell) else (n, k) }
theorem anyK {X : Cx} (K : PySem.W.Frag) (hc : X.calm = true) (h : X.K = K := by rfl) : CallR X (.builtin "any") (rAny K) := by subst h; exact cr_any hc
theorem pi_listK {X : Cx} (K : PySem.W.Frag) {l tg : Expr} {tl : TE} (hl : PE X l tl) (h : X.K = K := by rfl) : PI X tg l (iList K tl) := by subst h; exact pi_list hl
theorem pi_tupK {X : Cx} (K : PySem.W.Frag) {l tg : Expr} {tl : TE} (hl : PE X l tl) (h : X.K = K := by rfl) : PI X tg l (iTup K tl) := by subst h; exact pi_tup hl

structure Mg (mg : Str → Option Value) : Prop where
  abs : mg "abs" = none
  all : mg "all" = none
  bool : mg "bool" = none
  int : mg "int" = none
  isinstance : mg "isinstance" = none
  len : mg "len" = none
  list : mg "list" = none
  min : mg "min" = none
  range : mg "range" = none
  str : mg "str" = none
  tuple : mg "tuple" = none
/-! ### the law's draws: a list of the script's copy, a place in it, what is left of a great number, a seed -/
def Dr (H : Hp) (d c : Addr) : Prop := c ≠ d ∧ ∃ (ns : List Int) (pos rest seed : Int), H d = some (.lst [.ref c, .int pos, .int rest, .int seed]) ∧ H c = some (.lst (ns.map V.int)) ∧ 0 ≤ pos ∧ 0 ≤ rest ∧ 0 ≤ seed ∧ seed < 2147483647
theorem Dr.ext {H H' : Hp} {d c : Addr} (h : Dr H d c) (e : Same H H') : Dr H' d c := by
  obtain ⟨n, ns, pos, rest, seed, h1, h2, r⟩ := h
  exact ⟨n, ns, pos, rest, seed, e _ _ h1, e _ _ h2, r⟩
theorem Dr.upd {H : Hp} {d c p : Addr} {o : HO} (h : Dr H d c) (n1 : p ≠ d) (n2 : p ≠ c) : Dr (upd H p o) d c := by
  obtain ⟨n, ns, pos, rest, seed, h1, h2, r⟩ := h
  exact ⟨n, ns, pos, rest, seed, by rw [upd_ne n1.symm]; exact h1, by rw [upd_ne n2.symm]; exact h2, r⟩
theorem Dr.nd {H : Hp} {d c p : Addr} (h : Dr H d c) (n : H p = none) : p ≠ d := by
  obtain ⟨_, ns, pos, rest, seed, h1, _⟩ := h
  exact (ne_of_none h1 n).symm
theorem Dr.nc {H : Hp} {d c p : Addr} (h : Dr H d c) (n : H p = none) : p ≠ c := by
  obtain ⟨_, ns, pos, rest, seed, _, h2, _⟩ := h
  exact (ne_of_none h2 n).symm
theorem Dr.lst {H : Hp} {d c : Addr} (h : Dr H d c) : ∃ zs, H d = some (.lst zs) := by
  obtain ⟨_, ns, pos, rest, seed, h1, _⟩ := h
  exact ⟨_, h1⟩
theorem Dr.lift {H H' : Hp} {d c d' c' : Addr} (_h : Dr H d c) (h' : Dr H' d' c') : Dr H' d' c' := h'
def sp_draw (K : PySem.W.Frag) : Sp := fun vs H Q _ => ∃ (a : Addr) (ns : List Int), vs = [.ref a] ∧ SqL K H a (ns.map V.int) ∧ ∀ H' d c, Same H H' → H d = none → Dr H' d c → Q (.ref d) H'
/-- a draw: some number below many -/
def sp_next : Sp := fun vs H Q _ => ∃ (d c : Addr) (many : Int), vs = [.ref d, .int many] ∧ Dr H d c ∧ 1 ≤ many ∧ many < 2 ^ 64 ∧ ∀ H' r, Fd d H H' → (∀ p, p ≠ d → H' p = H p) → Dr H' d c → 0 ≤ r → r < many → Q (.int r) H'
section
variable {P : Program} {w : World} {K : PySem.W.Frag} {mg : Str → Option Value} {base : Heap}
theorem ok_draw {f : Addr} {fd : FuncData} (F : Fun K "_law_draw" "_law_draw" s__law_draw f fd) (M : Mg mg) : FnOk P w K mg base CX0 1 f fd ["script"] (sp_draw K) := by
  refine F.ok sc__law_draw (fun vs H Q E h => ?_) (fun cdv A outer s H vs Q E hr h => ?_)
  · obtain ⟨a, ns, rfl, _⟩ := h
    rfl
  · obtain ⟨a, ns, rfl, hS, q⟩ := h
    refine ⟨_, (pss_one (ps_ret (pe_lst (pa_cons (pe_callTy (listK K) (by rfl) M.list (by decide +kernel) (pa_cons (pv 0) pa_nil)) (pa_cons pe_int (pa_cons pe_int (pa_cons pe_int pa_nil))))))), ?_⟩
    refine ⟨_, rfl, a, _, rfl, .inl hS, fun c nc => ?_⟩
    refine ⟨by show 4 ≤ sizeLine; decide, fun d nd => ?_⟩
    have hc : (upd H c (.lst (ns.map V.int))) c = some (.lst (ns.map V.int)) := upd_same
    have ncd : c ≠ d := ne_of_none hc nd
    have s1 := (same_upd nc (o := .lst (ns.map V.int))).trans (same_upd nd (o := .lst [.ref c, .int 0, .int 0, .int 17]))
    refine q _ d c s1 ((same_upd nc).free nd) ⟨ncd, ns, 0, 0, 17, upd_same, ?_, by decide, by decide, by decide, by decide⟩
    rw [upd_ne ncd]
    exact hc
theorem next_aux {H : Hp} {d c : Addr} {xs' : List V} {pos rest seed : Int} {ns : List Int} (hn : c ≠ d) (h2 : H c = some (.lst (ns.map V.int))) (hx : xs' = [.ref c, .int pos, .int rest, .int seed]) (h0 : 0 ≤ pos) (h1 : 0 ≤ rest) (h3 : 0 ≤ seed) (h4 : seed < 2147483647) : Dr (upd H d (.lst xs')) d c := by
  subst hx
  refine ⟨hn, ns, pos, rest, seed, upd_same, ?_, h0, h1, h3, h4⟩
  rw [upd_ne hn]
  exact h2
theorem ok_next {f : Addr} {fd : FuncData} (F : Fun K "_law_next" "_law_next" s__law_next f fd) (M : Mg mg) : FnOk P w K mg base CX0 1 f fd ["draw", "many"] sp_next := by
  refine F.ok sc__law_next (fun vs H Q E h => ?_) (fun cdv A outer s H vs Q E hr h => ?_)
  · obtain ⟨d, c, many, rfl, _⟩ := h
    rfl
  · obtain ⟨d, c, many, rfl, ⟨ncd, ns, pos, rest, seed, h1, h2, h0, h3, h4, h5⟩, hm1, hm2, q⟩ := h
    have hdv : ∀ x : Int, CDivW x many := fun x => wide_div (b := 64) (by omega) (by omega) (by decide) (by decide)
    have hcd : d ≠ c := ncd.symm
    have L0 : SqL K H d [.ref c, .int pos, .int rest, .int seed] := .of h1
    have at0 : ∀ (a b e g : V), atI [a, b, e, g] (0 : Int) = some a := fun a b e g => atI_nat (j := 0) rfl
    have at1 : ∀ (a b e g : V), atI [a, b, e, g] (1 : Int) = some b := fun a b e g => atI_nat (j := 1) rfl
    have at2 : ∀ (a b e g : V), atI [a, b, e, g] (2 : Int) = some e := fun a b e g => atI_nat (j := 2) rfl
    have at3 : ∀ (a b e g : V), atI [a, b, e, g] (3 : Int) = some g := fun a b e g => atI_nat (j := 3) rfl
    have fr : ∀ (H0 : Hp) (o : HO), (∀ p, p ≠ d → H0 p = H p) → (∀ p, p ≠ d → (upd H0 d o) p = H p) := fun H0 o e p n => by rw [upd_ne n]; exact e p n
    have fF : ∀ (H0 : Hp), (∀ p, p ≠ d → H0 p = H p) → Fd d H H0 := fun H0 e b o n h => by rw [e b n]; exact h
    -- the last row's value
    have last : ∀ (seed' : Int), 0 ≤ seed' → seed' < 2147483647 → ∀ H0 : Hp, (∀ p, p ≠ d → H0 p = H p) → (∃ pos rest, H0 d = some (.lst [.ref c, .int pos, .int rest, .int seed']) ∧ 0 ≤ pos ∧ 0 ≤ rest) → Q (.int ((seed' * 69621 % 2147483629 / 7) % many)) H0 := by
      intro seed' g0 g1 H0 e ⟨pos', rest', g2, g3, g4⟩
      exact q H0 _ (fF _ e) e ⟨ncd, ns, pos', rest', seed', g2, by rw [e c ncd]; exact h2, g3, g4, g0, g1⟩ (Int.emod_nonneg _ (by omega)) (Int.emod_lt_of_pos _ (by omega))
    refine ⟨_, (pss_cons (ps_if (pt_cmpR op_gt (pe_ix (ix_listK K) (pv 0) pe_int (fun _ _ => rfl)) pe_int (nomark _)) (pss_cons (ps_set (i := 2) sc__law_next.nd rfl (.inl rfl) (pe_op op_mod (pe_callTy call_int1 (by rfl) M.int (by decide +kernel) (pa_cons (pe_ix (ix_listK K) (pv 0) pe_int (fun _ _ => rfl)) pa_nil)) (pv 1)))
      (pss_cons (ps_asg (pe_op op_fdivW (pe_ix (ix_listK K) (pv 0) pe_int (fun _ _ => rfl)) (pv 1)) (pg_sub (pv 0) pe_int set_list))
      (pss_one (ps_ret (pv 2))))) pss_nil)
      (pss_cons (ps_if (pt_cmpR op_lt (pe_ix (ix_listK K) (pv 0) pe_int (fun _ _ => rfl)) (pe_callB (len_seqK K) (by rfl) M.len PySem.boot_len (pa_cons (pe_ix (ix_listK K) (pv 0) pe_int (fun _ _ => rfl)) pa_nil)) (nomark _)) (pss_cons (ps_set (i := 3) sc__law_next.nd rfl (.inl rfl) (pe_callB call_abs (by rfl) M.abs (by decide +kernel) (pa_cons (pe_ix (ix_listK K) (pe_ix (ix_listK K) (pv 0) pe_int (fun _ _ => rfl)) (pe_ix (ix_listK K) (pv 0) pe_int (fun _ _ => rfl)) (fun _ _ => rfl)) pa_nil)))
      (pss_cons (ps_asg (pe_op op_add (pe_ix (ix_listK K) (pv 0) pe_int (fun _ _ => rfl)) pe_int) (pg_sub (pv 0) pe_int set_list))
      (pss_cons (ps_if (pt_cmpR op_ge (pv 3) (pe_op op_pow pe_int pe_int) (nomark _)) (pss_cons (ps_asg (pe_op op_fdivW (pv 3) (pv 1)) (pg_sub (pv 0) pe_int set_list))
      (pss_one (ps_ret (pe_op op_mod (pe_callTy call_int1 (by rfl) M.int (by decide +kernel) (pa_cons (pv 3) pa_nil)) (pv 1))))) pss_nil)
      (pss_one (ps_asg (pe_op op_mod (pe_callTy call_int1 (by rfl) M.int (by decide +kernel) (pa_cons (pe_op op_add (pe_op op_add (pe_op op_mul (pe_ix (ix_listK K) (pv 0) pe_int (fun _ _ => rfl)) pe_int) (pv 3)) pe_int) pa_nil)) pe_int) (pg_sub (pv 0) pe_int set_list)))))) (pss_one (ps_asg (pe_op op_mod (pe_callTy call_int1 (by rfl) M.int (by decide +kernel) (pa_cons (pe_op op_add (pe_op op_mul (pe_ix (ix_listK K) (pv 0) pe_int (fun _ _ => rfl)) pe_int) pe_int) pa_nil)) pe_int) (pg_sub (pv 0) pe_int set_list))))
      (pss_one (ps_ret (pe_op op_mod (pe_op op_fdivW (pe_callTy call_int1 (by rfl) M.int (by decide +kernel) (pa_cons (pe_op op_mod (pe_op op_mul (pe_ix (ix_listK K) (pv 0) pe_int (fun _ _ => rfl)) pe_int) pe_int) pa_nil)) pe_int) (pv 1)))))), ?_⟩
    refine ⟨_, rfl, d, _, 2, .int rest, rfl, rfl, L0, at2 .., ?_⟩
    refine ⟨_, _, rfl, rfl, _, rfl, ite2 (fun e => ?_) (fun e => ?_)⟩
    · -- draw[2] > 0
      have hr0 : 0 < rest := of_decide_eq_true e
      refine ⟨_, rfl, d, _, 2, .int rest, rfl, rfl, L0, at2 .., .inl ⟨_, rfl, ?_⟩⟩
      refine ⟨_, rfl, _, _, rfl, rfl, by omega, ?_⟩
      refine ⟨_, rfl, d, _, 2, .int rest, rfl, rfl, L0, at2 .., ?_⟩
      refine ⟨_, rfl, _, _, rfl, rfl, hdv _, ?_⟩
      refine ⟨_, rfl, d, _, 2, 2, rfl, rfl, h1, rfl, ?_⟩
      refine ⟨_, rfl, ?_⟩
      have e1 := fr H (.lst ([.ref c, .int pos, .int rest, .int seed].set 2 (.int (rest / many)))) (fun _ _ => rfl)
      exact q _ _ (fF _ e1) e1 (next_aux ncd h2 rfl h0 (Int.ediv_nonneg h3 (by omega)) h4 h5) (Int.emod_nonneg _ (by omega)) (Int.emod_lt_of_pos _ (by omega))
    · refine ⟨_, rfl, d, _, 1, .int pos, rfl, rfl, L0, at1 .., ?_⟩
      refine ⟨_, rfl, d, _, 0, .ref c, rfl, rfl, L0, at0 .., ?_⟩
      refine ⟨c, _, rfl, .inl (.of h2), ?_⟩
      refine ⟨_, _, rfl, rfl, _, rfl, ite2 (fun e2 => ?_) (fun e2 => ?_)⟩
      · have hp : pos < ((ns.map V.int).length : Int) := of_decide_eq_true e2
        rw [List.length_map] at hp
        obtain ⟨i, rfl⟩ := Int.eq_ofNat_of_zero_le h0
        have hi : i < ns.length := by omega
        have hat : atI (ns.map V.int) ((i : Nat) : Int) = some (.int ns[i]) := atI_nat (by rw [List.getElem?_map, List.getElem?_eq_getElem hi]; rfl)
        -- cell = abs(..)
        refine ⟨_, rfl, d, _, 0, .ref c, rfl, rfl, L0, at0 .., ?_⟩
        refine ⟨_, rfl, d, _, 1, _, rfl, rfl, L0, at1 .., ?_⟩
        refine ⟨c, _, _, _, rfl, rfl, .of h2, hat, ?_⟩
        refine ⟨_, rfl, ?_⟩
        have hcell : (0 : Int) ≤ (if ns[i] < 0 then -ns[i] else ns[i]) := by split <;> omega
        generalize (if ns[i] < 0 then -ns[i] else ns[i]) = cell at hcell
        -- draw[1] = draw[1] + 1
        refine ⟨_, rfl, d, _, 1, _, rfl, rfl, L0, at1 .., ?_⟩
        refine ⟨_, _, rfl, rfl, ?_⟩
        refine ⟨_, rfl, d, _, 1, 1, rfl, rfl, h1, rfl, ?_⟩
        have hd1 : (upd H d (.lst ([.ref c, .int ((i : Nat) : Int), .int rest, .int seed].set 1 (.int ((i : Nat) + 1))))) d = some (.lst [.ref c, .int ((i : Nat) + 1), .int rest, .int seed]) := upd_same
        have e1 := fr H (.lst ([.ref c, .int ((i : Nat) : Int), .int rest, .int seed].set 1 (.int ((i : Nat) + 1)))) (fun _ _ => rfl)
        generalize upd H d (.lst ([.ref c, .int ((i : Nat) : Int), .int rest, .int seed].set 1 (.int ((i : Nat) + 1)))) = H1 at hd1 e1
        have h2' : H1 c = some (.lst (ns.map V.int)) := by rw [e1 c ncd]; exact h2
        -- cell >= 10 ** 18
        refine ⟨_, rfl, _, _, rfl, rfl, ⟨by decide, by decide, by decide⟩, ?_⟩
        refine ⟨_, _, rfl, rfl, _, rfl, ite2 (fun e3 => ?_) (fun e3 => ?_)⟩
        · refine ⟨_, rfl, _, rfl, _, _, rfl, rfl, hdv _, ?_⟩
          refine ⟨_, rfl, d, _, 2, 2, rfl, rfl, hd1, rfl, ?_⟩
          refine ⟨_, rfl, .inl ⟨_, rfl, ?_⟩⟩
          refine ⟨_, rfl, _, _, rfl, rfl, by omega, ?_⟩
          have e5 := fr H1 (.lst ([.ref c, .int ((i : Nat) + 1), .int rest, .int seed].set 2 (.int (cell / many)))) e1
          exact q _ _ (fF _ e5) e5 (next_aux ncd h2' rfl (by omega) (Int.ediv_nonneg hcell (by omega)) h4 h5) (Int.emod_nonneg _ (by omega)) (Int.emod_lt_of_pos _ (by omega))
        · -- draw[3] = ..
          refine ⟨_, rfl, d, _, 3, .int seed, rfl, rfl, .of hd1, at3 .., ?_⟩
          refine ⟨_, _, rfl, rfl, .inl ⟨by omega, by omega⟩, ?_⟩
          refine ⟨_, rfl, _, _, rfl, rfl, ?_⟩
          refine ⟨_, _, rfl, rfl, .inl ⟨_, rfl, ?_⟩⟩
          refine ⟨_, _, rfl, rfl, by show (0 : Int) < 2147483647; decide, ?_⟩
          refine ⟨_, rfl, d, _, 3, 3, rfl, rfl, hd1, rfl, ?_⟩
          have hs0 : 0 ≤ (seed * 48271 + cell + 11) % 2147483647 := Int.emod_nonneg _ (by decide)
          have hs1 : (seed * 48271 + cell + 11) % 2147483647 < 2147483647 := Int.emod_lt_of_pos _ (by decide)
          have e5 := fr H1 (.lst ([.ref c, .int ((i : Nat) + 1), .int rest, .int seed].set 3 (.int ((seed * 48271 + cell + 11) % 2147483647)))) e1
          have hd5 : (upd H1 d (.lst ([.ref c, .int ((i : Nat) + 1), .int rest, .int seed].set 3 (.int ((seed * 48271 + cell + 11) % 2147483647))))) d = some (.lst [.ref c, .int ((i : Nat) + 1), .int rest, .int ((seed * 48271 + cell + 11) % 2147483647)]) := upd_same
          dsimp only
          generalize (seed * 48271 + cell + 11) % 2147483647 = seed' at hs0 hs1 e5 hd5 ⊢
          refine ⟨_, rfl, d, _, 3, .int seed', rfl, rfl, .of hd5, at3 .., ?_⟩
          refine ⟨_, _, rfl, rfl, .inl ⟨by omega, by omega⟩, ?_⟩
          refine ⟨_, _, rfl, rfl, by show (0 : Int) < 2147483629; decide, .inl ⟨_, rfl, ?_⟩⟩
          refine ⟨_, _, rfl, rfl, ⟨by decide, by decide⟩, ?_⟩
          refine ⟨_, rfl, _, _, rfl, rfl, by omega, ?_⟩
          exact last seed' hs0 hs1 _ e5 ⟨_, _, hd5, by omega, h3⟩
      · -- draw[3] = ..
        refine ⟨_, rfl, d, _, 3, .int seed, rfl, rfl, L0, at3 .., ?_⟩
        refine ⟨_, _, rfl, rfl, .inl ⟨by omega, by omega⟩, ?_⟩
        refine ⟨_, _, rfl, rfl, .inl ⟨_, rfl, ?_⟩⟩
        refine ⟨_, _, rfl, rfl, by show (0 : Int) < 2147483647; decide, ?_⟩
        refine ⟨_, rfl, d, _, 3, 3, rfl, rfl, h1, rfl, ?_⟩
        have hs0 : 0 ≤ (seed * 48271 + 12345) % 2147483647 := Int.emod_nonneg _ (by decide)
        have hs1 : (seed * 48271 + 12345) % 2147483647 < 2147483647 := Int.emod_lt_of_pos _ (by decide)
        have e5 := fr H (.lst ([.ref c, .int pos, .int rest, .int seed].set 3 (.int ((seed * 48271 + 12345) % 2147483647)))) (fun _ _ => rfl)
        have hd5 : (upd H d (.lst ([.ref c, .int pos, .int rest, .int seed].set 3 (.int ((seed * 48271 + 12345) % 2147483647))))) d = some (.lst [.ref c, .int pos, .int rest, .int ((seed * 48271 + 12345) % 2147483647)]) := upd_same
        dsimp only
        generalize (seed * 48271 + 12345) % 2147483647 = seed' at hs0 hs1 e5 hd5 ⊢
        refine ⟨_, rfl, d, _, 3, .int seed', rfl, rfl, .of hd5, at3 .., ?_⟩
        refine ⟨_, _, rfl, rfl, .inl ⟨by omega, by omega⟩, ?_⟩
        refine ⟨_, _, rfl, rfl, by show (0 : Int) < 2147483629; decide, .inl ⟨_, rfl, ?_⟩⟩
        refine ⟨_, _, rfl, rfl, ⟨by decide, by decide⟩, ?_⟩
        refine ⟨_, rfl, _, _, rfl, rfl, by omega, ?_⟩
        exact last seed' hs0 hs1 _ e5 ⟨_, _, hd5, h0, h3⟩
end

/-! ### data in the heap -/
theorem SqT.ext {K : PySem.W.Frag} {H H' : Hp} {a : Addr} {xs : List V} (e : Same H H') (h : SqT K H a xs) : SqT K H' a xs := by
  rcases h with (h | ⟨o, h⟩) | h
  · exact .inl (.inl (e _ _ h))
  · exact .inl (.inr ⟨o, e _ _ h⟩)
  · exact .inr h
mutual
theorem Dp.ext {K : PySem.W.Frag} {H H' : Hp} (e : Same H H') : ∀ (d : PyData) (v : V), Dp K H v d → Dp K H' v d
  | .none, _, h => by cases h; exact .non
  | .bool b, _, h => by cases h; exact .bl b
  | .int i, _, h => by cases h; exact .int i
  | .str x, _, h => by cases h; exact .str x
  | .list ds, _, h => by
    cases h with
    | lst hs ha => exact .lst (e.seq hs) (DpAll.ext e ds _ ha)
  | .tuple ds, _, h => by
    cases h with
    | tup hs ha => exact .tup (SqT.ext e hs) (DpAll.ext e ds _ ha)
  | .dict _, _, h => by cases h
theorem DpAll.ext {K : PySem.W.Frag} {H H' : Hp} (e : Same H H') : ∀ (ds : List PyData) (vs : List V), DpAll K H vs ds → DpAll K H' vs ds
  | [], _, h => by cases h; exact .nil
  | d :: ds, _, h => by
    cases h with
    | cons h1 h2 => exact .cons (Dp.ext e d _ h1) (DpAll.ext e ds _ h2)
end
theorem DpAll.len {K : PySem.W.Frag} {H : Hp} : ∀ {ds : List PyData} {vs : List V}, DpAll K H vs ds → vs.length = ds.length
  | [], _, h => by cases h; rfl
  | d :: ds, _, h => by
    cases h with
    | cons h1 h2 => exact congrArg (· + 1) (DpAll.len h2)
theorem DpAll.get {K : PySem.W.Frag} {H : Hp} : ∀ {ds : List PyData} {vs : List V} {i : Nat} {d : PyData}, DpAll K H vs ds → ds[i]? = some d → ∃ v, vs[i]? = some v ∧ Dp K H v d
  | [], _, _, _, _, e => by simp at e
  | x :: ds, _, 0, d, h, e => by
    cases h with
    | cons h1 h2 =>
      have e1 : x = d := Option.some.inj e
      subst e1
      exact ⟨_, rfl, h1⟩
  | x :: ds, _, i + 1, d, h, e => by
    cases h with
    | cons h1 h2 =>
      obtain ⟨v, hv, hd⟩ := DpAll.get (i := i) h2 (by simpa using e)
      exact ⟨v, by simpa using hv, hd⟩
theorem tyL {K : PySem.W.Frag} {H : Hp} {a : Addr} {xs : List V} (h : SqL K H a xs) : TyX K H (.ref a) (.type "list") := by
  rcases h with (h | ⟨o, h⟩) | ⟨o, its, n, h, c, _⟩
  · exact .base (.lst h)
  · exact .base (.frz h)
  · exact .kList h c
theorem tyT {K : PySem.W.Frag} {H : Hp} {a : Addr} {xs : List V} (h : SqT K H a xs) : TyX K H (.ref a) (.type "tuple") := by
  rcases h with (h | ⟨o, h⟩) | ⟨o, its, n, h, c, _⟩
  · exact .base (.tup h)
  · exact .fTuple h
  · exact .kTuple h c
mutual
/-- no list within -/
def tupOnly : PyData → Bool
  | .list _ => false
  | .dict _ => false
  | .tuple ds => tupOnlys ds
  | _ => true
def tupOnlys : List PyData → Bool
  | [] => true
  | d :: ds => tupOnly d && tupOnlys ds
end
mutual
theorem Dp.away {K : PySem.W.Frag} {H : Hp} {D : Addr} {zs : List V} {o : HO} (hD : H D = some (.lst zs)) : ∀ (d : PyData) (v : V), tupOnly d = true → Dp K H v d → Dp K (upd H D o) v d
  | .none, _, _, h => by cases h; exact .non
  | .bool b, _, _, h => by cases h; exact .bl b
  | .int i, _, _, h => by cases h; exact .int i
  | .str x, _, _, h => by cases h; exact .str x
  | .list ds, _, e, _ => by unfold tupOnly at e; cases e
  | .tuple ds, _, e, h => by
    unfold tupOnly at e
    cases h with
    | @tup a _ _ hs ha =>
      refine .tup ?_ (DpAll.away hD ds _ e ha)
      rcases hs with (hs | ⟨o', hs⟩) | hs
      · exact .inl (.inl (by rw [upd_ne (ne_of hs hD (fun z => nomatch z))]; exact hs))
      · exact .inl (.inr ⟨o', by rw [upd_ne (ne_of hs hD (fun z => nomatch z))]; exact hs⟩)
      · exact .inr hs
  | .dict _, _, _, h => by cases h
theorem DpAll.away {K : PySem.W.Frag} {H : Hp} {D : Addr} {zs : List V} {o : HO} (hD : H D = some (.lst zs)) : ∀ (ds : List PyData) (vs : List V), tupOnlys ds = true → DpAll K H vs ds → DpAll K (upd H D o) vs ds
  | [], _, _, h => by cases h; exact .nil
  | d :: ds, _, e, h => by
    unfold tupOnlys at e
    rw [Bool.and_eq_true] at e
    cases h with
    | cons h1 h2 => exact .cons (Dp.away hD d _ e.1 h1) (DpAll.away hD ds _ e.2 h2)
end
theorem DpAll.snoc {K : PySem.W.Frag} {H : Hp} : ∀ {ds : List PyData} {xs : List V} {v : V} {d : PyData}, DpAll K H xs ds → Dp K H v d → DpAll K H (xs ++ [v]) (ds ++ [d])
  | [], _, _, _, h, h2 => by cases h; exact .cons h2 .nil
  | _ :: ds, _, _, _, h, h2 => by
    cases h with
    | cons a b => exact .cons a (DpAll.snoc b h2)
theorem at_0 {α : Type} {xs : List α} {i : Nat} {v : α} (h : xs[i]? = some v) : atI xs (0 + (i : Int)) = some v := by
  rw [Int.zero_add]
  exact atI_nat h
mutual
/-- what is made of tuples stands when another list is changed -/
theorem Dp.fd {K : PySem.W.Frag} {H H' : Hp} {D : Addr} (hD : ∃ zs, H D = some (.lst zs)) (e : Fd D H H') : ∀ (d : PyData) (v : V), tupOnly d = true → Dp K H v d → Dp K H' v d
  | .none, _, _, h => by cases h; exact .non
  | .bool b, _, _, h => by cases h; exact .bl b
  | .int i, _, _, h => by cases h; exact .int i
  | .str x, _, _, h => by cases h; exact .str x
  | .list ds, _, e, _ => by unfold tupOnly at e; cases e
  | .tuple ds, _, e', h => by
    unfold tupOnly at e'
    obtain ⟨zs, hz⟩ := hD
    cases h with
    | @tup a _ _ hs ha =>
      refine .tup ?_ (DpAll.fd ⟨zs, hz⟩ e ds _ e' ha)
      rcases hs with (hs | ⟨o', hs⟩) | hs
      · exact .inl (.inl (e _ _ (ne_of hs hz (fun z => nomatch z)) hs))
      · exact .inl (.inr ⟨o', e _ _ (ne_of hs hz (fun z => nomatch z)) hs⟩)
      · exact .inr hs
  | .dict _, _, _, h => by cases h
theorem DpAll.fd {K : PySem.W.Frag} {H H' : Hp} {D : Addr} (hD : ∃ zs, H D = some (.lst zs)) (e : Fd D H H') : ∀ (ds : List PyData) (vs : List V), tupOnlys ds = true → DpAll K H vs ds → DpAll K H' vs ds
  | [], _, _, h => by cases h; exact .nil
  | d :: ds, _, e', h => by
    unfold tupOnlys at e'
    rw [Bool.and_eq_true] at e'
    cases h with
    | cons h1 h2 => exact .cons (Dp.fd hD e d _ e'.1 h1) (DpAll.fd hD e ds _ e'.2 h2)
end

/-! ### diagrams as trees -/
inductive Bd where
  | lf (b : Bool)
  | nd (e : Int) (w t : Bd)
deriving DecidableEq
def Bd.ev : Bd → (Int → Bool) → Bool
  | .lf b, _ => b
  | .nd e w t, r => if r e = true then t.ev r else w.ev r
/-- its questions ascend, they are all of the list; both sides of a node differ -/
inductive Wf : List Int → Bd → Prop
  | lf {es b} : Wf es (.lf b)
  | here {x es w t} : Wf es w → Wf es t → w ≠ t → Wf (x :: es) (.nd x w t)
  | skip {x es a} : Wf es a → Wf (x :: es) a
def setR (r : Int → Bool) (x : Int) (b : Bool) : Int → Bool := fun y => if y = x then b else r y
theorem setR_same (r : Int → Bool) (x : Int) (b : Bool) : setR r x b x = b := if_pos rfl
theorem setR_ne {r : Int → Bool} {x y : Int} {b : Bool} (h : y ≠ x) : setR r x b y = r y := if_neg h
theorem Wf.away {es : List Int} {a : Bd} (h : Wf es a) : ∀ {x : Int} {b : Bool} {r : Int → Bool}, x ∉ es → a.ev (setR r x b) = a.ev r := by
  induction h with
  | lf => intros; rfl
  | @here y es w t _ _ _ iw it =>
    intro x b r hx
    rw [List.mem_cons, not_or] at hx
    show (if setR r x b y = true then t.ev (setR r x b) else w.ev (setR r x b)) = if r y = true then t.ev r else w.ev r
    rw [setR_ne (Ne.symm hx.1), iw hx.2, it hx.2]
  | @skip y es a _ ih =>
    intro x b r hx
    rw [List.mem_cons, not_or] at hx
    exact ih hx.2
/-- both sides at the question x, which no other one comes ahead of -/
def Bd.cw (x : Int) : Bd → Bd
  | .nd e w t => if e = x then w else .nd e w t
  | a => a
def Bd.ct (x : Int) : Bd → Bd
  | .nd e w t => if e = x then t else .nd e w t
  | a => a
theorem Wf.none_of {es : List Int} {x : Int} {w t : Bd} (h : Wf es (.nd x w t)) : x ∈ es := by
  generalize e : Bd.nd x w t = a at h
  induction h with
  | lf => cases e
  | here _ _ _ => cases e; exact List.mem_cons_self
  | skip _ ih => exact List.mem_cons_of_mem _ (ih e)
theorem Wf.cw {x : Int} {es : List Int} {a : Bd} (hx : x ∉ es) (h : Wf (x :: es) a) : Wf es (a.cw x) ∧ ∀ r, (a.cw x).ev r = a.ev (setR r x false) := by
  cases h with
  | lf => exact ⟨.lf, fun _ => rfl⟩
  | @here _ _ w t hw ht hn =>
    have e1 : (Bd.nd x w t).cw x = w := if_pos rfl
    rw [e1]
    refine ⟨hw, fun r => ?_⟩
    show _ = if setR r x false x = true then _ else _
    rw [setR_same, if_neg Bool.false_ne_true, hw.away hx]
  | skip h =>
    have e : a.cw x = a := by
      cases a with
      | lf b => rfl
      | nd y w t =>
        have hy := h.none_of
        exact if_neg (fun (z : y = x) => hx (z ▸ hy))
    rw [e]
    exact ⟨h, fun r => (h.away hx).symm⟩
theorem Wf.ct {x : Int} {es : List Int} {a : Bd} (hx : x ∉ es) (h : Wf (x :: es) a) : Wf es (a.ct x) ∧ ∀ r, (a.ct x).ev r = a.ev (setR r x true) := by
  cases h with
  | lf => exact ⟨.lf, fun _ => rfl⟩
  | @here _ _ w t hw ht hn =>
    have e1 : (Bd.nd x w t).ct x = t := if_pos rfl
    rw [e1]
    refine ⟨ht, fun r => ?_⟩
    show _ = if setR r x true x = true then _ else _
    rw [setR_same, if_pos rfl, ht.away hx]
  | skip h =>
    have e : a.ct x = a := by
      cases a with
      | lf b => rfl
      | nd y w t =>
        have hy := h.none_of
        exact if_neg (fun (z : y = x) => hx (z ▸ hy))
    rw [e]
    exact ⟨h, fun r => (h.away hx).symm⟩
theorem Wf.cwt_eq {x : Int} {es : List Int} {a : Bd} (hx : x ∉ es) (h : Wf (x :: es) a) : (a.cw x = a.ct x ↔ Wf es a) ∧ (a.cw x = a.ct x → a.cw x = a) ∧ (a.cw x ≠ a.ct x → a = .nd x (a.cw x) (a.ct x)) := by
  have key : ∀ {a : Bd}, Wf es a → a.cw x = a ∧ a.ct x = a := fun {a} h => by
    cases a with
    | lf b => exact ⟨rfl, rfl⟩
    | nd y w t =>
      have hy := h.none_of
      exact ⟨if_neg (fun (z : y = x) => hx (z ▸ hy)), if_neg (fun (z : y = x) => hx (z ▸ hy))⟩
  cases h with
  | lf => exact ⟨⟨fun _ => .lf, fun _ => rfl⟩, fun _ => rfl, fun n => absurd rfl n⟩
  | @here _ _ w t hw ht hn =>
    have e1 : (Bd.nd x w t).cw x = w := if_pos rfl
    have e2 : (Bd.nd x w t).ct x = t := if_pos rfl
    rw [e1, e2]
    exact ⟨⟨fun e => absurd e hn, fun h => absurd h.none_of hx⟩, fun e => absurd e hn, fun _ => rfl⟩
  | skip h =>
    obtain ⟨e1, e2⟩ := key h
    rw [e1, e2]
    exact ⟨⟨fun _ => h, fun _ => rfl⟩, fun _ => rfl, fun n => absurd rfl n⟩
/-- just one diagram for each condition -/
theorem canon : ∀ {es : List Int} {a b : Bd}, es.Nodup → Wf es a → Wf es b → (∀ r, a.ev r = b.ev r) → a = b
  | [], a, b, _, ha, hb, h => by
    cases ha
    cases hb
    exact congrArg Bd.lf (h fun _ => false)
  | x :: es, a, b, hn, ha, hb, h => by
    rw [List.nodup_cons] at hn
    have w := canon hn.2 (ha.cw hn.1).1 (hb.cw hn.1).1 fun r => by rw [(ha.cw hn.1).2, (hb.cw hn.1).2, h]
    have t := canon hn.2 (ha.ct hn.1).1 (hb.ct hn.1).1 fun r => by rw [(ha.ct hn.1).2, (hb.ct hn.1).2, h]
    obtain ⟨_, ea, na⟩ := ha.cwt_eq hn.1
    obtain ⟨_, eb, nb⟩ := hb.cwt_eq hn.1
    by_cases e : a.cw x = a.ct x
    · rw [← ea e, ← eb (by rw [← w, ← t, e]), w]
    · rw [na e, nb (by rw [← w, ← t]; exact e), w, t]
/-- a node, or what both sides are -/
def mkB (x : Int) (w t : Bd) : Bd := if w = t then w else .nd x w t
theorem mkB_wf {x : Int} {es : List Int} {w t : Bd} (hw : Wf es w) (ht : Wf es t) : Wf (x :: es) (mkB x w t) := by
  unfold mkB
  split
  · exact .skip hw
  · exact .here hw ht ‹_›
theorem mkB_ev {x : Int} {w t : Bd} (r : Int → Bool) : (mkB x w t).ev r = if r x = true then t.ev r else w.ev r := by
  unfold mkB
  split
  · rename_i h
    subst h
    split <;> rfl
  · rfl
/-! ### diagrams in a store: its nodes by their places -/
abbrev Nds := List (Int × Nat × Nat)
inductive At (N : Nds) : Nat → Bd → Prop
  | f : At N 0 (.lf false)
  | t : At N 1 (.lf true)
  | nd {k : Nat} {e : Int} {w t : Nat} {a b : Bd} : N[k]? = some (e, w, t) → At N w a → At N t b → At N (k + 2) (.nd e a b)
theorem At.mono {N M : Nds} {c : Nat} {a : Bd} (h : At N c a) : At (N ++ M) c a := by
  induction h with
  | f => exact .f
  | t => exact .t
  | nd hk _ _ ia ib => exact .nd (by rw [List.getElem?_append_left (List.getElem?_eq_some_iff.mp hk).1]; exact hk) ia ib
theorem At.fn {N : Nds} {c : Nat} {a : Bd} (h : At N c a) : ∀ {b : Bd}, At N c b → a = b := by
  induction h with
  | f => intro b hb; cases hb; rfl
  | t => intro b hb; cases hb; rfl
  | nd hk _ _ ia ib =>
    intro b hb
    cases hb with
    | nd hk2 ha2 hb2 =>
      have e := Option.some.inj (hk.symm.trans hk2)
      cases e
      have e1 := ia ha2
      have e2 := ib hb2
      rw [e1, e2]
theorem nodup_at {α : Type} : ∀ {l : List α} {i j : Nat} {x : α}, l.Nodup → l[i]? = some x → l[j]? = some x → i = j
  | [], _, _, _, _, h, _ => by simp at h
  | y :: l, 0, 0, _, _, _, _ => rfl
  | y :: l, 0, j + 1, x, hn, h1, h2 => by
    rw [List.nodup_cons] at hn
    have e : y = x := Option.some.inj h1
    have h2 : l[j]? = some x := by simpa using h2
    exact absurd (e ▸ List.mem_of_getElem? h2) hn.1
  | y :: l, i + 1, 0, x, hn, h1, h2 => by
    rw [List.nodup_cons] at hn
    have e : y = x := Option.some.inj h2
    have h1 : l[i]? = some x := by simpa using h1
    exact absurd (e ▸ List.mem_of_getElem? h1) hn.1
  | y :: l, i + 1, j + 1, x, hn, h1, h2 => by
    rw [List.nodup_cons] at hn
    exact congrArg (· + 1) (nodup_at hn.2 (by simpa using h1) (by simpa using h2))
theorem At.inj {N : Nds} (hn : N.Nodup) {c : Nat} {a : Bd} (h : At N c a) : ∀ {d : Nat}, At N d a → c = d := by
  induction h with
  | f => intro d hd; cases hd; rfl
  | t => intro d hd; cases hd; rfl
  | nd hk _ _ ia ib =>
    intro d hd
    cases hd with
    | nd hk2 ha2 hb2 =>
      have e1 := ia ha2
      have e2 := ib hb2
      subst e1 e2
      rw [nodup_at hn hk hk2]
theorem At.lt {N : Nds} {c : Nat} {a : Bd} (h : At N c a) : c < N.length + 2 := by
  cases h with
  | f => omega
  | t => omega
  | nd hk _ _ => have := (List.getElem?_eq_some_iff.mp hk).1; omega
theorem At.leaf {N : Nds} {c : Nat} {b : Bool} (h : At N c (.lf b)) : c = if b = true then 1 else 0 := by cases h <;> rfl
theorem At.ge {N : Nds} {c : Nat} {a : Bd} (h : At N c a) (h2 : 2 ≤ c) : ∃ e w t a1 b1, N[c - 2]? = some (e, w, t) ∧ At N w a1 ∧ At N t b1 ∧ a = .nd e a1 b1 := by
  cases h with
  | f => omega
  | t => omega
  | nd hk ha hb => exact ⟨_, _, _, _, _, hk, ha, hb, rfl⟩

/-! ### a store of diagrams in the heap -/
theorem SqT.tsn {K : PySem.W.Frag} {H H' : Hp} {a : Addr} {xs : List V} (e : ∀ b o, (∃ ys, o = HO.tup ys) ∨ (∃ q u, o = HO.frz q u) → H b = some o → H' b = some o) (h : SqT K H a xs) : SqT K H' a xs := by
  rcases h with (h | ⟨o, h⟩) | h
  · exact .inl (.inl (e _ _ (.inl ⟨_, rfl⟩) h))
  · exact .inl (.inr ⟨o, e _ _ (.inr ⟨_, _, rfl⟩) h⟩)
  · exact .inr h
mutual
/-- what is made of tuples stands where all tuples stand -/
theorem Dp.tsn {K : PySem.W.Frag} {H H' : Hp} (e : ∀ b o, (∃ ys, o = HO.tup ys) ∨ (∃ q u, o = HO.frz q u) → H b = some o → H' b = some o) : ∀ (d : PyData) (v : V), tupOnly d = true → Dp K H v d → Dp K H' v d
  | .none, _, _, h => by cases h; exact .non
  | .bool b, _, _, h => by cases h; exact .bl b
  | .int i, _, _, h => by cases h; exact .int i
  | .str x, _, _, h => by cases h; exact .str x
  | .list ds, _, e', _ => by unfold tupOnly at e'; cases e'
  | .tuple ds, _, e', h => by
    unfold tupOnly at e'
    cases h with
    | tup hs ha => exact .tup (SqT.tsn e hs) (DpAll.tsn e ds _ e' ha)
  | .dict _, _, _, h => by cases h
theorem DpAll.tsn {K : PySem.W.Frag} {H H' : Hp} (e : ∀ b o, (∃ ys, o = HO.tup ys) ∨ (∃ q u, o = HO.frz q u) → H b = some o → H' b = some o) : ∀ (ds : List PyData) (vs : List V), tupOnlys ds = true → DpAll K H vs ds → DpAll K H' vs ds
  | [], _, _, h => by cases h; exact .nil
  | d :: ds, _, e', h => by
    unfold tupOnlys at e'
    rw [Bool.and_eq_true] at e'
    cases h with
    | cons h1 h2 => exact .cons (Dp.tsn e d _ e'.1 h1) (DpAll.tsn e ds _ e'.2 h2)
end
/-- the instance, its list, its two dicts -/
structure SA where
  p : Addr
  k : Addr
  u : Addr
  m : Addr
def sfl (s : SA) : List (Str × V) := [("kept", .ref s.k), ("numbers", .ref s.u), ("combined", .ref s.m)]
theorem sf_kept (s : SA) : (sfl s).lookup ("kept" : Str) = some (.ref s.k) := rfl
theorem sf_num (s : SA) : (sfl s).lookup ("numbers" : Str) = some (.ref s.u) := rfl
theorem sf_comb (s : SA) : (sfl s).lookup ("combined" : Str) = some (.ref s.m) := rfl
theorem sf_no (s : SA) {m : Str} (h1 : (m == ("kept" : Str)) = false) (h2 : (m == ("numbers" : Str)) = false) (h3 : (m == ("combined" : Str)) = false) : (sfl s).lookup m = none := by
  unfold sfl
  simp only [List.lookup, h1, h2, h3]
/-- what stood stands, but for the store's list and dicts -/
def FdS (s : SA) (H H' : Hp) : Prop := ∀ b o, b ≠ s.k → b ≠ s.u → b ≠ s.m → H b = some o → H' b = some o
theorem FdS.refl (s : SA) (H : Hp) : FdS s H H := fun _ _ _ _ _ h => h
theorem FdS.trans {s : SA} {H H1 H2 : Hp} (a : FdS s H H1) (b : FdS s H1 H2) : FdS s H H2 := fun x o h1 h2 h3 h => b x o h1 h2 h3 (a x o h1 h2 h3 h)
theorem FdS.of {s : SA} {H H' : Hp} (a : Same H H') : FdS s H H' := fun x o _ _ _ h => a x o h
def nD (n : Int × Nat × Nat) : PyData := .tuple [.int n.1, .int (n.2.1 : Nat), .int (n.2.2 : Nat)]
theorem nD_only : ∀ N : Nds, tupOnlys (N.map nD) = true
  | [] => rfl
  | n :: N => by
    rw [List.map_cons]
    unfold tupOnlys
    rw [nD_only N]
    rfl
abbrev ky3 (a b c : Int) : List Key := [.inl a, .inl b, .inl c]
def NumsOk (N : Nds) (kvs : List (List Key × V)) : Prop := (∀ (e : Int) (w t : Nat), valV kvs (ky3 e w t) = none → (e, w, t) ∉ N) ∧ ∀ (e : Int) (w t : Nat) v, valV kvs (ky3 e w t) = some v → ∃ i : Nat, N[i]? = some (e, w, t) ∧ v = .int ((i + 2 : Nat) : Int)
/-- the diagram that is one of two, where a third one holds -/
def IsIte (es : List Int) (a b c d : Bd) : Prop := Wf es d ∧ ∀ r, d.ev r = if a.ev r = true then b.ev r else c.ev r
def MemoOk (N : Nds) (es : List Int) (cvs : List (List Key × V)) : Prop := ∀ (c a b : Nat) v, valV cvs (ky3 c a b) = some v → ∃ (r : Nat) (A B C T : Bd), v = .int (r : Int) ∧ At N c A ∧ At N a B ∧ At N b C ∧ At N r T ∧ IsIte es A B C T
def Sto (C : Addr) (K : PySem.W.Frag) (H : Hp) (s : SA) (N : Nds) (es : List Int) (L : Nat) : Prop :=
  (∃ dx, H s.p = some (.ins C dx (sfl s))) ∧ (∃ xs, H s.k = some (.lst xs) ∧ DpAll K H xs (N.map nD)) ∧ (∃ kvs, H s.u = some (.dT kvs) ∧ kvs.length ≤ N.length ∧ NumsOk N kvs) ∧
    (∃ cvs, H s.m = some (.dT cvs) ∧ cvs.length ≤ L ∧ MemoOk N es cvs) ∧ N.Nodup ∧ s.u ≠ s.m ∧ es.Pairwise (· < ·)
section
variable {C : Addr} {K : PySem.W.Frag} {H H' : Hp} {s : SA} {N : Nds} {es : List Int} {L : Nat}
theorem Sto.ins (h : Sto C K H s N es L) : ∃ dx, H s.p = some (.ins C dx (sfl s)) := h.1
theorem Sto.nd (h : Sto C K H s N es L) : N.Nodup := h.2.2.2.2.1
theorem Sto.srt (h : Sto C K H s N es L) : es.Pairwise (· < ·) := h.2.2.2.2.2.2
theorem Sto.es_nd (h : Sto C K H s N es L) : es.Nodup := h.srt.imp fun h => by omega
theorem Sto.ext (e : Same H H') (h : Sto C K H s N es L) : Sto C K H' s N es L := by
  obtain ⟨⟨dx, h1⟩, ⟨xs, h2, h3⟩, ⟨kvs, h4, h5⟩, ⟨cvs, h6, h7⟩, h8⟩ := h
  exact ⟨⟨dx, e _ _ h1⟩, ⟨xs, e _ _ h2, DpAll.ext e _ _ h3⟩, ⟨kvs, e _ _ h4, h5⟩, ⟨cvs, e _ _ h6, h7⟩, h8⟩
theorem Sto.tup (h : Sto C K H s N es L) (f : FdS s H H') : ∀ b o, (∃ ys, o = HO.tup ys) ∨ (∃ q u, o = HO.frz q u) → H b = some o → H' b = some o := by
  obtain ⟨_, ⟨xs, h2, _⟩, ⟨kvs, h4, _⟩, ⟨cvs, h6, _⟩, _⟩ := h
  rintro b o (⟨ys, rfl⟩ | ⟨q, u, rfl⟩) hb
  · exact f _ _ (ne_of hb h2 (fun z => nomatch z)) (ne_of hb h4 (fun z => nomatch z)) (ne_of hb h6 (fun z => nomatch z)) hb
  · exact f _ _ (ne_of hb h2 (fun z => nomatch z)) (ne_of hb h4 (fun z => nomatch z)) (ne_of hb h6 (fun z => nomatch z)) hb
theorem Sto.dp (h : Sto C K H s N es L) (f : FdS s H H') {d : PyData} {v : V} (ht : tupOnly d = true) (hd : Dp K H v d) : Dp K H' v d := Dp.tsn (h.tup f) d v ht hd
theorem Sto.at (h : Sto C K H s N es L) {c : Nat} {n : Int × Nat × Nat} (h2 : 2 ≤ c) (hn : N[c - 2]? = some n) : ∃ dx xs q, H s.p = some (.ins C dx (sfl s)) ∧ SqL K H s.k xs ∧ atI xs ((c : Int) - 2) = some (.ref q) ∧ SqT K H q [.int n.1, .int (n.2.1 : Nat), .int (n.2.2 : Nat)] := by
  obtain ⟨⟨dx, h1⟩, ⟨xs, h3, h4⟩, _⟩ := h
  obtain ⟨v, hv, hd⟩ := DpAll.get h4 (show (N.map nD)[c - 2]? = some (nD n) by rw [List.getElem?_map, hn]; rfl)
  have e : (c : Int) - 2 = ((c - 2 : Nat) : Int) := by omega
  cases hd with
  | @tup q _ _ hs ha =>
    cases ha with
    | cons g1 g2 =>
      cases g1
      cases g2 with
      | cons g3 g4 =>
        cases g3
        cases g4 with
        | cons g5 g6 =>
          cases g5
          cases g6
          exact ⟨dx, xs, q, h1, .of h3, by rw [e]; exact atI_nat hv, hs⟩
end
theorem NumsOk.snoc {N : Nds} {kvs : List (List Key × V)} (h : NumsOk N kvs) {e : Int} {w t : Nat} (hn : valV kvs (ky3 e w t) = none) : NumsOk (N ++ [(e, w, t)]) (putK kvs (ky3 e w t) (.int ((N.length + 2 : Nat) : Int))) := by
  have inj : ∀ {e' : Int} {w' t' : Nat}, ky3 e' w' t' = ky3 e w t → (e', w', t') = (e, w, t) := by
    intro e' w' t' h
    injection h with h1 h2
    injection h2 with h2 h3
    injection h3 with h3 _
    injection h1 with h1
    injection h2 with h2
    injection h3 with h3
    have : w' = w := by omega
    have : t' = t := by omega
    subst_vars
    rfl
  refine ⟨fun e' w' t' h' hm => ?_, fun e' w' t' v h' => ?_⟩
  · rw [valV_put] at h'
    split at h'
    · cases h'
    · rename_i hne
      rcases List.mem_append.mp hm with hm | hm
      · exact h.1 _ _ _ h' hm
      · rw [List.mem_singleton] at hm
        cases hm
        exact hne rfl
  · rw [valV_put] at h'
    split at h'
    · rename_i he
      cases inj he
      refine ⟨N.length, by rw [List.getElem?_append_right (Nat.le_refl _), Nat.sub_self]; rfl, ?_⟩
      exact (Option.some.inj h').symm
    · obtain ⟨i, hi, hv⟩ := h.2 _ _ _ _ h'
      exact ⟨i, by rw [List.getElem?_append_left (List.getElem?_eq_some_iff.mp hi).1]; exact hi, hv⟩
theorem MemoOk.mono {N M : Nds} {es : List Int} {cvs : List (List Key × V)} (h : MemoOk N es cvs) : MemoOk (N ++ M) es cvs := fun c a b v hv => by
  obtain ⟨r, A, B, C, T, e, h1, h2, h3, h4, h5⟩ := h c a b v hv
  exact ⟨r, A, B, C, T, e, h1.mono, h2.mono, h3.mono, h4.mono, h5⟩
theorem MemoOk.put {N : Nds} {es : List Int} {cvs : List (List Key × V)} (h : MemoOk N es cvs) {c a b r : Nat} {A B C T : Bd} (h1 : At N c A) (h2 : At N a B) (h3 : At N b C) (h4 : At N r T) (h5 : IsIte es A B C T) : MemoOk N es (putK cvs (ky3 c a b) (.int (r : Int))) := fun c' a' b' v hv => by
  rw [valV_put] at hv
  split at hv
  · rename_i he
    injection he with e1 e2
    injection e2 with e2 e3
    injection e3 with e3 _
    injection e1 with e1
    injection e2 with e2
    injection e3 with e3
    have e1 : c' = c := by omega
    have e2 : a' = a := by omega
    have e3 : b' = b := by omega
    subst e1 e2 e3
    exact ⟨r, A, B, C, T, (Option.some.inj hv).symm, h1, h2, h3, h4, h5⟩
  · exact h _ _ _ _ hv
/-! ### what both sides give -/
theorem Wf.skips {es : List Int} {a : Bd} (h : Wf es a) : ∀ pre : List Int, Wf (pre ++ es) a
  | [] => h
  | _ :: pre => .skip (h.skips pre)
theorem ite_step {x : Int} {es : List Int} {a b c t1 t2 : Bd} (hx : x ∉ es) (ha : Wf (x :: es) a) (hb : Wf (x :: es) b) (hc : Wf (x :: es) c) (h1 : IsIte es (a.cw x) (b.cw x) (c.cw x) t1) (h2 : IsIte es (a.ct x) (b.ct x) (c.ct x) t2) : IsIte (x :: es) a b c (mkB x t1 t2) := by
  refine ⟨mkB_wf h1.1 h2.1, fun r => ?_⟩
  have hs : ∀ v, r x = v → setR r x v = r := fun v e => by
    funext y
    by_cases hy : y = x
    · subst hy
      rw [setR_same, e]
    · rw [setR_ne hy]
  rw [mkB_ev]
  cases e : r x with
  | true => rw [if_pos rfl, h2.2, (ha.ct hx).2, (hb.ct hx).2, (hc.ct hx).2, hs _ e]
  | false => rw [if_neg Bool.false_ne_true, h1.2, (ha.cw hx).2, (hb.cw hx).2, (hc.cw hx).2, hs _ e]
/-- there is one -/
theorem ite_ex : ∀ {es : List Int} {a b c : Bd}, es.Nodup → Wf es a → Wf es b → Wf es c → ∃ t, IsIte es a b c t
  | [], a, b, c, _, ha, hb, hc => by
    cases ha with
    | @lf _ v =>
      cases v with
      | true => exact ⟨b, hb, fun _ => (if_pos rfl).symm⟩
      | false => exact ⟨c, hc, fun _ => (if_neg Bool.false_ne_true).symm⟩
  | x :: es, a, b, c, hn, ha, hb, hc => by
    rw [List.nodup_cons] at hn
    obtain ⟨t1, h1⟩ := ite_ex hn.2 (ha.cw hn.1).1 (hb.cw hn.1).1 (hc.cw hn.1).1
    obtain ⟨t2, h2⟩ := ite_ex hn.2 (ha.ct hn.1).1 (hb.ct hn.1).1 (hc.ct hn.1).1
    exact ⟨_, ite_step hn.1 ha hb hc h1 h2⟩
theorem ite_low {pre es : List Int} {a b c t : Bd} (hn : (pre ++ es).Nodup) (ha : Wf es a) (hb : Wf es b) (hc : Wf es c) (h : IsIte (pre ++ es) a b c t) : IsIte es a b c t := by
  obtain ⟨t', h'⟩ := ite_ex (List.nodup_append.mp hn).2.1 ha hb hc
  have e := canon hn h.1 (h'.1.skips pre) fun r => by rw [h.2, h'.2]
  rw [e]
  exact h'
theorem IsIte.skips {es : List Int} {a b c t : Bd} (pre : List Int) (h : IsIte es a b c t) : IsIte (pre ++ es) a b c t := ⟨h.1.skips pre, h.2⟩
/-- the question of the first one that has one -/
theorem top_ex : ∀ {es : List Int} {cs : List Bd}, (∀ a ∈ cs, Wf es a) → (∃ a ∈ cs, ∀ b, a ≠ .lf b) → ∃ pre x rest, es = pre ++ x :: rest ∧ (∀ a ∈ cs, Wf (x :: rest) a) ∧ ∃ w t, Bd.nd x w t ∈ cs
  | [], cs, h, ⟨a, ha, hn⟩ => by
    have := h a ha
    cases this
    exact absurd rfl (hn _)
  | x :: es, cs, h, hex => by
    by_cases hx : ∃ w t, Bd.nd x w t ∈ cs
    · exact ⟨[], x, es, rfl, h, hx⟩
    · have h' : ∀ a ∈ cs, Wf es a := fun a ha => by
        cases h a ha with
        | lf => exact .lf
        | here _ _ _ => exact absurd ⟨_, _, ha⟩ hx
        | skip h => exact h
      obtain ⟨pre, y, rest, e, h1, h2⟩ := top_ex h' hex
      exact ⟨x :: pre, y, rest, by rw [e]; rfl, h1, h2⟩
theorem Wf.head {es : List Int} {x : Int} {w t : Bd} (h : Wf es (.nd x w t)) : x ∈ es := h.none_of

/-! ### methods, defs that a name holds, instances -/
structure ClM (P : Program) (w : World) (K : PySem.W.Frag) (mg : Str → Option Value) (base : Heap) (k : Nat) (C : Addr) (m : Str) (sp : Sp) : Prop where
  ex : ∃ (f : Addr) (fd : FuncData) (ps : List Str), FnOk P w K mg base CX0 k f fd ps sp ∧ Meth K C m f ∧ Cls K C ∧ Binds K fd ps []
structure ClC (P : Program) (w : World) (K : PySem.W.Frag) (mg : Str → Option Value) (base : Heap) (k : Nat) (x : Str) (C : Addr) (sp : Sp) : Prop where
  ex : ∃ (f : Addr) (fd : FuncData) (ps : List Str), FnOk P w K mg base CX0 k f fd ps sp ∧ Mk K C f ∧ mg x = some (.ref C) ∧ Binds K fd ps []
theorem FnOk.clm {P : Program} {w : World} {K : PySem.W.Frag} {mg : Str → Option Value} {base : Heap} {k : Nat} {C : Addr} {m : Str} {f : Addr} {fd : FuncData} {ps : List Str} {sp : Sp} (h : FnOk P w K mg base CX0 k f fd ps sp) (mt : Meth K C m f) (cl : Cls K C) (b : Binds K fd ps []) : ClM P w K mg base k C m sp := ⟨f, fd, ps, h, mt, cl, b⟩
section
variable {X : Cx} {k j i : Nat} {m x : Str} {C : Addr} {sp : Sp} {p pos apos : Pos} {o e : Expr} {es : List Expr} {t : TA} {ta : TE}
theorem pe_mt {pl : Sem Bool} (c : ClM X.prog X.w X.K X.mg X.base k C m sp) (hr : Room j X.A) (hk : k ≤ j) (he : PE X o ta) (ha : PA X (e :: es) t) (hst : starEach (e :: es) X.env = (false, eval e X.env) :: starEach es X.env := by rfl) (hpl : (backTo pos (starEach es X.env)).any (·.1) = false := by rfl)
    (ht : eval (.Call (.Attribute o m apos) (e :: es) [] pos) X.env = (do let ov ← eval o X.env; standAt apos.atName; let (f, first) ← holding [ov] (getMethod ov m pl); callWith pos f first (backTo pos (starEach (e :: es) X.env)) (backToKw pos (keywordEach [] X.env))) := by rfl) : PE X (.Call (.Attribute o m apos) (e :: es) [] pos) (tMeth C m sp [] E0 ta t) := by
  obtain ⟨f, fd, ps, F, hm, cl, b⟩ := c.ex
  exact pe_meth he cl hm F (hr.mono hk) b .nil pass0 ha hst hpl ht
theorem pe_mt0 {pl : Sem Bool} (c : ClM X.prog X.w X.K X.mg X.base k C m sp) (hr : Room j X.A) (hk : k ≤ j) (he : PE X o ta)
    (ht : eval (.Call (.Attribute o m apos) [] [] pos) X.env = (do let ov ← eval o X.env; standAt apos.atName; let (f, first) ← holding [ov] (getMethod ov m pl); callWith pos f first (backTo pos (starEach [] X.env)) (backToKw pos (keywordEach [] X.env))) := by rfl) : PE X (.Call (.Attribute o m apos) [] [] pos) (tMeth C m sp [] E0 ta tNil) := by
  obtain ⟨f, fd, ps, F, hm, cl, b⟩ := c.ex
  exact pe_meth0 he cl hm F (hr.mono hk) b .nil pass0 ht
theorem pe_mk (c : ClC X.prog X.w X.K X.mg X.base k x C sp) (hr : Room j X.A) (hk : k + 1 ≤ j) (hg : L2.Gl X x) (ha : PA X (e :: es) t) (hdb : (x == ("__debug__" : Str)) = false := by decide) (he : starEach (e :: es) X.env = (false, eval e X.env) :: starEach es X.env := by rfl) (hpl : (backTo pos (starEach es X.env)).any (·.1) = false := by rfl) : PE X (.Call (.Name x p) (e :: es) [] pos) (tMake C sp [] E0 t) := by
  obtain ⟨f, fd, ps, F, M, hm, b⟩ := c.ex
  exact pe_make M F (hr.mono hk) hg hm b .nil pass0 ha hdb he hpl
theorem pe_mk0 (c : ClC X.prog X.w X.K X.mg X.base k x C sp) (hr : Room j X.A) (hk : k + 1 ≤ j) (hg : L2.Gl X x) (hdb : (x == ("__debug__" : Str)) = false := by decide) : PE X (.Call (.Name x p) [] [] pos) (tMake C sp [] E0 tNil) := by
  obtain ⟨f, fd, ps, F, M, hm, b⟩ := c.ex
  exact pe_make0 M F (hr.mono hk) hg hm b .nil pass0 hdb
end

/-! ### the store's methods -/
structure DgC (K : PySem.W.Frag) (C : Addr) (mg : Str → Option Value) : Prop where
  cl : Cls K C
  nK : NoAttr K C "kept"
  nN : NoAttr K C "numbers"
  nM : NoAttr K C "combined"
  NEVER : ∃ u, mg "NEVER" = some u ∧ RelV (.int 0) u
  ALWAYS : ∃ u, mg "ALWAYS" = some u ∧ RelV (.int 1) u
  FIRST_NODE : ∃ u, mg "FIRST_NODE" = some u ∧ RelV (.int 2) u
theorem Sto.go {C : Addr} {K : PySem.W.Frag} {H : Hp} {s : SA} {N : Nds} {es : List Int} {L : Nat} (h : Sto C K H s N es L) {m : Str} (h1 : (m == ("kept" : Str)) = false) (h2 : (m == ("numbers" : Str)) = false) (h3 : (m == ("combined" : Str)) = false) {R : Prop} (r : R) : ∃ a dx fs, V.ref s.p = .ref a ∧ H a = some (.ins C dx fs) ∧ fs.lookup m = none ∧ R := by
  obtain ⟨dx, hp⟩ := h.ins
  exact ⟨s.p, dx, _, rfl, hp, sf_no s h1 h2 h3, r⟩
def sp_nof (C : Addr) (K : PySem.W.Frag) : Sp := fun vs H Q _ => ∃ s N es L c n, vs = [.ref s.p, .int ((c : Nat) : Int)] ∧ Sto C K H s N es L ∧ 2 ≤ c ∧ N[c - 2]? = some n ∧ ∀ q, SqT K H q [.int n.1, .int (n.2.1 : Nat), .int (n.2.2 : Nat)] → Q (.ref q) H
def sp_node (C : Addr) (K : PySem.W.Frag) : Sp := fun vs H Q _ => ∃ s N es L x w t W T, vs = [.ref s.p, .int x, .int ((w : Nat) : Int), .int ((t : Nat) : Int)] ∧ Sto C K H s N es L ∧ At N w W ∧ At N t T ∧ N.length + 1 < sizeLine ∧
  ∀ H' M r, FdS s H H' → M.length ≤ 1 → Sto C K H' s (N ++ M) es L → At (N ++ M) r (mkB x W T) → Q (.int ((r : Nat) : Int)) H'
def sp_top (C : Addr) (K : PySem.W.Frag) : Sp := fun vs H Q _ => ∃ s N es L pre es' a, ∃ cs : List (Nat × Bd), vs = [.ref s.p, .ref a] ∧ Sto C K H s N es L ∧ SqT K H a (cs.map fun c => .int ((c.1 : Nat) : Int)) ∧ es = pre ++ es' ∧ cs.length ≤ 3 ∧ (∀ c ∈ cs, At N c.1 c.2 ∧ Wf es' c.2) ∧ (∃ c ∈ cs, 2 ≤ c.1) ∧
  ∀ H' pre2 x es2, Same H H' → es' = pre2 ++ x :: es2 → (∀ c ∈ cs, Wf (x :: es2) c.2) → Q (.int x) H'
def sp_bra (C : Addr) (K : PySem.W.Frag) : Sp := fun vs H Q _ => ∃ s N es L x es2 c A, vs = [.ref s.p, .int ((c : Nat) : Int), .int x] ∧ Sto C K H s N es L ∧ At N c A ∧ Wf (x :: es2) A ∧ x ∉ es2 ∧
  ∀ H' q w t, Same H H' → H' q = some (.tup [.int ((w : Nat) : Int), .int ((t : Nat) : Int)]) → At N w (A.cw x) → At N t (A.ct x) → Q (.ref q) H'
def sp_comb (C : Addr) (K : PySem.W.Frag) (n : Nat) : Sp := fun vs H Q _ => ∃ s N es L pre es' c a b A B D, vs = [.ref s.p, .int ((c : Nat) : Int), .int ((a : Nat) : Int), .int ((b : Nat) : Int)] ∧ Sto C K H s N es L ∧ es = pre ++ es' ∧ es'.length < n ∧ At N c A ∧ At N a B ∧ At N b D ∧ Wf es' A ∧ Wf es' B ∧ Wf es' D ∧
  N.length + 2 ^ es'.length < sizeLine ∧ L + 2 ^ es'.length < sizeLine ∧
  ∀ H' M r T, FdS s H H' → M.length + 1 ≤ 2 ^ es'.length → Sto C K H' s (N ++ M) es (L + (2 ^ es'.length - 1)) → At (N ++ M) r T → IsIte es' A B D T → Q (.int ((r : Nat) : Int)) H'
section
variable {P : Program} {w : World} {K : PySem.W.Frag} {mg : Str → Option Value} {base : Heap}
theorem ok_nof {f C : Addr} {fd : FuncData} (F : Fun K "node_of" "Diagrams.node_of" s_Diagrams_node_of f fd) (M : Mg mg) (G : DgC K C mg) : FnOk P w K mg base CX0 1 f fd ["self", "condition"] (sp_nof C K) := by
  refine F.ok sc_Diagrams_node_of (fun vs H Q E h => ?_) (fun cdv A outer s H vs Q E hr h => ?_)
  · obtain ⟨s, N, es, L, c, n, rfl, _⟩ := h
    rfl
  · obtain ⟨s, N, es, L, c, n, rfl, st, h2, hn, q⟩ := h
    obtain ⟨dx, xs, a, hp, hk, hat, hq⟩ := st.at h2 hn
    refine ⟨_, (pss_one (ps_ret (pe_ix (ix_listK K) (pe_fld (pv 0) rfl) (pe_op op_sub (pv 1) (C8.pe_gc (by rfl) G.FIRST_NODE)) (fun _ _ => rfl)))), ?_⟩
    exact ⟨_, rfl, s.p, C, dx, _, _, rfl, hp, G.cl, G.nK, sf_kept s, _, rfl, _, _, rfl, rfl, s.k, xs, _, _, rfl, rfl, hk, hat, q a hq⟩
theorem ok_node {f C : Addr} {fd : FuncData} (F : Fun K "node" "Diagrams.node" s_Diagrams_node f fd) (M : Mg mg) (G : DgC K C mg) : FnOk P w K mg base CX0 1 f fd ["self", "entry", "without", "there"] (sp_node C K) := by
  refine F.ok sc_Diagrams_node (fun vs H Q E h => ?_) (fun cdv A outer s H vs Q E hr h => ?_)
  · obtain ⟨s, N, es, L, x, w, t, W, T, rfl, _⟩ := h
    rfl
  · obtain ⟨s, N, es, L, x, w, t, W, T, rfl, st, hw, ht, hz, q⟩ := h
    refine ⟨_, (pss_cons (ps_if (pt_cmpR op_eq (pv 2) (pv 3) (nomark _)) (pss_one (ps_ret (pv 2))) pss_nil)
      (pss_cons (ps_set (i := 4) sc_Diagrams_node.nd rfl (.inl rfl) (pe_tup (pa_cons (pv 1) (pa_cons (pv 2) (pa_cons (pv 3) pa_nil)))))
      (pss_cons (ps_if (pt_cmp (pc_dnotin (hu_of hr) (pv 4) (pe_fld (pv 0) rfl))) (pss_cons (ps_dput (hu_of hr) (pe_fld (pv 0) rfl) (pv 4) (pe_op op_add (pe_callB (len_seqK K) (by rfl) M.len PySem.boot_len (pa_cons (pe_fld (pv 0) rfl) pa_nil)) (C8.pe_gc (by rfl) G.FIRST_NODE)) rfl)
      (pss_one (ps_expr (pe_bmK K PySem.F.plainAttrs_list PySem.F.slot_list_append PySem.F.type_list_append mt_append (pe_fld (pv 0) rfl) (pa_cons (pv 4) pa_nil))))) pss_nil)
      (pss_one (ps_ret (pe_dget (hu_of hr) (pe_fld (pv 0) rfl) (pv 4) (fun _ _ => rfl))))))), ?_⟩
    refine ⟨_, rfl, _, rfl, rfl, _, rfl, ite2 (fun e => ?_) (fun e => ?_)⟩
    · have e1 : w = t := by
        have := V.int.inj (of_decide_eq_true e)
        omega
      subst e1
      have e2 := hw.fn ht
      subst e2
      refine ⟨_, rfl, q H [] w (FdS.refl s H) (Nat.zero_le _) (by rw [List.append_nil]; exact st) ?_⟩
      rw [List.append_nil, show mkB x W W = W from if_pos rfl]
      exact hw
    · have hne : W ≠ T := fun z => by
        subst z
        exact e (by rw [hw.inj st.nd ht]; exact decide_eq_true rfl)
      have em : mkB x W T = .nd x W T := if_neg hne
      rw [em] at q
      refine ⟨_, rfl, _, rfl, _, rfl, by show 3 ≤ sizeLine; decide, fun tp ntp => ?_⟩
      have s1 := same_upd ntp (o := .tup [.int x, .int ((w : Nat) : Int), .int ((t : Nat) : Int)])
      have et : (upd H tp (.tup [.int x, .int ((w : Nat) : Int), .int ((t : Nat) : Int)])) tp = some (.tup ((ky3 x w t).map kV)) := upd_same
      generalize upd H tp (.tup [.int x, .int ((w : Nat) : Int), .int ((t : Nat) : Int)]) = H1 at s1 et
      have st1 := st.ext s1
      obtain ⟨⟨dx, hp⟩, ⟨xs, hk, hxs⟩, ⟨kvs, hu, hkl, hko⟩, ⟨cvs, hm, hcl, hco⟩, hnd, hum, hes⟩ := id st1
      have npk : s.p ≠ s.k := ne_of hp hk (fun z => nomatch z)
      have npu : s.p ≠ s.u := ne_of hp hu (fun z => nomatch z)
      have nku : s.k ≠ s.u := ne_of hk hu (fun z => nomatch z)
      have nkm : s.k ≠ s.m := ne_of hk hm (fun z => nomatch z)
      have ntk : tp ≠ s.k := ne_of et hk (fun z => nomatch z)
      have ntu : tp ≠ s.u := ne_of et hu (fun z => nomatch z)
      refine ⟨_, rfl, _, rfl, s.p, C, dx, _, _, rfl, hp, G.cl, G.nN, sf_num s, s.u, _, rfl, DGet.t hu et, _, rfl, ?_⟩
      cases ev : valV kvs (ky3 x w t) with
      | some v =>
        obtain ⟨i, hi, rfl⟩ := hko.2 _ _ _ _ ev
        refine iteF ?_
        refine ⟨_, rfl, s.p, C, dx, _, _, rfl, hp, G.cl, G.nN, sf_num s, _, rfl, s.u, .int ((i + 2 : Nat) : Int), rfl, ?_, ?_⟩
        · have := DGet.t hu et
          rw [ev] at this
          exact this
        · exact q H1 [] (i + 2) (FdS.of s1) (Nat.zero_le _) (by rw [List.append_nil]; exact st1) (by rw [List.append_nil]; exact .nd hi hw ht)
      | none =>
        have hnew : (x, w, t) ∉ N := hko.1 _ _ _ ev
        have lxs : xs.length = N.length := by rw [DpAll.len hxs, List.length_map]
        refine iteT ?_
        refine ⟨_, rfl, s.p, C, dx, _, _, rfl, hp, G.cl, G.nK, sf_kept s, s.k, xs, rfl, .inl (.of hk), _, _, rfl, rfl, _, rfl, s.p, C, dx, _, _, rfl, hp, G.cl, G.nN, sf_num s, _, rfl, s.u, _, rfl, DPut.t hu et (by omega), ?_⟩
        rw [lxs]
        dsimp only
        rw [show ((N.length : Nat) : Int) + 2 = ((N.length + 2 : Nat) : Int) by omega]
        have hk2 : (upd H1 s.u (.dT (putK kvs (ky3 x w t) (.int ((N.length + 2 : Nat) : Int))))) s.k = some (.lst xs) := by rw [upd_ne nku]; exact hk
        have hp2 : (upd H1 s.u (.dT (putK kvs (ky3 x w t) (.int ((N.length + 2 : Nat) : Int))))) s.p = some (.ins C dx (sfl s)) := by rw [upd_ne npu]; exact hp
        refine ⟨_, rfl, s.p, C, dx, _, _, rfl, hp2, G.cl, G.nK, sf_kept s, .inl ⟨rfl, _, .inl (.inl hk2)⟩, _, rfl, s.k, xs, _, rfl, rfl, hk2, by omega, ?_⟩
        have eu3 : (upd (upd H1 s.u (.dT (putK kvs (ky3 x w t) (.int ((N.length + 2 : Nat) : Int))))) s.k (.lst (xs ++ [.ref tp]))) s.u = some (.dT (putK kvs (ky3 x w t) (.int ((N.length + 2 : Nat) : Int)))) := by rw [upd_ne nku.symm, upd_same]
        have f3 : FdS s H1 (upd (upd H1 s.u (.dT (putK kvs (ky3 x w t) (.int ((N.length + 2 : Nat) : Int))))) s.k (.lst (xs ++ [.ref tp]))) := fun b o n1 n2 n3 hb => by
          rw [upd_ne n1, upd_ne n2]
          exact hb
        have ep3 : (upd (upd H1 s.u (.dT (putK kvs (ky3 x w t) (.int ((N.length + 2 : Nat) : Int))))) s.k (.lst (xs ++ [.ref tp]))) s.p = some (.ins C dx (sfl s)) := by rw [upd_ne npk]; exact hp2
        have em3 : (upd (upd H1 s.u (.dT (putK kvs (ky3 x w t) (.int ((N.length + 2 : Nat) : Int))))) s.k (.lst (xs ++ [.ref tp]))) s.m = some (.dT cvs) := by rw [upd_ne nkm.symm, upd_ne hum.symm]; exact hm
        have ek3 : (upd (upd H1 s.u (.dT (putK kvs (ky3 x w t) (.int ((N.length + 2 : Nat) : Int))))) s.k (.lst (xs ++ [.ref tp]))) s.k = some (.lst (xs ++ [.ref tp])) := upd_same
        have et3 : (upd (upd H1 s.u (.dT (putK kvs (ky3 x w t) (.int ((N.length + 2 : Nat) : Int))))) s.k (.lst (xs ++ [.ref tp]))) tp = some (.tup ((ky3 x w t).map kV)) := by rw [upd_ne ntk, upd_ne ntu]; exact et
        generalize upd (upd H1 s.u (.dT (putK kvs (ky3 x w t) (.int ((N.length + 2 : Nat) : Int))))) s.k (.lst (xs ++ [.ref tp])) = H3 at eu3 f3 ep3 em3 ek3 et3
        have nk : NumsOk (N ++ [(x, w, t)]) (putK kvs (ky3 x w t) (.int ((N.length + 2 : Nat) : Int))) := hko.snoc ev
        have st3 : Sto C K H3 s (N ++ [(x, w, t)]) es L := by
          refine ⟨⟨dx, ep3⟩, ⟨_, ek3, ?_⟩, ⟨_, eu3, ?_, nk⟩, ⟨cvs, em3, hcl, hco.mono⟩, ?_, hum, hes⟩
          · rw [List.map_append]
            exact DpAll.snoc (DpAll.tsn (st1.tup f3) _ _ (nD_only _) hxs) (.tup (.of et3) (.cons (.int _) (.cons (.int _) (.cons (.int _) .nil))))
          · have := length_putK kvs (ky3 x w t) (.int ((N.length + 2 : Nat) : Int))
            rw [List.length_append]
            show _ ≤ _ + 1
            omega
          · rw [List.nodup_append]
            exact ⟨hnd, List.nodup_cons.mpr ⟨List.not_mem_nil, List.nodup_nil⟩, fun a ha b hb z => by
              rw [List.mem_singleton] at hb
              subst z hb
              exact hnew ha⟩
        refine ⟨_, rfl, s.p, C, dx, _, _, rfl, ep3, G.cl, G.nN, sf_num s, _, rfl, s.u, .int ((N.length + 2 : Nat) : Int), rfl, ?_, ?_⟩
        · have := DGet.t eu3 et3
          rw [valV_put, if_pos rfl] at this
          exact this
        · refine q H3 [(x, w, t)] (N.length + 2) ((FdS.of s1).trans f3) (Nat.le_refl _) st3 (.nd ?_ hw.mono ht.mono)
          rw [List.getElem?_append_right (Nat.le_refl _), Nat.sub_self]
          rfl
def topOf : Bd → Option Int
  | .nd x _ _ => some x
  | .lf _ => none
theorem srt_le {pre es : List Int} {x y : Int} (h : (pre ++ x :: es).Pairwise (· < ·)) (hy : y ∈ x :: es) : x ≤ y := by
  have h2 := (List.pairwise_append.mp h).2.1
  rw [List.pairwise_cons] at h2
  rcases List.mem_cons.mp hy with e | hy
  · omega
  · have := h2.1 y hy
    omega
theorem ok_top {f C : Addr} {fd : FuncData} (F : Fun K "top" "Diagrams.top" s_Diagrams_top f fd) (M : Mg mg) (G : DgC K C mg) (c_Diagrams_node_of : ClM P w K mg base 1 C "node_of" (sp_nof C K)) : FnOk P w K mg base CX0 2 f fd ["self", "conditions"] (sp_top C K) := by
  refine F.ok sc_Diagrams_top (fun vs H Q E h => ?_) (fun cdv A outer s H vs Q E hr h => ?_)
  · obtain ⟨s, N, es, L, pre, es', a, cs, rfl, _⟩ := h
    rfl
  · obtain ⟨s, N, es, L, pre, es', a, cs, rfl, st, ha, he, hl, hc, hex, q⟩ := h
    refine ⟨_, (pss_one (ps_ret (pe_callB (cr_min rfl) (by rfl) M.min (by decide +kernel) (pa_cons (pe_lc (own := [("condition", 2)]) (g := gName 2) rfl sc_Diagrams_top.nd (pi_tup (pv 1)) (blkOk_by (N := N_Diagrams_top) (sc := defScope s_Diagrams_top) (by decide +kernel)) (fun _ _ _ _ _ => (pg_name (i := 2) sc_Diagrams_top.nd rfl (.inl rfl))) (fun _ _ _ _ _ => (pts_one (pt_cmpR op_ge (pv 2) (C8.pe_gc (by rfl) G.FIRST_NODE) (nomark _)))) (fun _ _ _ _ _ => (pe_ix (ix_tupK K) (pe_mt c_Diagrams_node_of hr (by first | decide | omega) (pv 0) (pa_cons (pv 2) pa_nil)) pe_int (fun _ _ => rfl)))) pa_nil)))), ?_⟩
    refine ⟨_, rfl, a, rfl, ⟨_, ha⟩, fun D nD => ?_⟩
    refine lc_tup (K := K) (a := a) (xs := cs.map fun c => .int ((c.1 : Nat) : Int)) (fun i Hi => Same H Hi ∧ ∃ ns : List Int, Hi D = some (.lst (ns.map V.int)) ∧ ns.length ≤ i ∧ ns = (cs.take i).filterMap fun c => topOf c.2) ⟨same_upd nD, [], upd_same, Nat.zero_le _, rfl⟩ (fun i Hi _ hp => SqT.ext hp.1 ha) (fun i x Hi hx hp => ?_) (fun Hn hp => ?_)
    · obtain ⟨si, ns, eD, ln, en⟩ := hp
      rw [List.getElem?_map] at hx
      obtain ⟨c, hcv, rfl⟩ := Option.map_eq_some_iff.mp hx
      have hi : i < cs.length := (List.getElem?_eq_some_iff.mp hcv).1
      obtain ⟨hAt, hWf⟩ := hc c (List.mem_of_getElem? hcv)
      have sti := st.ext si
      refine ⟨rfl, ?_⟩
      refine ⟨_, rfl, _, _, rfl, rfl, _, rfl, ite2 (fun e => ?_) (fun e => ?_)⟩
      · have h2 : 2 ≤ c.1 := by
          have := of_decide_eq_true e
          omega
        obtain ⟨e1, w1, t1, a1, b1, hn, hw1, ht1, ea⟩ := hAt.ge h2
        refine ⟨_, rfl, sti.go (by decide +kernel) (by decide +kernel) (by decide +kernel) ⟨_, rfl, ?_⟩⟩
        refine ⟨s, N, es, L, c.1, _, rfl, sti, h2, hn, fun qa hq => ?_⟩
        refine ⟨qa, _, _, _, rfl, rfl, hq, atI_nat (j := 0) rfl, ?_⟩
        refine ⟨_, eD, by rw [List.length_map]; exact Nat.lt_of_le_of_lt ln (Nat.lt_of_lt_of_le hi (Nat.le_trans hl (by decide))), ?_, ns ++ [e1], ?_, ?_, ?_⟩
        · intro b o hb
          rw [upd_ne (ne_of_none hb nD)]
          exact si _ _ hb
        · rw [upd_same, List.map_append]
          rfl
        · rw [List.length_append]
          show _ + 1 ≤ _
          omega
        · rw [List.take_add_one, hcv, List.filterMap_append, ← en]
          show _ = _ ++ ([c].filterMap fun c => topOf c.2)
          rw [List.filterMap_cons, ea]
          rfl
      · have h2 : ¬ 2 ≤ c.1 := by
          intro h
          exact e (decide_eq_true (by omega))
        refine ⟨si, ns, eD, by omega, ?_⟩
        rw [List.take_add_one, hcv, List.filterMap_append, ← en]
        show _ = _ ++ ([c].filterMap fun c => topOf c.2)
        have : topOf c.2 = none := by
          generalize c.1 = cn at hAt h2
          generalize c.2 = A at hAt
          cases hAt with
          | f => rfl
          | t => rfl
          | nd _ _ _ => omega
        rw [List.filterMap_cons, this]
        exact (List.append_nil _).symm
    · obtain ⟨sn, ns, eD, ln, en⟩ := hp
      rw [List.length_map, List.take_of_length_le (Nat.le_refl _)] at en
      obtain ⟨c0, hc0, h20⟩ := hex
      have hex' : ∃ a ∈ cs.map (·.2), ∀ b, a ≠ .lf b := by
        refine ⟨c0.2, List.mem_map.mpr ⟨c0, hc0, rfl⟩, fun b z => ?_⟩
        obtain ⟨_, _, _, _, _, _, _, _, ea⟩ := (hc c0 hc0).1.ge h20
        rw [ea] at z
        cases z
      obtain ⟨pre2, x, es2, ee, hwf, w0, t0, hm0⟩ := top_ex (es := es') (cs := cs.map (·.2)) (fun a ha => by
        obtain ⟨c, hcm, rfl⟩ := List.mem_map.mp ha
        exact (hc c hcm).2) hex'
      have hwf' : ∀ c ∈ cs, Wf (x :: es2) c.2 := fun c hcm => hwf _ (List.mem_map.mpr ⟨c, hcm, rfl⟩)
      have hx : x ∈ ns := by
        obtain ⟨c, hcm, ec⟩ := List.mem_map.mp hm0
        rw [en]
        exact List.mem_filterMap.mpr ⟨c, hcm, by rw [ec]; rfl⟩
      refine ⟨D, ns, rfl, .of eD, List.length_pos_of_mem hx, fun m hm hmin => ?_⟩
      have h1 := hmin x hx
      rw [en] at hm
      obtain ⟨c, hcm, ec⟩ := List.mem_filterMap.mp hm
      have h2 : x ≤ m := by
        have hw := hwf' c hcm
        generalize c.2 = A at hw ec
        cases A with
        | lf b => cases ec
        | nd y w t =>
          have e : y = m := Option.some.inj ec
          subst e
          have srt := st.srt
          rw [he, ee, ← List.append_assoc] at srt
          exact srt_le srt hw.none_of
      obtain rfl : m = x := by omega
      exact q Hn pre2 m es2 sn ee hwf'
theorem ok_bra {f C : Addr} {fd : FuncData} (F : Fun K "branches" "Diagrams.branches" s_Diagrams_branches f fd) (M : Mg mg) (G : DgC K C mg) (c_Diagrams_node_of : ClM P w K mg base 1 C "node_of" (sp_nof C K)) : FnOk P w K mg base CX0 2 f fd ["self", "condition", "entry"] (sp_bra C K) := by
  refine F.ok sc_Diagrams_branches (fun vs H Q E h => ?_) (fun cdv A outer s H vs Q E hr h => ?_)
  · obtain ⟨s, N, es, L, x, es2, c, A, rfl, _⟩ := h
    rfl
  · obtain ⟨s, N, es, L, x, es2, c, A, rfl, st, hAt, hWf, hx, q⟩ := h
    refine ⟨_, (pss_cons (ps_if (pt_cmpR op_ge (pv 1) (C8.pe_gc (by rfl) G.FIRST_NODE) (nomark _)) (pss_cons (ps_asg (pe_mt c_Diagrams_node_of hr (by first | decide | omega) (pv 0) (pa_cons (pv 1) pa_nil)) (pg_tup (by rfl) (pgs_cons (pg_name (i := 3) sc_Diagrams_branches.nd rfl (.inl rfl)) (pgs_cons (pg_name (i := 4) sc_Diagrams_branches.nd rfl (.inl rfl)) (pgs_cons (pg_name (i := 5) sc_Diagrams_branches.nd rfl (.inl rfl)) pgs_nil)))))
      (pss_one (ps_if (pt_cmpR op_eq (pv 3) (pv 2) (nomark _)) (pss_one (ps_ret (pe_tup (pa_cons (pv 4) (pa_cons (pv 5) pa_nil))))) pss_nil))) pss_nil)
      (pss_one (ps_ret (pe_tup (pa_cons (pv 1) (pa_cons (pv 1) pa_nil)))))), ?_⟩
    have both : A.cw x = A → A.ct x = A → ∀ q', H q' = none → Q (.ref q') (upd H q' (.tup [.int ((c : Nat) : Int), .int ((c : Nat) : Int)])) := fun e1 e2 q' nq => by
      refine q _ q' c c (same_upd nq) upd_same ?_ ?_
      · rw [e1]; exact hAt
      · rw [e2]; exact hAt
    refine ⟨_, rfl, _, _, rfl, rfl, _, rfl, ite2 (fun e => ?_) (fun e => ?_)⟩
    · have h2 : 2 ≤ c := by
        have := of_decide_eq_true e
        omega
      obtain ⟨e1, w1, t1, a1, b1, hn, hw1, ht1, ea⟩ := hAt.ge h2
      refine ⟨_, rfl, st.go (by decide +kernel) (by decide +kernel) (by decide +kernel) ⟨_, rfl, ?_⟩⟩
      refine ⟨s, N, es, L, c, _, rfl, st, h2, hn, fun qa hq => ?_⟩
      refine ⟨qa, _, rfl, hq, rfl, _, _, rfl, _, _, rfl, _, _, rfl, rfl, ?_⟩
      refine ⟨_, rfl, _, rfl, rfl, _, rfl, ite2 (fun e => ?_) (fun e => ?_)⟩
      · have ee : e1 = x := V.int.inj (of_decide_eq_true e)
        refine ⟨_, rfl, _, rfl, by show 2 ≤ sizeLine; decide, fun q' nq => ?_⟩
        refine q _ q' w1 t1 (same_upd nq) upd_same ?_ ?_
        · rw [ea, show (Bd.nd e1 a1 b1).cw x = a1 from if_pos ee]; exact hw1
        · rw [ea, show (Bd.nd e1 a1 b1).ct x = b1 from if_pos ee]; exact ht1
      · have ee : e1 ≠ x := fun z => e (by rw [z]; exact decide_eq_true rfl)
        exact ⟨_, rfl, _, rfl, by show 2 ≤ sizeLine; decide, both (by rw [ea]; exact if_neg ee) (by rw [ea]; exact if_neg ee)⟩
    · have hlf : A.cw x = A ∧ A.ct x = A := by
        cases hAt with
        | f => exact ⟨rfl, rfl⟩
        | t => exact ⟨rfl, rfl⟩
        | nd _ _ _ => exact absurd (decide_eq_true (by omega)) e
      exact ⟨_, rfl, _, rfl, by show 2 ≤ sizeLine; decide, both hlf.1 hlf.2⟩
theorem Sto.more {C : Addr} {H : Hp} {s : SA} {N : Nds} {es : List Int} {L L' : Nat} (h : Sto C K H s N es L) (hl : L ≤ L') : Sto C K H s N es L' := by
  obtain ⟨h1, h2, h3, ⟨cvs, h4, h5, h6⟩, h7⟩ := h
  exact ⟨h1, h2, h3, ⟨cvs, h4, Nat.le_trans h5 hl, h6⟩, h7⟩
theorem Sto.put {C : Addr} {H : Hp} {s : SA} {N : Nds} {es : List Int} {L : Nat} (st : Sto C K H s N es L) {c a b r : Nat} {A B D T : Bd} (h1 : At N c A) (h2 : At N a B) (h3 : At N b D) (h4 : At N r T) (h5 : IsIte es A B D T) :
    ∃ cvs, H s.m = some (.dT cvs) ∧ cvs.length ≤ L ∧ Sto C K (upd H s.m (.dT (putK cvs (ky3 c a b) (.int ((r : Nat) : Int))))) s N es (L + 1) ∧ FdS s H (upd H s.m (.dT (putK cvs (ky3 c a b) (.int ((r : Nat) : Int))))) := by
  have f : ∀ cvs, FdS s H (upd H s.m (.dT (putK cvs (ky3 c a b) (.int ((r : Nat) : Int))))) := fun cvs x o n1 n2 n3 e => by
    rw [upd_ne n3]
    exact e
  obtain ⟨⟨dx, hp⟩, ⟨xs, hk, hxs⟩, ⟨kvs, hu, hkl, hko⟩, ⟨cvs, hm, hcl, hco⟩, hnd, hum, hes⟩ := id st
  refine ⟨cvs, hm, hcl, ⟨⟨dx, ?_⟩, ⟨xs, ?_, ?_⟩, ⟨kvs, ?_, hkl, hko⟩, ⟨_, upd_same, ?_, hco.put h1 h2 h3 h4 h5⟩, hnd, hum, hes⟩, f cvs⟩
  · rw [upd_ne (ne_of hp hm (fun z => nomatch z))]; exact hp
  · rw [upd_ne (ne_of hk hm (fun z => nomatch z))]; exact hk
  · exact DpAll.tsn (st.tup (f cvs)) _ _ (nD_only _) hxs
  · rw [upd_ne hum]; exact hu
  · have := length_putK cvs (ky3 c a b) (.int ((r : Nat) : Int))
    omega
set_option maxHeartbeats 4000000 in
theorem ok_comb (n : Nat) {f C : Addr} {fd : FuncData} (F : Fun K "combine" "Diagrams.combine" s_Diagrams_combine f fd) (M : Mg mg) (G : DgC K C mg) (c_Diagrams_node : ClM P w K mg base 1 C "node" (sp_node C K)) (c_Diagrams_top : ClM P w K mg base 2 C "top" (sp_top C K)) (c_Diagrams_branches : ClM P w K mg base 2 C "branches" (sp_bra C K))
    (c_Diagrams_combine : ClM P w K mg base (n + 2) C "combine" (sp_comb C K n)) : FnOk P w K mg base CX0 (n + 3) f fd ["self", "condition", "first", "second"] (sp_comb C K (n + 1)) := by
  refine F.ok sc_Diagrams_combine (fun vs H Q E h => ?_) (fun cdv A outer s H vs Q E hr h => ?_)
  · obtain ⟨s, N, es, L, pre, es', c, a, b, A, B, D, rfl, _⟩ := h
    rfl
  · obtain ⟨s, N, es, L, pre, es', c, a, b, A, B, D, rfl, st, he, hn, hA, hB, hD, wA, wB, wD, z1, z2, q⟩ := h
    have hp1 : 1 ≤ 2 ^ es'.length := Nat.one_le_two_pow
    have ret : ∀ H1 r T, Same H H1 → At N r T → IsIte es' A B D T → Q (.int ((r : Nat) : Int)) H1 := fun H1 r T s1 h1 h2 => q H1 [] r T (FdS.of s1) (by rw [List.length_nil]; exact hp1) (by rw [List.append_nil]; exact (st.ext s1).more (Nat.le_add_right _ _)) (by rw [List.append_nil]; exact h1) h2
    have inat : ∀ {x y : Nat}, decide (V.int ((x : Nat) : Int) = V.int ((y : Nat) : Int)) = true → x = y := fun {x y} e => by
      have := V.int.inj (of_decide_eq_true e)
      omega
    refine ⟨_, (pss_cons (ps_if (PW.pt (pw_or (pt_cmpR op_eq (pv 1) (C8.pe_gc (by rfl) G.ALWAYS) (nomark _)) (pw_or1 (pt_cmpR op_eq (pv 2) (pv 3) (nomark _))))) (pss_one (ps_ret (pv 2))) pss_nil)
      (pss_cons (ps_if (pt_cmpR op_eq (pv 1) (C8.pe_gc (by rfl) G.NEVER) (nomark _)) (pss_one (ps_ret (pv 3))) pss_nil)
      (pss_cons (ps_set (i := 4) sc_Diagrams_combine.nd rfl (.inl rfl) (pe_tup (pa_cons (pv 1) (pa_cons (pv 2) (pa_cons (pv 3) pa_nil)))))
      (pss_cons (ps_if (pt_cmp (pc_dnotin (hu_of hr) (pv 4) (pe_fld (pv 0) rfl))) (pss_cons (ps_set (i := 5) sc_Diagrams_combine.nd rfl (.inl rfl) (pe_mt c_Diagrams_top hr (by first | decide | omega) (pv 0) (pa_cons (pv 4) pa_nil)))
      (pss_cons (ps_asg (pe_mt c_Diagrams_branches hr (by first | decide | omega) (pv 0) (pa_cons (pv 1) (pa_cons (pv 5) pa_nil))) (pg_tup (by rfl) (pgs_cons (pg_name (i := 6) sc_Diagrams_combine.nd rfl (.inl rfl)) (pgs_cons (pg_name (i := 7) sc_Diagrams_combine.nd rfl (.inl rfl)) pgs_nil))))
      (pss_cons (ps_asg (pe_mt c_Diagrams_branches hr (by first | decide | omega) (pv 0) (pa_cons (pv 2) (pa_cons (pv 5) pa_nil))) (pg_tup (by rfl) (pgs_cons (pg_name (i := 8) sc_Diagrams_combine.nd rfl (.inl rfl)) (pgs_cons (pg_name (i := 9) sc_Diagrams_combine.nd rfl (.inl rfl)) pgs_nil))))
      (pss_cons (ps_asg (pe_mt c_Diagrams_branches hr (by first | decide | omega) (pv 0) (pa_cons (pv 3) (pa_cons (pv 5) pa_nil))) (pg_tup (by rfl) (pgs_cons (pg_name (i := 10) sc_Diagrams_combine.nd rfl (.inl rfl)) (pgs_cons (pg_name (i := 11) sc_Diagrams_combine.nd rfl (.inl rfl)) pgs_nil))))
      (pss_one (ps_dput (hu_of hr) (pe_fld (pv 0) rfl) (pv 4) (pe_mt c_Diagrams_node hr (by first | decide | omega) (pv 0) (pa_cons (pv 5) (pa_cons (pe_mt c_Diagrams_combine hr (by first | decide | omega) (pv 0) (pa_cons (pv 6) (pa_cons (pv 8) (pa_cons (pv 10) pa_nil)))) (pa_cons (pe_mt c_Diagrams_combine hr (by first | decide | omega) (pv 0) (pa_cons (pv 7) (pa_cons (pv 9) (pa_cons (pv 11) pa_nil)))) pa_nil)))) rfl)))))) pss_nil)
      (pss_one (ps_ret (pe_dget (hu_of hr) (pe_fld (pv 0) rfl) (pv 4) (fun _ _ => rfl)))))))), ?_⟩
    refine ⟨_, rfl, rfl, _, rfl, ite2 (fun e => ?_) (fun e => ?_)⟩
    · obtain rfl : c = 1 := inat (y := 1) e
      have eA := hA.fn .t
      exact ⟨_, rfl, ret H a B (fun _ _ h => h) hB ⟨wB, fun r => by rw [eA]; exact (if_pos rfl).symm⟩⟩
    refine ⟨_, rfl, _, rfl, rfl, _, rfl, ite2 (fun e2 => ?_) (fun e2 => ?_)⟩
    · obtain rfl := inat e2
      have eB := hB.fn hD
      exact ⟨_, rfl, ret H a B (fun _ _ h => h) hB ⟨wB, fun r => by rw [← eB]; split <;> rfl⟩⟩
    refine ⟨_, rfl, rfl, _, rfl, ite2 (fun e3 => ?_) (fun e3 => ?_)⟩
    · obtain rfl : c = 0 := inat (y := 0) e3
      have eA := hA.fn .f
      exact ⟨_, rfl, ret H b D (fun _ _ h => h) hD ⟨wD, fun r => by rw [eA]; exact (if_neg Bool.false_ne_true).symm⟩⟩
    have hc2 : 2 ≤ c := by
      have g1 : c ≠ 1 := fun z => e (by subst z; exact decide_eq_true rfl)
      have g0 : c ≠ 0 := fun z => e3 (by subst z; exact decide_eq_true rfl)
      omega
    refine ⟨_, rfl, _, rfl, _, rfl, by show 3 ≤ sizeLine; decide, fun tp ntp => ?_⟩
    have s1 := same_upd ntp (o := .tup [.int ((c : Nat) : Int), .int ((a : Nat) : Int), .int ((b : Nat) : Int)])
    have et : (upd H tp (.tup [.int ((c : Nat) : Int), .int ((a : Nat) : Int), .int ((b : Nat) : Int)])) tp = some (.tup ((ky3 c a b).map kV)) := upd_same
    generalize upd H tp (.tup [.int ((c : Nat) : Int), .int ((a : Nat) : Int), .int ((b : Nat) : Int)]) = H1 at s1 et
    have st1 := st.ext s1
    obtain ⟨⟨dx, hp⟩, _, _, ⟨cvs, hm, hcl, hco⟩, _⟩ := id st1
    refine ⟨_, rfl, _, rfl, s.p, C, dx, _, _, rfl, hp, G.cl, G.nM, sf_comb s, s.m, _, rfl, DGet.t hm et, _, rfl, ?_⟩
    cases ev : valV cvs (ky3 c a b) with
    | some v =>
      obtain ⟨r, A', B', D', T, rfl, h1, h2, h3, h4, h5⟩ := hco _ _ _ _ ev
      have e1 := h1.fn hA
      have e2' := h2.fn hB
      have e3' := h3.fn hD
      subst e1 e2' e3'
      refine iteF ⟨_, rfl, s.p, C, dx, _, _, rfl, hp, G.cl, G.nM, sf_comb s, _, rfl, s.m, .int ((r : Nat) : Int), rfl, ?_, ?_⟩
      · have := DGet.t hm et
        rw [ev] at this
        exact this
      · refine ret H1 r T s1 h4 (ite_low (pre := pre) (by rw [← he]; exact st.es_nd) wA wB wD (by rw [← he]; exact h5))
    | none =>
      refine iteT ?_
      refine ⟨_, rfl, st1.go (by decide +kernel) (by decide +kernel) (by decide +kernel) ⟨_, rfl, ?_⟩⟩
      refine ⟨s, N, es, L, pre, es', tp, [(c, A), (a, B), (b, D)], rfl, st1, .of et, he, Nat.le_refl _, ?_, ⟨(c, A), List.mem_cons_self, hc2⟩, fun H2 pre2 x es2 s2 ee hw => ?_⟩
      · intro y hy
        simp only [List.mem_cons, List.not_mem_nil, or_false] at hy
        rcases hy with rfl | rfl | rfl
        · exact ⟨hA, wA⟩
        · exact ⟨hB, wB⟩
        · exact ⟨hD, wD⟩
      have st2 := st1.ext s2
      have vA := hw (c, A) (by simp)
      have vB := hw (a, B) (by simp)
      have vD := hw (b, D) (by simp)
      have hx : x ∉ es2 := by
        have := st.es_nd
        rw [he, ee] at this
        exact (List.nodup_cons.mp (List.nodup_append.mp (List.nodup_append.mp this).2.1).2.1).1
      refine ⟨_, rfl, st2.go (by decide +kernel) (by decide +kernel) (by decide +kernel) ⟨_, rfl, _, rfl, ?_⟩⟩
      refine ⟨s, N, es, L, x, es2, c, A, rfl, st2, hA, vA, hx, fun H3 q3 w1 t1 s3 e3 hw1 ht1 => ?_⟩
      refine ⟨q3, _, rfl, .of e3, rfl, _, _, rfl, _, _, rfl, rfl, ?_⟩
      have st3 := st2.ext s3
      refine ⟨_, rfl, st3.go (by decide +kernel) (by decide +kernel) (by decide +kernel) ⟨_, rfl, _, rfl, ?_⟩⟩
      refine ⟨s, N, es, L, x, es2, a, B, rfl, st3, hB, vB, hx, fun H4 q4 w2 t2 s4 e4 hw2 ht2 => ?_⟩
      refine ⟨q4, _, rfl, .of e4, rfl, _, _, rfl, _, _, rfl, rfl, ?_⟩
      have st4 := st3.ext s4
      refine ⟨_, rfl, st4.go (by decide +kernel) (by decide +kernel) (by decide +kernel) ⟨_, rfl, _, rfl, ?_⟩⟩
      refine ⟨s, N, es, L, x, es2, b, D, rfl, st4, hD, vD, hx, fun H5 q5 w3 t3 s5 e5 hw3 ht3 => ?_⟩
      refine ⟨q5, _, rfl, .of e5, rfl, _, _, rfl, _, _, rfl, rfl, ?_⟩
      have st5 := st4.ext s5
      have s25 := ((s2.trans s3).trans s4).trans s5
      have et5 := s25 _ _ et
      have lee : es'.length = pre2.length + (es2.length + 1) := by rw [ee, List.length_append, List.length_cons]
      have hpow : 2 ^ es2.length + 2 ^ es2.length ≤ 2 ^ es'.length := by
        have : 2 ^ (es2.length + 1) ≤ 2 ^ es'.length := Nat.pow_le_pow_right (by decide) (by omega)
        rw [Nat.pow_succ] at this
        omega
      have hp2 : 1 ≤ 2 ^ es2.length := Nat.one_le_two_pow
      have he2 : es = (pre ++ pre2 ++ [x]) ++ es2 := by rw [he, ee]; simp
      refine ⟨_, rfl, st5.go (by decide +kernel) (by decide +kernel) (by decide +kernel) ⟨_, rfl, ?_⟩⟩
      refine ⟨_, rfl, st5.go (by decide +kernel) (by decide +kernel) (by decide +kernel) ⟨_, rfl, _, rfl, _, rfl, ?_⟩⟩
      refine ⟨s, N, es, L, pre ++ pre2 ++ [x], es2, w1, w2, w3, A.cw x, B.cw x, D.cw x, rfl, st5, he2, by omega, hw1, hw2, hw3, (vA.cw hx).1, (vB.cw hx).1, (vD.cw hx).1, by omega, by omega, fun H6 M1 r1 T1 f6 l1 st6 a1 i1 => ?_⟩
      refine ⟨_, rfl, st6.go (by decide +kernel) (by decide +kernel) (by decide +kernel) ⟨_, rfl, _, rfl, _, rfl, ?_⟩⟩
      refine ⟨s, N ++ M1, es, _, pre ++ pre2 ++ [x], es2, t1, t2, t3, A.ct x, B.ct x, D.ct x, rfl, st6, he2, by omega, ht1.mono, ht2.mono, ht3.mono, (vA.ct hx).1, (vB.ct hx).1, (vD.ct hx).1, by rw [List.length_append]; omega, by omega, fun H7 M2 r2 T2 f7 l2 st7 a2 i2 => ?_⟩
      refine ⟨s, (N ++ M1) ++ M2, es, _, x, r1, r2, T1, T2, rfl, st7, a1.mono, a2, by rw [List.length_append, List.length_append]; omega, fun H8 M3 r f8 l3 st8 a3 => ?_⟩
      have f58 := (f6.trans f7).trans f8
      have et8 := st5.tup f58 _ _ (.inl ⟨_, rfl⟩) et5
      have eN : N ++ M1 ++ M2 ++ M3 = N ++ (M1 ++ M2 ++ M3) := by simp only [List.append_assoc]
      rw [eN] at st8 a3
      have hI : IsIte es' A B D (mkB x T1 T2) := by
        rw [ee]
        exact (ite_step hx vA vB vD i1 i2).skips pre2
      obtain ⟨cv8, hm8, hl8, st9, f9⟩ := st8.put (hA.mono (M := M1 ++ M2 ++ M3)) (hB.mono (M := M1 ++ M2 ++ M3)) (hD.mono (M := M1 ++ M2 ++ M3)) a3 (by rw [he]; exact hI.skips pre)
      obtain ⟨dx8, hp8⟩ := st8.ins
      refine ⟨_, rfl, s.p, C, dx8, _, _, rfl, hp8, G.cl, G.nM, sf_comb s, _, rfl, s.m, _, rfl, DPut.t hm8 et8 (by omega), ?_⟩
      obtain ⟨dx9, hp9⟩ := st9.ins
      have et9 := st8.tup f9 _ _ (.inl ⟨_, rfl⟩) et8
      have em9 : (upd H8 s.m (.dT (putK cv8 (ky3 c a b) (.int ((r : Nat) : Int))))) s.m = some (.dT (putK cv8 (ky3 c a b) (.int ((r : Nat) : Int)))) := upd_same
      refine ⟨_, rfl, s.p, C, dx9, _, _, rfl, hp9, G.cl, G.nM, sf_comb s, _, rfl, s.m, .int ((r : Nat) : Int), rfl, ?_, ?_⟩
      · have := DGet.t em9 et9
        rw [valV_put, if_pos rfl] at this
        exact this
      · refine q _ (M1 ++ M2 ++ M3) r _ (((FdS.of (s1.trans s25)).trans f58).trans f9) ?_ (st9.more ?_) a3 hI
        · rw [List.length_append, List.length_append]
          omega
        · omega
end

/-! ### the operations, and what is said of a condition -/
theorem inV_int (e : Int) (ps : List Int) : inV (.int e) (ps.map V.int) = decide (e ∈ ps) := by
  unfold inV
  rw [List.any_map]
  by_cases h : e ∈ ps
  · rw [decide_eq_true h, List.any_eq_true]
    exact ⟨e, h, beq_self_eq_true e⟩
  · rw [decide_eq_false h]
    cases h2 : ps.any ((fun y => eqV y (.int e)) ∘ V.int) with
    | false => rfl
    | true =>
      exfalso
      obtain ⟨y, hy, hb⟩ := List.any_eq_true.mp h2
      have : y = e := eq_of_beq hb
      exact h (this ▸ hy)
theorem ints_flat (ps : List Int) : (ps.map V.int).all flatV = true := by
  rw [List.all_map]
  exact List.all_eq_true.mpr fun _ _ => rfl
def Bd.ht : Bd → Nat
  | .lf _ => 0
  | .nd _ w t => max w.ht t.ht + 1
def sp_there (C : Addr) (K : PySem.W.Frag) : Sp := fun vs H Q _ => ∃ s N es L x, vs = [.ref s.p, .int x] ∧ Sto C K H s N es L ∧ N.length + 1 < sizeLine ∧
  ∀ H' M r, FdS s H H' → M.length ≤ 1 → Sto C K H' s (N ++ M) es L → At (N ++ M) r (.nd x (.lf false) (.lf true)) → Q (.int ((r : Nat) : Int)) H'
def opB (es : List Int) : Nat := 2 * 2 ^ es.length
def sp_op2 (C : Addr) (K : PySem.W.Frag) (n : Nat) (f : Bool → Bool → Bool) : Sp := fun vs H Q _ => ∃ s N es L a b A B, vs = [.ref s.p, .int ((a : Nat) : Int), .int ((b : Nat) : Int)] ∧ Sto C K H s N es L ∧ es.length < n ∧ At N a A ∧ At N b B ∧ Wf es A ∧ Wf es B ∧ N.length + opB es < sizeLine ∧ L + opB es < sizeLine ∧
  ∀ H' M r T, FdS s H H' → M.length ≤ opB es → Sto C K H' s (N ++ M) es (L + opB es) → At (N ++ M) r T → Wf es T → (∀ ρ, T.ev ρ = f (A.ev ρ) (B.ev ρ)) → Q (.int ((r : Nat) : Int)) H'
def sp_neg (C : Addr) (K : PySem.W.Frag) (n : Nat) : Sp := fun vs H Q _ => ∃ s N es L a A, vs = [.ref s.p, .int ((a : Nat) : Int)] ∧ Sto C K H s N es L ∧ es.length < n ∧ At N a A ∧ Wf es A ∧ N.length + 2 ^ es.length < sizeLine ∧ L + 2 ^ es.length < sizeLine ∧
  ∀ H' M r T, FdS s H H' → M.length ≤ 2 ^ es.length → Sto C K H' s (N ++ M) es (L + 2 ^ es.length) → At (N ++ M) r T → Wf es T → (∀ ρ, T.ev ρ = !(A.ev ρ)) → Q (.int ((r : Nat) : Int)) H'
def sp_holds (C : Addr) (K : PySem.W.Frag) : Sp := fun vs H Q _ => ∃ s N es L c A a, ∃ ps : List Int, vs = [.ref s.p, .int ((c : Nat) : Int), .ref a] ∧ Sto C K H s N es L ∧ At N c A ∧ SqL K H a (ps.map V.int) ∧ Q (.bl (A.ev fun e => decide (e ∈ ps))) H
def sp_dinit (C : Addr) (K : PySem.W.Frag) : Sp := fun vs H Q _ => ∃ p dx, vs = [.ref p] ∧ H p = some (.ins C dx []) ∧ ∀ H' s, s.p = p → Fd p H H' → H s.k = none → H s.u = none → H s.m = none → (∀ es : List Int, es.Pairwise (· < ·) → Sto C K H' s [] es 0) → Q .non H'
theorem dk1 : ¬ (("kept" : Str) = "numbers") := by decide +kernel
theorem dk2 : ¬ (("kept" : Str) = "combined") := by decide +kernel
theorem dk3 : ¬ (("numbers" : Str) = "combined") := by decide +kernel
theorem sf_mk (s : SA) : putF "combined" (.ref s.m) (putF "numbers" (.ref s.u) (putF "kept" (.ref s.k) [])) = sfl s := by
  unfold sfl
  simp only [putF, if_neg dk1, if_neg dk2, if_neg dk3]
section
variable {P : Program} {w : World} {K : PySem.W.Frag} {mg : Str → Option Value} {base : Heap}
theorem cl_comb {f C : Addr} {fd : FuncData} (F : Fun K "combine" "Diagrams.combine" s_Diagrams_combine f fd) (M : Mg mg) (G : DgC K C mg) (mt : Meth K C "combine" f) (bi : Binds K fd ["self", "condition", "first", "second"] []) (c_Diagrams_node : ClM P w K mg base 1 C "node" (sp_node C K)) (c_Diagrams_top : ClM P w K mg base 2 C "top" (sp_top C K)) (c_Diagrams_branches : ClM P w K mg base 2 C "branches" (sp_bra C K)) :
    ∀ n, ClM P w K mg base (n + 2) C "combine" (sp_comb C K n)
  | 0 => FnOk.clm (P := P) (w := w) (base := base) (mg := mg) (F.ok sc_Diagrams_combine (fun vs H Q E h => by obtain ⟨s, N, es, L, pre, es', c, a, b, A, B, D, rfl, _⟩ := h; rfl) (fun cdv A outer s H vs Q E hr h => by obtain ⟨s, N, es, L, pre, es', c, a, b, A, B, D, rfl, st, he, hn, _⟩ := h; omega)) mt G.cl bi
  | n + 1 => FnOk.clm (ok_comb n F M G c_Diagrams_node c_Diagrams_top c_Diagrams_branches (cl_comb F M G mt bi c_Diagrams_node c_Diagrams_top c_Diagrams_branches n)) mt G.cl bi
theorem ok_there {f C : Addr} {fd : FuncData} (F : Fun K "there" "Diagrams.there" s_Diagrams_there f fd) (M : Mg mg) (G : DgC K C mg) (c_Diagrams_node : ClM P w K mg base 1 C "node" (sp_node C K)) : FnOk P w K mg base CX0 2 f fd ["self", "entry"] (sp_there C K) := by
  refine F.ok sc_Diagrams_there (fun vs H Q E h => ?_) (fun cdv A outer s H vs Q E hr h => ?_)
  · obtain ⟨s, N, es, L, x, rfl, _⟩ := h
    rfl
  · obtain ⟨s, N, es, L, x, rfl, st, hz, q⟩ := h
    refine ⟨_, (pss_one (ps_ret (pe_mt c_Diagrams_node hr (by first | decide | omega) (pv 0) (pa_cons (pv 1) (pa_cons (C8.pe_gc (by rfl) G.NEVER) (pa_cons (C8.pe_gc (by rfl) G.ALWAYS) pa_nil)))))), ?_⟩
    refine ⟨_, rfl, st.go (by decide +kernel) (by decide +kernel) (by decide +kernel) ⟨_, rfl, ?_⟩⟩
    exact ⟨s, N, es, L, x, 0, 1, _, _, rfl, st, .f, .t, hz, fun H' M r f l st' a => q H' M r f l st' a⟩
theorem opB_ge (es : List Int) : 2 ^ es.length + 2 ^ es.length = opB es := by unfold opB; omega
theorem ok_conj {n : Nat} {f C : Addr} {fd : FuncData} (F : Fun K "conjunction" "Diagrams.conjunction" s_Diagrams_conjunction f fd) (M : Mg mg) (G : DgC K C mg) (c_Diagrams_combine : ClM P w K mg base (n + 2) C "combine" (sp_comb C K n)) : FnOk P w K mg base CX0 (n + 3) f fd ["self", "first", "second"] (sp_op2 C K n and) := by
  refine F.ok sc_Diagrams_conjunction (fun vs H Q E h => ?_) (fun cdv A outer s H vs Q E hr h => ?_)
  · obtain ⟨s, N, es, L, a, b, A, B, rfl, _⟩ := h
    rfl
  · obtain ⟨s, N, es, L, a, b, A, B, rfl, st, hn, hA, hB, wA, wB, z1, z2, q⟩ := h
    have ob := opB_ge es
    refine ⟨_, (pss_one (ps_ret (pe_mt c_Diagrams_combine hr (by first | decide | omega) (pv 0) (pa_cons (pv 1) (pa_cons (pv 2) (pa_cons (C8.pe_gc (by rfl) G.NEVER) pa_nil)))))), ?_⟩
    refine ⟨_, rfl, st.go (by decide +kernel) (by decide +kernel) (by decide +kernel) ⟨_, rfl, _, rfl, ?_⟩⟩
    refine ⟨s, N, es, L, [], es, a, b, 0, A, B, _, rfl, st, rfl, hn, hA, hB, .f, wA, wB, .lf, by omega, by omega, fun H' M r T f l st' a i => q H' M r T f (by omega) (st'.more (by omega)) a i.1 fun ρ => ?_⟩
    rw [i.2]
    cases A.ev ρ <;> rfl
theorem ok_disj {n : Nat} {f C : Addr} {fd : FuncData} (F : Fun K "disjunction" "Diagrams.disjunction" s_Diagrams_disjunction f fd) (M : Mg mg) (G : DgC K C mg) (c_Diagrams_combine : ClM P w K mg base (n + 2) C "combine" (sp_comb C K n)) : FnOk P w K mg base CX0 (n + 3) f fd ["self", "first", "second"] (sp_op2 C K n or) := by
  refine F.ok sc_Diagrams_disjunction (fun vs H Q E h => ?_) (fun cdv A outer s H vs Q E hr h => ?_)
  · obtain ⟨s, N, es, L, a, b, A, B, rfl, _⟩ := h
    rfl
  · obtain ⟨s, N, es, L, a, b, A, B, rfl, st, hn, hA, hB, wA, wB, z1, z2, q⟩ := h
    have ob := opB_ge es
    refine ⟨_, (pss_one (ps_ret (pe_mt c_Diagrams_combine hr (by first | decide | omega) (pv 0) (pa_cons (pv 1) (pa_cons (C8.pe_gc (by rfl) G.ALWAYS) (pa_cons (pv 2) pa_nil)))))), ?_⟩
    refine ⟨_, rfl, st.go (by decide +kernel) (by decide +kernel) (by decide +kernel) ⟨_, rfl, _, rfl, ?_⟩⟩
    refine ⟨s, N, es, L, [], es, a, 1, b, A, _, B, rfl, st, rfl, hn, hA, .t, hB, wA, .lf, wB, by omega, by omega, fun H' M r T f l st' a i => q H' M r T f (by omega) (st'.more (by omega)) a i.1 fun ρ => ?_⟩
    rw [i.2]
    cases A.ev ρ <;> rfl
theorem ok_neg {n : Nat} {f C : Addr} {fd : FuncData} (F : Fun K "negation" "Diagrams.negation" s_Diagrams_negation f fd) (M : Mg mg) (G : DgC K C mg) (c_Diagrams_combine : ClM P w K mg base (n + 2) C "combine" (sp_comb C K n)) : FnOk P w K mg base CX0 (n + 3) f fd ["self", "condition"] (sp_neg C K n) := by
  refine F.ok sc_Diagrams_negation (fun vs H Q E h => ?_) (fun cdv A outer s H vs Q E hr h => ?_)
  · obtain ⟨s, N, es, L, a, A, rfl, _⟩ := h
    rfl
  · obtain ⟨s, N, es, L, a, A, rfl, st, hn, hA, wA, z1, z2, q⟩ := h
    refine ⟨_, (pss_one (ps_ret (pe_mt c_Diagrams_combine hr (by first | decide | omega) (pv 0) (pa_cons (pv 1) (pa_cons (C8.pe_gc (by rfl) G.NEVER) (pa_cons (C8.pe_gc (by rfl) G.ALWAYS) pa_nil)))))), ?_⟩
    refine ⟨_, rfl, st.go (by decide +kernel) (by decide +kernel) (by decide +kernel) ⟨_, rfl, ?_⟩⟩
    refine ⟨s, N, es, L, [], es, a, 0, 1, A, _, _, rfl, st, rfl, hn, hA, .f, .t, wA, .lf, .lf, by omega, by omega, fun H' M r T f l st' a i => q H' M r T f (by omega) (st'.more (by omega)) a i.1 fun ρ => ?_⟩
    rw [i.2]
    cases A.ev ρ <;> rfl
theorem ok_diff {n : Nat} {f C : Addr} {fd : FuncData} (F : Fun K "differs" "Diagrams.differs" s_Diagrams_differs f fd) (M : Mg mg) (G : DgC K C mg) (c_Diagrams_combine : ClM P w K mg base (n + 2) C "combine" (sp_comb C K n)) (c_Diagrams_negation : ClM P w K mg base (n + 3) C "negation" (sp_neg C K n)) : FnOk P w K mg base CX0 (n + 4) f fd ["self", "first", "second"] (sp_op2 C K n bne) := by
  refine F.ok sc_Diagrams_differs (fun vs H Q E h => ?_) (fun cdv A outer s H vs Q E hr h => ?_)
  · obtain ⟨s, N, es, L, a, b, A, B, rfl, _⟩ := h
    rfl
  · obtain ⟨s, N, es, L, a, b, A, B, rfl, st, hn, hA, hB, wA, wB, z1, z2, q⟩ := h
    have ob := opB_ge es
    refine ⟨_, (pss_one (ps_ret (pe_mt c_Diagrams_combine hr (by first | decide | omega) (pv 0) (pa_cons (pv 1) (pa_cons (pe_mt c_Diagrams_negation hr (by first | decide | omega) (pv 0) (pa_cons (pv 2) pa_nil)) (pa_cons (pv 2) pa_nil)))))), ?_⟩
    refine ⟨_, rfl, st.go (by decide +kernel) (by decide +kernel) (by decide +kernel) ⟨_, rfl, ?_⟩⟩
    refine ⟨_, rfl, st.go (by decide +kernel) (by decide +kernel) (by decide +kernel) ⟨_, rfl, ?_⟩⟩
    refine ⟨s, N, es, L, b, B, rfl, st, hn, hB, wB, by omega, by omega, fun H1 M1 r1 T1 f1 l1 st1 a1 w1 v1 => ?_⟩
    refine ⟨_, rfl, ?_⟩
    refine ⟨s, N ++ M1, es, _, [], es, a, r1, b, A, T1, B, rfl, st1, rfl, hn, hA.mono, a1, hB.mono, wA, w1, wB, by rw [List.length_append]; omega, by omega, fun H2 M2 r2 T2 f2 l2 st2 a2 i2 => ?_⟩
    rw [List.append_assoc] at st2 a2
    refine q H2 (M1 ++ M2) r2 T2 (f1.trans f2) (by rw [List.length_append]; omega) (st2.more (by omega)) a2 i2.1 fun ρ => ?_
    rw [i2.2, v1]
    cases A.ev ρ <;> cases B.ev ρ <;> rfl
theorem ok_dinit {f C : Addr} {fd : FuncData} (F : Fun K "__init__" "Diagrams.__init__" s_Diagrams___init__ f fd) (G : DgC K C mg) : FnOk P w K mg base CX0 1 f fd ["self"] (sp_dinit C K) := by
  refine F.ok sc_Diagrams___init__ (fun vs H Q E h => ?_) (fun cdv A outer s H vs Q E hr h => ?_)
  · obtain ⟨p, dx, rfl, _⟩ := h
    rfl
  · obtain ⟨p, dx, rfl, hp, q⟩ := h
    refine ⟨_, (pss_cons (ps_fld (pv 0) (pe_lst pa_nil) rfl)
      (pss_cons (ps_fld (pv 0) pe_dnewT rfl)
      (pss_one (ps_fld (pv 0) pe_dnewT rfl)))), ?_⟩
    refine ⟨by show 0 ≤ sizeLine; decide, fun k nk => ?_⟩
    have npk : p ≠ k := ne_of_none hp nk
    have e1 : (upd H k (.lst [])) p = some (.ins C dx []) := by rw [upd_ne npk]; exact hp
    refine ⟨_, rfl, p, C, dx, [], rfl, e1, G.cl, G.nK, by show 0 < 1000; decide, ?_⟩
    have f1 : Fd p H (upd (upd H k (.lst [])) p (.ins C dx (putF "kept" (.ref k) []))) := Fd.trans (Fd.new nk) Fd.at
    have ek1 : (upd (upd H k (.lst [])) p (.ins C dx (putF "kept" (.ref k) []))) k = some (.lst []) := by rw [upd_ne npk.symm, upd_same]
    have ep1 : (upd (upd H k (.lst [])) p (.ins C dx (putF "kept" (.ref k) []))) p = some (.ins C dx (putF "kept" (.ref k) [])) := upd_same
    generalize upd (upd H k (.lst [])) p (.ins C dx (putF "kept" (.ref k) [])) = H1 at f1 ek1 ep1
    intro u nu
    have npu : p ≠ u := ne_of_none ep1 nu
    have hu0 : H u = none := by
      cases e : H u with
      | none => rfl
      | some o => exact absurd (f1 u o npu.symm e) (by rw [nu]; exact fun z => nomatch z)
    have nku : k ≠ u := ne_of_none ek1 nu
    have e2 : (upd H1 u (.dT [])) p = some (.ins C dx (putF "kept" (.ref k) [])) := by rw [upd_ne npu]; exact ep1
    refine ⟨_, rfl, p, C, dx, _, rfl, e2, G.cl, G.nN, by show 1 < 1000; decide, ?_⟩
    have f2 : Fd p H1 (upd (upd H1 u (.dT [])) p (.ins C dx (putF "numbers" (.ref u) (putF "kept" (.ref k) [])))) := Fd.trans (Fd.new nu) Fd.at
    have eu2 : (upd (upd H1 u (.dT [])) p (.ins C dx (putF "numbers" (.ref u) (putF "kept" (.ref k) [])))) u = some (.dT []) := by rw [upd_ne npu.symm, upd_same]
    have ep2 : (upd (upd H1 u (.dT [])) p (.ins C dx (putF "numbers" (.ref u) (putF "kept" (.ref k) [])))) p = some (.ins C dx (putF "numbers" (.ref u) (putF "kept" (.ref k) []))) := upd_same
    generalize upd (upd H1 u (.dT [])) p (.ins C dx (putF "numbers" (.ref u) (putF "kept" (.ref k) []))) = H2 at f2 eu2 ep2
    intro m nm
    have npm : p ≠ m := ne_of_none ep2 nm
    have f12 := f1.trans f2
    have hm0 : H m = none := by
      cases e : H m with
      | none => rfl
      | some o => exact absurd (f12 m o npm.symm e) (by rw [nm]; exact fun z => nomatch z)
    have num : u ≠ m := ne_of_none eu2 nm
    have ek2 := f2 k _ npk.symm ek1
    have e3 : (upd H2 m (.dT [])) p = some (.ins C dx (putF "numbers" (.ref u) (putF "kept" (.ref k) []))) := by rw [upd_ne npm]; exact ep2
    refine ⟨_, rfl, p, C, dx, _, rfl, e3, G.cl, G.nM, by show 2 < 1000; decide, ?_⟩
    have f3 : Fd p H2 (upd (upd H2 m (.dT [])) p (.ins C dx (putF "combined" (.ref m) (putF "numbers" (.ref u) (putF "kept" (.ref k) []))))) := Fd.trans (Fd.new nm) Fd.at
    have em3 : (upd (upd H2 m (.dT [])) p (.ins C dx (putF "combined" (.ref m) (putF "numbers" (.ref u) (putF "kept" (.ref k) []))))) m = some (.dT []) := by rw [upd_ne npm.symm, upd_same]
    refine q _ ⟨p, k, u, m⟩ rfl (f12.trans f3) nk hu0 hm0 fun es hes => ⟨⟨dx, ?_⟩, ⟨[], f3 _ _ npk.symm ek2, .nil⟩, ⟨[], f3 _ _ npu.symm eu2, Nat.le_refl _, ⟨fun _ _ _ _ => List.not_mem_nil, fun _ _ _ _ h => nomatch (show none = some _ from h)⟩⟩, ⟨[], em3, Nat.le_refl _, fun _ _ _ _ h => nomatch (show none = some _ from h)⟩, List.nodup_nil, num, hes⟩
    rw [upd_same]
    exact congrArg (fun z => some (HO.ins C dx z)) (sf_mk ⟨p, k, u, m⟩)
end

theorem wne (a b : String) (h : (Str.ofString a == Str.ofString b) = false) : decide (V.str (Str.ofString a) = V.str (Str.ofString b)) = false := by
  refine decide_eq_false fun e => ?_
  rw [V.str.inj e] at h
  have : (Str.ofString b == Str.ofString b) = true := beq_self_eq_true _
  rw [this] at h
  cases h
theorem weq (a : Str) : decide (V.str a = V.str a) = true := decide_eq_true rfl
section
variable {K : PySem.W.Frag}
/-- a tuple's word and the rest -/
theorem dp_tup {H : Hp} {p : V} {ds : List PyData} (h : Dp K H p (.tuple ds)) : ∃ a xs, p = .ref a ∧ SqT K H a xs ∧ DpAll K H xs ds := by
  cases h with
  | tup hs ha => exact ⟨_, _, rfl, hs, ha⟩
theorem dp_two {H : Hp} {xs : List V} {s : Str} {d : PyData} (h : DpAll K H xs [.str s, d]) : ∃ v, xs = [.str s, v] ∧ Dp K H v d := by
  cases h with
  | cons h1 h2 =>
    cases h1
    cases h2 with
    | cons h3 h4 =>
      cases h4
      exact ⟨_, rfl, h3⟩
theorem dp_three {H : Hp} {xs : List V} {s : Str} {d e : PyData} (h : DpAll K H xs [.str s, d, e]) : ∃ v u, xs = [.str s, v, u] ∧ Dp K H v d ∧ Dp K H u e := by
  cases h with
  | cons h1 h2 =>
    cases h1
    cases h2 with
    | cons h3 h4 =>
      cases h4 with
      | cons h5 h6 =>
        cases h6
        exact ⟨_, _, rfl, h3, h5⟩
end

/-! ### the laws' input rows and conditions -/
inductive Bo where
  | and | or | df
def Bo.s : Bo → String
  | .and => "and" | .or => "or" | .df => "differ"
def Bo.f : Bo → Bool → Bool → Bool
  | .and => Bool.and | .or => Bool.or | .df => bne
inductive Tr where
  | con (b : Bool)
  | ther (e : Int)
  | nt (a : Tr)
  | bin (o : Bo) (a b : Tr)
def Tr.d : Tr → PyData
  | .con b => .tuple [.str "constant", .int (if b = true then 1 else 0)]
  | .ther e => .tuple [.str "there", .int e]
  | .nt a => .tuple [.str "not", a.d]
  | .bin o a b => .tuple [.str (Str.ofString o.s), a.d, b.d]
def Tr.ht : Tr → Nat
  | .nt a => a.ht + 1
  | .bin _ a b => max a.ht b.ht + 1
  | _ => 0
def Tr.sz : Tr → Nat
  | .nt a => a.sz + 1
  | .bin _ a b => a.sz + b.sz + 1
  | _ => 1
def Tr.ok (es : List Int) : Tr → Prop
  | .con _ => True
  | .ther e => e ∈ es
  | .nt a => a.ok es
  | .bin _ a b => a.ok es ∧ b.ok es
def Tr.ev : Tr → (Int → Bool) → Bool
  | .con b, _ => b
  | .ther e, r => r e
  | .nt a, r => !(a.ev r)
  | .bin o a b, r => o.f (a.ev r) (b.ev r)
theorem tr_only : ∀ t : Tr, tupOnly t.d = true
  | .con _ => rfl
  | .ther _ => rfl
  | .nt a => by simp [Tr.d, tupOnly, tupOnlys, tr_only a]
  | .bin _ a b => by simp [Tr.d, tupOnly, tupOnlys, tr_only a, tr_only b]
theorem tr_sz : ∀ t : Tr, t.sz + 1 ≤ 2 ^ (t.ht + 1)
  | .con _ => Nat.le_refl _
  | .ther _ => Nat.le_refl _
  | .nt a => by
    have := tr_sz a
    show a.sz + 1 + 1 ≤ 2 ^ (a.ht + 1 + 1)
    rw [Nat.pow_succ]
    have : 1 ≤ 2 ^ (a.ht + 1) := Nat.one_le_two_pow
    omega
  | .bin _ a b => by
    have h1 := Nat.le_trans (tr_sz a) (Nat.pow_le_pow_right (by decide) (show a.ht + 1 ≤ max a.ht b.ht + 1 by omega))
    have h2 := Nat.le_trans (tr_sz b) (Nat.pow_le_pow_right (by decide) (show b.ht + 1 ≤ max a.ht b.ht + 1 by omega))
    show a.sz + b.sz + 1 + 1 ≤ 2 ^ (max a.ht b.ht + 1 + 1)
    rw [Nat.pow_succ]
    omega
/-- it goes by the input rows of the list alone -/
theorem tr_agree {es : List Int} : ∀ {t : Tr} {r q : Int → Bool}, t.ok es → (∀ e ∈ es, r e = q e) → t.ev r = t.ev q
  | .con _, _, _, _, _ => rfl
  | .ther e, _, _, h, g => g e h
  | .nt a, r, q, h, g => congrArg not (tr_agree (t := a) h g)
  | .bin o a b, r, q, h, g => by
    show o.f _ _ = o.f _ _
    rw [tr_agree (t := a) h.1 g, tr_agree (t := b) h.2 g]
theorem wf_agree {es : List Int} {a : Bd} (h : Wf es a) : ∀ {r q : Int → Bool}, (∀ e ∈ es, r e = q e) → a.ev r = a.ev q := by
  induction h with
  | lf => intros; rfl
  | @here x es w t _ _ _ iw it =>
    intro r q g
    have gx := g x List.mem_cons_self
    have g' := fun e he => g e (List.mem_cons_of_mem _ he)
    show (if r x = true then t.ev r else w.ev r) = if q x = true then t.ev q else w.ev q
    rw [gx, iw g', it g']
  | skip _ ih =>
    intro r q g
    exact ih fun e he => g e (List.mem_cons_of_mem _ he)
/-- the input rows: a few, ascending -/
def EnA (H : Hp) (a d c : Addr) (es : List Int) (most : Nat) : Prop := a ≠ d ∧ a ≠ c ∧ H a = some (.lst (es.map V.int)) ∧ es.Pairwise (· < ·) ∧ 1 ≤ es.length ∧ es.length ≤ most ∧ ∀ e ∈ es, 0 ≤ e ∧ e < 1000
theorem EnA.fd {H H' : Hp} {a d c : Addr} {es : List Int} {most : Nat} (f : Fd d H H') (h : EnA H a d c es most) : EnA H' a d c es most := ⟨h.1, h.2.1, f _ _ h.1 h.2.2.1, h.2.2.2⟩
def sp_ents (most : Nat) : Sp := fun vs H Q _ => ∃ (d c : Addr), vs = [.ref d, .int (most : Nat)] ∧ 1 ≤ most ∧ most ≤ 6 ∧ Dr H d c ∧ ∀ H' a es, Fd d H H' → Dr H' d c → H a = none → EnA H' a d c es most → Q (.ref a) H'
def sp_ltr (K : PySem.W.Frag) (n : Nat) : Sp := fun vs H Q _ => ∃ (d c a : Addr) (es : List Int) (most m : Nat), vs = [.ref d, .ref a, .int (m : Nat)] ∧ m < n ∧ Dr H d c ∧ EnA H a d c es most ∧ most ≤ 8 ∧ ∀ H' p (t : Tr), Fd d H H' → Dr H' d c → t.ok es → t.ht ≤ m → Dp K H' p t.d → Q p H'
section
variable {P : Program} {w : World} {K : PySem.W.Frag} {mg : Str → Option Value} {base : Heap}
theorem ok_ents {f : Addr} {fd : FuncData} (most : Nat) (F : Fun K "_law_entries" "_law_entries" s__law_entries f fd) (M : Mg mg) (c__law_next : Cl P w K mg base 1 "_law_next" sp_next) : FnOk P w K mg base CX0 2 f fd ["draw", "most"] (sp_ents most) := by
  refine F.ok sc__law_entries (fun vs H Q E h => ?_) (fun cdv A outer s H vs Q E hr h => ?_)
  · obtain ⟨d, c, rfl, _⟩ := h
    rfl
  · obtain ⟨d, c, rfl, hm1, hm2, dr, q⟩ := h
    refine ⟨_, (pss_cons (ps_set (i := 2) sc__law_entries.nd rfl (.inl rfl) (pe_lst pa_nil))
      (pss_cons (ps_set (i := 3) sc__law_entries.nd rfl (.inl rfl) (pe_u c__law_next hr (by first | decide | omega) (by rfl) (pa_cons (pv 0) (pa_cons pe_int pa_nil))))
      (pss_cons (ps_for PassesOwn.never rfl (pi_range1 (by rfl) M.range (pa_cons (pe_op op_add pe_int (pe_u c__law_next hr (by first | decide | omega) (by rfl) (pa_cons (pv 0) (pa_cons (pv 1) pa_nil)))) pa_nil)) (pg_name (i := 4) sc__law_entries.nd rfl (.inl rfl)) (pss_cons (ps_expr (pe_bmK K PySem.F.plainAttrs_list PySem.F.slot_list_append PySem.F.type_list_append mt_append (pv 2) (pa_cons (pv 3) pa_nil)))
      (pss_one (ps_set (i := 3) sc__law_entries.nd rfl (.inl rfl) (pe_op op_add (pe_op op_add (pv 3) pe_int) (pe_op op_mul (pe_u c__law_next hr (by first | decide | omega) (by rfl) (pa_cons (pv 0) (pa_cons pe_int pa_nil))) (pe_u c__law_next hr (by first | decide | omega) (by rfl) (pa_cons (pv 0) (pa_cons pe_int pa_nil)))))))))
      (pss_one (ps_ret (pv 2)))))), ?_⟩
    refine ⟨by show 0 ≤ sizeLine; decide, fun a na => ?_⟩
    have nad := dr.nd na
    have nac := dr.nc na
    have dr1 := dr.ext (same_upd na (o := .lst []))
    refine ⟨_, rfl, d, c, 3, rfl, dr1, by decide, by decide, fun H2 r f2 _ dr2 r0 r1 => ?_⟩
    refine ⟨_, rfl, _, rfl, d, c, (most : Nat), rfl, dr2, by omega, by omega, fun H3 z f3 _ dr3 z0 z1 => ?_⟩
    refine ⟨_, _, rfl, rfl, _, rfl, by omega, by omega, ?_⟩
    have ea3 : H3 a = some (.lst (([] : List Int).map V.int)) := f3 _ _ nad (f2 _ _ nad upd_same)
    refine for_range (lo := 0) (n := (1 + z).toNat) (fun i σ Hi => Fd d H Hi ∧ Dr Hi d c ∧ ∃ (es : List Int) (last : Int) (y : Option V), σ = [some (.ref d), some (.int (most : Nat)), some (.ref a), some (.int last), y] ∧ Hi a = some (.lst (es.map V.int)) ∧ es.length = i ∧ es.Pairwise (· < ·) ∧ (∀ e ∈ es, 0 ≤ e ∧ e < last) ∧ 0 ≤ last ∧ last ≤ 2 + 100 * i) ⟨((Fd.new na).trans f2).trans f3, dr3, [], r, none, rfl, ea3, rfl, .nil, (fun _ h => by cases h), r0, by omega⟩ (fun i σ Hi hi hp => ?_) (fun σ Hn hp => ?_)
    · obtain ⟨fi, di, es, last, y, rfl, ea, el, ep, eb, l0, l1⟩ := hp
      refine ⟨_, rfl, .inl ⟨rfl, _, .inl (.inl ea)⟩, _, rfl, a, _, _, rfl, rfl, ea, by rw [List.length_map, el]; exact Nat.lt_of_lt_of_le (m := 100) (by omega) (by decide), ?_⟩
      have di2 := di.upd nad nac (o := .lst (es.map V.int ++ [.int last]))
      refine ⟨_, rfl, _, _, rfl, rfl, _, rfl, d, c, 2, rfl, di2, by decide, by decide, fun H5 r5 f5 _ dr5 r50 r51 => ?_⟩
      refine ⟨_, rfl, d, c, 90, rfl, dr5, by decide, by decide, fun H6 r6 f6 _ dr6 r60 r61 => ?_⟩
      refine ⟨_, _, rfl, rfl, .inl ⟨by omega, by omega⟩, _, _, rfl, rfl, ?_⟩
      have hmul : 0 ≤ r5 * r6 ∧ r5 * r6 ≤ 89 := by
        have : r5 = 0 ∨ r5 = 1 := by omega
        rcases this with rfl | rfl
        · simp
        · rw [Int.one_mul]; omega
      refine ⟨?_, dr6, es ++ [last], _, _, rfl, ?_, ?_, ?_, ?_, by omega, by omega⟩
      · intro b o nb e
        refine f6 _ _ nb (f5 _ _ nb ?_)
        rw [upd_ne (ne_of_none e na)]
        exact fi _ _ nb e
      · rw [f6 _ _ nad (f5 _ _ nad upd_same), List.map_append]
        rfl
      · rw [List.length_append, el]
        rfl
      · rw [List.pairwise_append]
        exact ⟨ep, List.pairwise_singleton _ _, fun x hx y hy => by rw [List.mem_singleton.mp hy]; exact (eb x hx).2⟩
      · intro e he
        rcases List.mem_append.mp he with he | he
        · have := eb e he
          omega
        · rw [List.mem_singleton.mp he]
          omega
    · obtain ⟨fi, di, es, last, y, rfl, ea, el, ep, eb, l0, l1⟩ := hp
      refine ⟨_, rfl, q Hn a es fi di na ⟨nad, nac, ea, ep, by omega, by omega, fun e he => ?_⟩⟩
      have := eb e he
      omega
theorem ok_ltr {f : Addr} {fd : FuncData} (n : Nat) (F : Fun K "_law_tree" "_law_tree" s__law_tree f fd) (M : Mg mg) (c__law_next : Cl P w K mg base 1 "_law_next" sp_next) (c__law_tree : Cl P w K mg base (n + 1) "_law_tree" (sp_ltr K n)) : FnOk P w K mg base CX0 (n + 2) f fd ["draw", "entries", "depth"] (sp_ltr K (n + 1)) := by
  refine F.ok sc__law_tree (fun vs H Q E h => ?_) (fun cdv A outer s H vs Q E hr h => ?_)
  · obtain ⟨d, c, a, es, most, m, rfl, _⟩ := h
    rfl
  · obtain ⟨d, c, a, es, most, m, rfl, hm, dr, en, hmo, q⟩ := h
    refine ⟨_, (pss_cons (ps_set (i := 3) sc__law_tree.nd rfl (.inl rfl) (pe_u c__law_next hr (by first | decide | omega) (by rfl) (pa_cons (pv 0) (pa_cons pe_int pa_nil))))
      (pss_cons (ps_if (PW.pt (pw_or (pt_cmpR op_eq (pv 2) pe_int (nomark _)) (pw_or1 (pt_cmpR op_lt (pv 3) pe_int (nomark _))))) (pss_cons (ps_if (pt_cmpR op_eq (pe_u c__law_next hr (by first | decide | omega) (by rfl) (pa_cons (pv 0) (pa_cons pe_int pa_nil))) pe_int (nomark _)) (pss_one (ps_ret (pe_tup (pa_cons pe_str (pa_cons (pe_u c__law_next hr (by first | decide | omega) (by rfl) (pa_cons (pv 0) (pa_cons pe_int pa_nil))) pa_nil))))) pss_nil)
      (pss_one (ps_ret (pe_tup (pa_cons pe_str (pa_cons (pe_ix (ix_listK K) (pv 1) (pe_u c__law_next hr (by first | decide | omega) (by rfl) (pa_cons (pv 0) (pa_cons (pe_callB (len_seqK K) (by rfl) M.len PySem.boot_len (pa_cons (pv 1) pa_nil)) pa_nil))) (fun _ _ => rfl)) pa_nil)))))) pss_nil)
      (pss_cons (ps_if (pt_cmpR op_eq (pv 3) pe_int (nomark _)) (pss_one (ps_ret (pe_tup (pa_cons pe_str (pa_cons (pe_u c__law_tree hr (by first | decide | omega) (by rfl) (pa_cons (pv 0) (pa_cons (pv 1) (pa_cons (pe_op op_sub (pv 2) pe_int) pa_nil)))) pa_nil))))) pss_nil)
      (pss_cons (ps_set (i := 4) sc__law_tree.nd rfl (.inl rfl) (pe_u c__law_tree hr (by first | decide | omega) (by rfl) (pa_cons (pv 0) (pa_cons (pv 1) (pa_cons (pe_op op_sub (pv 2) pe_int) pa_nil)))))
      (pss_one (ps_ret (pe_tup (pa_cons (pe_ix (ix_listK K) (pe_lst (pa_cons pe_str (pa_cons pe_str (pa_cons pe_str pa_nil)))) (pe_op op_mod (pv 3) pe_int) (fun _ _ => rfl)) (pa_cons (pv 4) (pa_cons (pe_u c__law_tree hr (by first | decide | omega) (by rfl) (pa_cons (pv 0) (pa_cons (pv 1) (pa_cons (pe_op op_sub (pv 2) pe_int) pa_nil)))) pa_nil)))))))))), ?_⟩
    refine ⟨_, rfl, d, c, 9, rfl, dr, by decide, by decide, fun H1 r f1 _ dr1 r0 r1 => ?_⟩
    have en1 := en.fd f1
    by_cases hd : m = 0 ∨ r < 2
    · refine ⟨_, rfl, rfl, _, rfl, ?_⟩
      refine ite2 (fun e => iteT ?_) (fun e => ⟨_, rfl, _, _, rfl, rfl, _, rfl, ?x⟩)
      case' x =>
        rw [decide_eq_true (show r < 2 by
          rcases hd with rfl | h
          · exact absurd (decide_eq_true rfl) e
          · exact h)]
        refine iteT ?_
      all_goals
        refine ⟨_, rfl, d, c, 12, rfl, dr1, by decide, by decide, fun H2 r2 f2 _ dr2 r20 r21 => ?_⟩
        have en2 := en1.fd f2
        refine ⟨rfl, _, rfl, ite2 (fun e => ?_) (fun e => ?_)⟩
        · refine ⟨_, rfl, d, c, 2, rfl, dr2, by decide, by decide, fun H3 r3 f3 _ dr3 r30 r31 => ?_⟩
          refine ⟨by show 2 ≤ sizeLine; decide, fun p np => ?_⟩
          obtain ⟨b, rfl⟩ : ∃ b : Bool, r3 = if b = true then 1 else 0 := by
            by_cases h : r3 = 1
            · exact ⟨true, h⟩
            · exact ⟨false, by show r3 = 0; omega⟩
          exact q _ _ (.con b) (((f1.trans f2).trans f3).trans (Fd.new np)) (dr3.ext (same_upd np)) trivial (Nat.zero_le _) (.tup (.inl (.inl upd_same)) (.cons (.str _) (.cons (.int _) .nil)))
        · refine ⟨_, rfl, _, rfl, _, rfl, a, _, rfl, .inl (.of en2.2.2.1), ?_⟩
          rw [List.length_map]
          have l1 := en2.2.2.2.2.1
          have l2 := en2.2.2.2.2.2.1
          refine ⟨d, c, _, rfl, dr2, by omega, by omega, fun H3 r3 f3 _ dr3 r30 r31 => ?_⟩
          obtain ⟨k3, rfl⟩ := Int.eq_ofNat_of_zero_le r30
          have hk3 : k3 < es.length := by omega
          have en3 := en2.fd f3
          refine ⟨a, _, _, .int es[k3], rfl, rfl, .of en3.2.2.1, atI_nat (by rw [List.getElem?_map, List.getElem?_eq_getElem hk3]; rfl), ?_⟩
          refine ⟨by show 2 ≤ sizeLine; decide, fun p np => ?_⟩
          exact q _ _ (.ther es[k3]) (((f1.trans f2).trans f3).trans (Fd.new np)) (dr3.ext (same_upd np)) (List.getElem_mem hk3) (Nat.zero_le _) (.tup (.inl (.inl upd_same)) (.cons (.str _) (.cons (.int _) .nil)))
    · obtain ⟨k, rfl⟩ : ∃ k, m = k + 1 := ⟨m - 1, by omega⟩
      have dec : [V.ref d, V.ref a, V.int (((k + 1 : Nat) : Int) - 1)] = [V.ref d, V.ref a, V.int (k : Nat)] := by rw [show (((k + 1 : Nat) : Int) - 1) = (k : Nat) by omega]
      refine ⟨_, rfl, rfl, _, rfl, ?_⟩
      rw [show decide (V.int ((k + 1 : Nat) : Int) = V.int 0) = false from decide_eq_false fun z => by have := V.int.inj z; omega]
      refine iteF ⟨_, rfl, _, _, rfl, rfl, _, rfl, ?_⟩
      rw [decide_eq_false (show ¬ r < 2 by omega)]
      refine iteF ?_
      refine ⟨_, rfl, rfl, _, rfl, ite2 (fun e => ?_) (fun e => ?_)⟩
      · refine ⟨_, rfl, _, rfl, _, rfl, _, _, rfl, rfl, d, c, a, es, most, k, dec, by omega, dr1, en1, hmo, fun H2 p1 t1 f2 dr2 ok1 ht1 dp1 => ?_⟩
        refine ⟨by show 2 ≤ sizeLine; decide, fun p np => ?_⟩
        exact q _ _ (.nt t1) ((f1.trans f2).trans (Fd.new np)) (dr2.ext (same_upd np)) ok1 (by show t1.ht + 1 ≤ k + 1; omega) (.tup (.inl (.inl upd_same)) (.cons (.str _) (.cons (Dp.ext (same_upd np) _ _ dp1) .nil)))
      · refine ⟨_, rfl, _, rfl, _, rfl, _, _, rfl, rfl, d, c, a, es, most, k, dec, by omega, dr1, en1, hmo, fun H2 p1 t1 f2 dr2 ok1 ht1 dp1 => ?_⟩
        refine ⟨by show 3 ≤ sizeLine; decide, fun wp nwp => ?_⟩
        have sw := same_upd nwp (o := .lst [.str "and", .str "or", .str "differ"])
        have ew : (upd H2 wp (.lst [.str "and", .str "or", .str "differ"])) wp = some (.lst [.str "and", .str "or", .str "differ"]) := upd_same
        generalize upd H2 wp (.lst [.str "and", .str "or", .str "differ"]) = H3 at sw ew
        have dr3 := dr2.ext sw
        have en3 := (en1.fd f2).fd (Fd.of sw)
        have dp3 := Dp.ext sw _ _ dp1
        have fin : ∀ (o : Bo), r % 3 = (match o with | .and => 0 | .or => 1 | .df => 2) → atI [V.str "and", V.str "or", V.str "differ"] (r % 3) = some (.str (Str.ofString o.s)) := fun o h => by
          rw [h]
          cases o with
          | and => exact atI_nat (j := 0) rfl
          | or => exact atI_nat (j := 1) rfl
          | df => exact atI_nat (j := 2) rfl
        obtain ⟨o, ho⟩ : ∃ o : Bo, r % 3 = (match o with | .and => 0 | .or => 1 | .df => 2) := by
          have : r % 3 = 0 ∨ r % 3 = 1 ∨ r % 3 = 2 := by omega
          rcases this with h | h | h
          · exact ⟨.and, h⟩
          · exact ⟨.or, h⟩
          · exact ⟨.df, h⟩
        refine ⟨_, rfl, _, _, rfl, rfl, by show (0 : Int) < 3; decide, wp, _, _, _, rfl, rfl, .of ew, fin o ho, ?_⟩
        refine ⟨_, rfl, ?_⟩
        refine ⟨_, rfl, _, rfl, _, rfl, _, _, rfl, rfl, d, c, a, es, most, k, dec, by omega, dr3, en3, hmo, fun H4 p2 t2 f4 dr4 ok2 ht2 dp2 => ?_⟩
        have dp4 := Dp.fd dr3.lst f4 _ _ (tr_only t1) dp3
        refine ⟨by show 3 ≤ sizeLine; decide, fun p np => ?_⟩
        exact q _ _ (.bin o t1 t2) ((((f1.trans f2).trans (Fd.of sw)).trans f4).trans (Fd.new np)) (dr4.ext (same_upd np)) ⟨ok1, ok2⟩ (by show max t1.ht t2.ht + 1 ≤ k + 1; omega) (.tup (.inl (.inl upd_same)) (.cons (.str _) (.cons (Dp.ext (same_upd np) _ _ dp4) (.cons (Dp.ext (same_upd np) _ _ dp2) .nil))))
theorem cl_ltr {f : Addr} {fd : FuncData} (F : Fun K "_law_tree" "_law_tree" s__law_tree f fd) (M : Mg mg) (g : mg "_law_tree" = some (.ref f)) (b : Binds K fd ["draw", "entries", "depth"] []) (c__law_next : Cl P w K mg base 1 "_law_next" sp_next) : ∀ n, Cl P w K mg base (n + 1) "_law_tree" (sp_ltr K n)
  | 0 => FnOk.cl (P := P) (w := w) (base := base) (F.ok sc__law_tree (fun vs H Q E h => by obtain ⟨d, c, a, es, most, m, rfl, _⟩ := h; rfl) (fun cdv A outer s H vs Q E hr h => by obtain ⟨d, c, a, es, most, m, rfl, hm, _⟩ := h; omega)) F g b
  | n + 1 => FnOk.cl (ok_ltr n F M c__law_next (cl_ltr F M g b c__law_next n)) F g b
end

/-! ### the laws' building of conditions, their truth, the sets -/
def sp_build (C : Addr) (K : PySem.W.Frag) (m n : Nat) : Sp := fun vs H Q _ => ∃ s N es L v t, vs = [.ref s.p, v] ∧ Sto C K H s N es L ∧ es.length < m ∧ Tr.ok es t ∧ Tr.ht t < n ∧ Dp K H v t.d ∧ N.length + t.sz * opB es < sizeLine ∧ L + t.sz * opB es < sizeLine ∧
  ∀ H' M r T, FdS s H H' → M.length ≤ t.sz * opB es → Sto C K H' s (N ++ M) es (L + t.sz * opB es) → At (N ++ M) r T → Wf es T → (∀ ρ, T.ev ρ = t.ev ρ) → Q (.int ((r : Nat) : Int)) H'
def sp_true (K : PySem.W.Frag) (n : Nat) : Sp := fun vs H Q _ => ∃ v a t, ∃ ps : List Int, vs = [v, .ref a] ∧ Dp K H v (Tr.d t) ∧ SqL K H a (ps.map V.int) ∧ t.ht < n ∧ Q (.bl (t.ev fun e => decide (e ∈ ps))) H
/-- all sets of input rows, in the law's order -/
def subs (es : List Int) : List (List Int) := es.foldl (fun f e => f ++ f.map (· ++ [e])) [[]]
theorem subs_snoc (es : List Int) (e : Int) : subs (es ++ [e]) = subs es ++ (subs es).map (· ++ [e]) := by
  unfold subs
  rw [List.foldl_append]
  rfl
theorem subs_len (es : List Int) : (subs es).length = 2 ^ es.length := by
  have h : ∀ (es : List Int) (f : List (List Int)), (es.foldl (fun f e => f ++ f.map (· ++ [e])) f).length = f.length * 2 ^ es.length := by
    intro es
    induction es with
    | nil => intro f; simp
    | cons e es ih =>
      intro f
      rw [List.foldl_cons, ih, List.length_append, List.length_map, List.length_cons, Nat.pow_succ, ← Nat.two_mul, Nat.mul_comm 2 f.length, Nat.mul_assoc, Nat.mul_comm 2]
  rw [subs, h]
  simp
theorem subs_le (es : List Int) : ∀ p ∈ subs es, p.length ≤ es.length ∧ ∀ e ∈ p, e ∈ es := by
  have h : ∀ (es all : List Int) (f : List (List Int)) (k : Nat), (∀ e ∈ es, e ∈ all) → (∀ p ∈ f, p.length ≤ k ∧ ∀ e ∈ p, e ∈ all) → ∀ p ∈ es.foldl (fun f e => f ++ f.map (· ++ [e])) f, p.length ≤ k + es.length ∧ ∀ e ∈ p, e ∈ all := by
    intro es all
    induction es with
    | nil => intro f k _ h; exact h
    | cons e es ih =>
      intro f k ha h p hp
      rw [List.foldl_cons] at hp
      have := ih _ (k + 1) (fun x hx => ha x (List.mem_cons_of_mem _ hx)) (fun q hq => by
        rcases List.mem_append.mp hq with hq | hq
        · have := h q hq
          exact ⟨by omega, this.2⟩
        · obtain ⟨q', hq', rfl⟩ := List.mem_map.mp hq
          have := h q' hq'
          refine ⟨by rw [List.length_append]; exact Nat.add_le_add_right this.1 1, fun x hx => ?_⟩
          rcases List.mem_append.mp hx with hx | hx
          · exact this.2 x hx
          · rw [List.mem_singleton.mp hx]
            exact ha e List.mem_cons_self) p hp
      rw [List.length_cons]
      exact ⟨by omega, this.2⟩
  intro p hp
  have := h es es [[]] 0 (fun _ h => h) (fun p hp => by rw [List.mem_singleton.mp hp]; exact ⟨Nat.le_refl _, fun _ h => by cases h⟩) p hp
  rw [Nat.zero_add] at this
  exact this
/-- a list of lists of numbers -/
def LL (H : Hp) (p : Addr) (ls : List (List Int)) : Prop := ∃ as : List Addr, H p = some (.lst (as.map V.ref)) ∧ as.length = ls.length ∧ ∀ (i : Nat) b l, as[i]? = some b → ls[i]? = some l → H b = some (.lst (l.map V.int))
theorem LL.ext {H H' : Hp} {p : Addr} {ls : List (List Int)} (e : Same H H') (h : LL H p ls) : LL H' p ls := by
  obtain ⟨as, h1, h2, h3⟩ := h
  exact ⟨as, e _ _ h1, h2, fun i b l g1 g2 => e _ _ (h3 i b l g1 g2)⟩
theorem LL.get {H : Hp} {p : Addr} {ls : List (List Int)} (h : LL H p ls) : ∃ as : List Addr, H p = some (.lst (as.map V.ref)) ∧ as.length = ls.length ∧ ∀ (i : Nat) v, (as.map V.ref)[i]? = some v → ∃ b l, v = .ref b ∧ ls[i]? = some l ∧ H b = some (.lst (l.map V.int)) := by
  obtain ⟨as, h1, h2, h3⟩ := h
  refine ⟨as, h1, h2, fun i v hv => ?_⟩
  rw [List.getElem?_map] at hv
  obtain ⟨b, hb, rfl⟩ := Option.map_eq_some_iff.mp hv
  have hi : i < ls.length := by rw [← h2]; exact (List.getElem?_eq_some_iff.mp hb).1
  exact ⟨b, ls[i], rfl, List.getElem?_eq_getElem hi, h3 i b _ hb (List.getElem?_eq_getElem hi)⟩
def sp_subs : Sp := fun vs H Q _ => ∃ a, ∃ es : List Int, vs = [.ref a] ∧ H a = some (.lst (es.map V.int)) ∧ es.length ≤ 10 ∧ ∀ H' p, Same H H' → H p = none → LL H' p (subs es) → Q (.ref p) H'
theorem LL.app {H : Hp} {p q a b : Addr} {ls ms : List (List Int)} {xs ys : List V} (np : H p = none) (h1 : LL H a ls) (h2 : LL H b ms) (e1 : H a = some (.lst xs)) (e2 : H b = some (.lst ys)) : LL (upd H p (.lst (xs ++ ys))) p (ls ++ ms) := by
  obtain ⟨as, g1, g2, g3⟩ := h1
  obtain ⟨bs, k1, k2, k3⟩ := h2
  have ex : xs = as.map V.ref := by rw [g1] at e1; exact (HO.lst.inj (Option.some.inj e1)).symm
  have ey : ys = bs.map V.ref := by rw [k1] at e2; exact (HO.lst.inj (Option.some.inj e2)).symm
  refine ⟨as ++ bs, by rw [upd_same, ex, ey, List.map_append], by rw [List.length_append, List.length_append, g2, k2], fun i c l hc hl => ?_⟩
  refine same_upd np _ _ ?_
  by_cases hi : i < as.length
  · rw [List.getElem?_append_left hi] at hc
    rw [List.getElem?_append_left (by omega)] at hl
    exact g3 i c l hc hl
  · rw [List.getElem?_append_right (by omega)] at hc
    rw [List.getElem?_append_right (by omega), ← g2] at hl
    exact k3 _ c l hc hl
theorem Wf.one {es : List Int} {x : Int} (h : x ∈ es) : Wf es (.nd x (.lf false) (.lf true)) := by
  obtain ⟨pre, post, rfl⟩ := List.append_of_mem h
  exact (Wf.here .lf .lf (fun z => by cases z)).skips pre
section
variable {P : Program} {w : World} {K : PySem.W.Frag} {mg : Str → Option Value} {base : Heap}
theorem ok_true (n : Nat) {f : Addr} {fd : FuncData} (F : Fun K "_law_true" "_law_true" s__law_true f fd) (M : Mg mg) (c__law_true : Cl P w K mg base (n + 1) "_law_true" (sp_true K n)) : FnOk P w K mg base CX0 (n + 2) f fd ["tree", "present"] (sp_true K (n + 1)) := by
  refine F.ok sc__law_true (fun vs H Q E h => ?_) (fun cdv A outer s H vs Q E hr h => ?_)
  · obtain ⟨v, a, t, ps, rfl, _⟩ := h
    rfl
  · obtain ⟨v, a, t, ps, rfl, dp, ha, hn, q⟩ := h
    refine ⟨_, (pss_cons (ps_if (pt_cmpR op_eq (pe_ix (ix_tupK K) (pv 0) pe_int (fun _ _ => rfl)) pe_str (nomark _)) (pss_one (ps_ret (pe_cmpR op_eq (pe_ix (ix_tupK K) (pv 0) pe_int (fun _ _ => rfl)) pe_int (nomark _)))) pss_nil)
      (pss_cons (ps_if (pt_cmpR op_eq (pe_ix (ix_tupK K) (pv 0) pe_int (fun _ _ => rfl)) pe_str (nomark _)) (pss_one (ps_ret (pe_cmpR (inK K) (pe_ix (ix_tupK K) (pv 0) pe_int (fun _ _ => rfl)) (pv 1) (by rfl)))) pss_nil)
      (pss_cons (ps_set (i := 2) sc__law_true.nd rfl (.inl rfl) (pe_u c__law_true hr (by first | decide | omega) (by rfl) (pa_cons (pe_ix (ix_tupK K) (pv 0) pe_int (fun _ _ => rfl)) (pa_cons (pv 1) pa_nil))))
      (pss_cons (ps_if (pt_cmpR op_eq (pe_ix (ix_tupK K) (pv 0) pe_int (fun _ _ => rfl)) pe_str (nomark _)) (pss_one (ps_ret (pe_not (pv 2)))) pss_nil)
      (pss_cons (ps_set (i := 3) sc__law_true.nd rfl (.inl rfl) (pe_u c__law_true hr (by first | decide | omega) (by rfl) (pa_cons (pe_ix (ix_tupK K) (pv 0) pe_int (fun _ _ => rfl)) (pa_cons (pv 1) pa_nil))))
      (pss_cons (ps_if (pt_cmpR op_eq (pe_ix (ix_tupK K) (pv 0) pe_int (fun _ _ => rfl)) pe_str (nomark _)) (pss_one (ps_ret (pe_and (pv 2) (pe_one (pv 3))))) pss_nil)
      (pss_one (ps_ret (pe_ifExp (pt_cmpR op_eq (pe_ix (ix_tupK K) (pv 0) pe_int (fun _ _ => rfl)) pe_str (nomark _)) (pe_or (pv 2) (pe_one (pv 3))) (pe_cmpR op_ne (pv 2) (pv 3) (nomark _))))))))))), ?_⟩
    cases t with
    | con b =>
      obtain ⟨p, xs, rfl, hs, hx⟩ := dp_tup dp
      obtain ⟨u, rfl, hu⟩ := dp_two hx
      cases hu
      refine ⟨_, rfl, p, _, _, _, rfl, rfl, hs, atI_nat (j := 0) rfl, rfl, _, rfl, ?_⟩
      rw [weq]
      refine iteT ⟨_, rfl, p, _, _, _, rfl, rfl, hs, atI_nat (j := 1) rfl, rfl, ?_⟩
      cases b with
      | true => exact q
      | false => exact q
    | ther e =>
      obtain ⟨p, xs, rfl, hs, hx⟩ := dp_tup dp
      obtain ⟨u, rfl, hu⟩ := dp_two hx
      cases hu
      refine ⟨_, rfl, p, _, _, _, rfl, rfl, hs, atI_nat (j := 0) rfl, rfl, _, rfl, ?_⟩
      rw [wne "there" "constant" (by decide +kernel)]
      refine iteF ⟨_, rfl, p, _, _, _, rfl, rfl, hs, atI_nat (j := 0) rfl, rfl, _, rfl, ?_⟩
      rw [weq]
      refine iteT ⟨_, rfl, p, _, _, _, rfl, rfl, hs, atI_nat (j := 1) rfl, _, rfl, a, _, rfl, .inl ha, rfl, ints_flat ps, ?_⟩
      rw [if_neg Bool.false_ne_true, inV_int]
      exact q
    | nt t1 =>
      obtain ⟨p, xs, rfl, hs, hx⟩ := dp_tup dp
      obtain ⟨u, rfl, hu⟩ := dp_two hx
      have hn : t1.ht + 1 < n + 1 := hn
      refine ⟨_, rfl, p, _, _, _, rfl, rfl, hs, atI_nat (j := 0) rfl, rfl, _, rfl, ?_⟩
      rw [wne "not" "constant" (by decide +kernel)]
      refine iteF ⟨_, rfl, p, _, _, _, rfl, rfl, hs, atI_nat (j := 0) rfl, rfl, _, rfl, ?_⟩
      rw [wne "not" "there" (by decide +kernel)]
      refine iteF ⟨_, rfl, p, _, _, _, rfl, rfl, hs, atI_nat (j := 1) rfl, _, rfl, u, a, t1, ps, rfl, hu, ha, by omega, ?_⟩
      refine ⟨_, rfl, p, _, _, _, rfl, rfl, hs, atI_nat (j := 0) rfl, rfl, _, rfl, ?_⟩
      rw [weq]
      exact iteT ⟨_, rfl, _, rfl, q⟩
    | bin o t1 t2 =>
      obtain ⟨p, xs, rfl, hs, hx⟩ := dp_tup dp
      obtain ⟨u, u2, rfl, hu, hu2⟩ := dp_three hx
      have hn : max t1.ht t2.ht + 1 < n + 1 := hn
      refine ⟨_, rfl, p, _, _, _, rfl, rfl, hs, atI_nat (j := 0) rfl, rfl, _, rfl, ?_⟩
      rw [wne o.s "constant" (by cases o <;> decide +kernel)]
      refine iteF ⟨_, rfl, p, _, _, _, rfl, rfl, hs, atI_nat (j := 0) rfl, rfl, _, rfl, ?_⟩
      rw [wne o.s "there" (by cases o <;> decide +kernel)]
      refine iteF ⟨_, rfl, p, _, _, _, rfl, rfl, hs, atI_nat (j := 1) rfl, _, rfl, u, a, t1, ps, rfl, hu, ha, by omega, ?_⟩
      refine ⟨_, rfl, p, _, _, _, rfl, rfl, hs, atI_nat (j := 0) rfl, rfl, _, rfl, ?_⟩
      rw [wne o.s "not" (by cases o <;> decide +kernel)]
      refine iteF ⟨_, rfl, p, _, _, _, rfl, rfl, hs, atI_nat (j := 2) rfl, _, rfl, u2, a, t2, ps, rfl, hu2, ha, by omega, ?_⟩
      refine ⟨_, rfl, p, _, _, _, rfl, rfl, hs, atI_nat (j := 0) rfl, rfl, _, rfl, ?_⟩
      cases o with
      | and =>
        rw [show decide (V.str (Str.ofString Bo.and.s) = V.str "and") = true from weq "and"]
        refine iteT ⟨_, rfl, _, rfl, ?_⟩
        have q : Q (.bl ((t1.ev fun e => decide (e ∈ ps)) && (t2.ev fun e => decide (e ∈ ps)))) H := q
        cases e : t1.ev fun e => decide (e ∈ ps) with
        | true =>
          rw [e] at q
          exact iteT ⟨_, rfl, q⟩
        | false =>
          rw [e] at q
          exact iteF q
      | or =>
        rw [show decide (V.str (Str.ofString Bo.or.s) = V.str "and") = false from wne "or" "and" (by decide +kernel)]
        refine iteF ⟨_, rfl, p, _, _, _, rfl, rfl, hs, atI_nat (j := 0) rfl, rfl, _, rfl, ?_⟩
        rw [show decide (V.str (Str.ofString Bo.or.s) = V.str "or") = true from weq "or"]
        refine iteT ⟨_, rfl, _, rfl, ?_⟩
        have q : Q (.bl ((t1.ev fun e => decide (e ∈ ps)) || (t2.ev fun e => decide (e ∈ ps)))) H := q
        cases e : t1.ev fun e => decide (e ∈ ps) with
        | true =>
          rw [e] at q
          exact iteT q
        | false =>
          rw [e] at q
          exact iteF ⟨_, rfl, q⟩
      | df =>
        rw [show decide (V.str (Str.ofString Bo.df.s) = V.str "and") = false from wne "differ" "and" (by decide +kernel)]
        refine iteF ⟨_, rfl, p, _, _, _, rfl, rfl, hs, atI_nat (j := 0) rfl, rfl, _, rfl, ?_⟩
        rw [show decide (V.str (Str.ofString Bo.df.s) = V.str "or") = false from wne "differ" "or" (by decide +kernel)]
        refine iteF ⟨_, rfl, _, rfl, rfl, ?_⟩
        have q : Q (.bl (bne (t1.ev fun e => decide (e ∈ ps)) (t2.ev fun e => decide (e ∈ ps)))) H := q
        cases e : t1.ev fun e => decide (e ∈ ps) <;> cases e2 : t2.ev fun e => decide (e ∈ ps) <;> rw [e, e2] at q <;> exact q
theorem cl_true {f : Addr} {fd : FuncData} (F : Fun K "_law_true" "_law_true" s__law_true f fd) (M : Mg mg) (g : mg "_law_true" = some (.ref f)) (b : Binds K fd ["tree", "present"] []) : ∀ n, Cl P w K mg base (n + 1) "_law_true" (sp_true K n)
  | 0 => FnOk.cl (P := P) (w := w) (base := base) (F.ok sc__law_true (fun vs H Q E h => by obtain ⟨v, a, t, ps, rfl, _⟩ := h; rfl) (fun cdv A outer s H vs Q E hr h => by obtain ⟨v, a, t, ps, rfl, _, _, hm, _⟩ := h; omega)) F g b
  | n + 1 => FnOk.cl (ok_true n F M (cl_true F M g b n)) F g b
set_option maxHeartbeats 4000000 in
theorem ok_build (m n : Nat) {f C : Addr} {fd : FuncData} (F : Fun K "_law_build" "_law_build" s__law_build f fd) (M : Mg mg) (c_Diagrams_there : ClM P w K mg base 2 C "there" (sp_there C K)) (c_Diagrams_conjunction : ClM P w K mg base (m + 3) C "conjunction" (sp_op2 C K m and)) (c_Diagrams_disjunction : ClM P w K mg base (m + 3) C "disjunction" (sp_op2 C K m or)) (c_Diagrams_negation : ClM P w K mg base (m + 3) C "negation" (sp_neg C K m)) (c_Diagrams_differs : ClM P w K mg base (m + 4) C "differs" (sp_op2 C K m bne))
    (c__law_build : Cl P w K mg base (m + 4 + n) "_law_build" (sp_build C K m n)) : FnOk P w K mg base CX0 (m + 4 + n + 1) f fd ["store", "tree"] (sp_build C K m (n + 1)) := by
  refine F.ok sc__law_build (fun vs H Q E h => ?_) (fun cdv A outer s H vs Q E hr h => ?_)
  · obtain ⟨s, N, es, L, v, t, rfl, _⟩ := h
    rfl
  · obtain ⟨s, N, es, L, v, t, rfl, st, hm, ok, hn, dp, z1, z2, q⟩ := h
    have o1 := opB_ge es
    have o2 : 1 ≤ 2 ^ es.length := Nat.one_le_two_pow
    refine ⟨_, (pss_cons (ps_if (pt_cmpR op_eq (pe_ix (ix_tupK K) (pv 1) pe_int (fun _ _ => rfl)) pe_str (nomark _)) (pss_one (ps_ret (pe_ix (ix_tupK K) (pv 1) pe_int (fun _ _ => rfl)))) pss_nil)
      (pss_cons (ps_if (pt_cmpR op_eq (pe_ix (ix_tupK K) (pv 1) pe_int (fun _ _ => rfl)) pe_str (nomark _)) (pss_one (ps_ret (pe_mt c_Diagrams_there hr (by first | decide | omega) (pv 0) (pa_cons (pe_ix (ix_tupK K) (pv 1) pe_int (fun _ _ => rfl)) pa_nil)))) pss_nil)
      (pss_cons (ps_set (i := 2) sc__law_build.nd rfl (.inl rfl) (pe_u c__law_build hr (by first | decide | omega) (by rfl) (pa_cons (pv 0) (pa_cons (pe_ix (ix_tupK K) (pv 1) pe_int (fun _ _ => rfl)) pa_nil))))
      (pss_cons (ps_if (pt_cmpR op_eq (pe_ix (ix_tupK K) (pv 1) pe_int (fun _ _ => rfl)) pe_str (nomark _)) (pss_one (ps_ret (pe_mt c_Diagrams_negation hr (by first | decide | omega) (pv 0) (pa_cons (pv 2) pa_nil)))) pss_nil)
      (pss_cons (ps_set (i := 3) sc__law_build.nd rfl (.inl rfl) (pe_u c__law_build hr (by first | decide | omega) (by rfl) (pa_cons (pv 0) (pa_cons (pe_ix (ix_tupK K) (pv 1) pe_int (fun _ _ => rfl)) pa_nil))))
      (pss_cons (ps_if (pt_cmpR op_eq (pe_ix (ix_tupK K) (pv 1) pe_int (fun _ _ => rfl)) pe_str (nomark _)) (pss_one (ps_ret (pe_mt c_Diagrams_conjunction hr (by first | decide | omega) (pv 0) (pa_cons (pv 2) (pa_cons (pv 3) pa_nil))))) pss_nil)
      (pss_one (ps_ret (pe_ifExp (pt_cmpR op_eq (pe_ix (ix_tupK K) (pv 1) pe_int (fun _ _ => rfl)) pe_str (nomark _)) (pe_mt c_Diagrams_disjunction hr (by first | decide | omega) (pv 0) (pa_cons (pv 2) (pa_cons (pv 3) pa_nil))) (pe_mt c_Diagrams_differs hr (by first | decide | omega) (pv 0) (pa_cons (pv 2) (pa_cons (pv 3) pa_nil)))))))))))), ?_⟩
    cases t with
    | con b =>
      obtain ⟨p, xs, rfl, hs, hx⟩ := dp_tup dp
      obtain ⟨u, rfl, hu⟩ := dp_two hx
      cases hu
      refine ⟨_, rfl, p, _, _, _, rfl, rfl, hs, atI_nat (j := 0) rfl, rfl, _, rfl, ?_⟩
      rw [weq]
      refine iteT ⟨_, rfl, p, _, _, _, rfl, rfl, hs, atI_nat (j := 1) rfl, ?_⟩
      have q := fun r T => q H [] r T (FdS.refl s H) (Nat.zero_le _) (by rw [List.append_nil]; exact st.more (Nat.le_add_right _ _))
      cases b with
      | true => exact q 1 _ .t .lf (fun _ => rfl)
      | false => exact q 0 _ .f .lf (fun _ => rfl)
    | ther e =>
      obtain ⟨p, xs, rfl, hs, hx⟩ := dp_tup dp
      obtain ⟨u, rfl, hu⟩ := dp_two hx
      cases hu
      have e1 : Tr.sz (.ther e) * opB es = opB es := Nat.one_mul _
      rw [e1] at z1 z2 q
      refine ⟨_, rfl, p, _, _, _, rfl, rfl, hs, atI_nat (j := 0) rfl, rfl, _, rfl, ?_⟩
      rw [wne "there" "constant" (by decide +kernel)]
      refine iteF ⟨_, rfl, p, _, _, _, rfl, rfl, hs, atI_nat (j := 0) rfl, rfl, _, rfl, ?_⟩
      rw [weq]
      refine iteT ⟨_, rfl, st.go (by decide +kernel) (by decide +kernel) (by decide +kernel) ⟨_, rfl, p, _, _, _, rfl, rfl, hs, atI_nat (j := 1) rfl, ?_⟩⟩
      refine ⟨s, N, es, L, e, rfl, st, by omega, fun H' M r f l st' a => q H' M r _ f (by omega) (st'.more (by omega)) a (Wf.one ok) fun ρ => ?_⟩
      show (if ρ e = true then true else false) = ρ e
      cases ρ e <;> rfl
    | nt t1 =>
      obtain ⟨p, xs, rfl, hs, hx⟩ := dp_tup dp
      obtain ⟨u, rfl, hu⟩ := dp_two hx
      have hn : t1.ht + 1 < n + 1 := hn
      have e1 : Tr.sz (.nt t1) * opB es = t1.sz * opB es + opB es := Nat.succ_mul _ _
      rw [e1] at z1 z2 q
      refine ⟨_, rfl, p, _, _, _, rfl, rfl, hs, atI_nat (j := 0) rfl, rfl, _, rfl, ?_⟩
      rw [wne "not" "constant" (by decide +kernel)]
      refine iteF ⟨_, rfl, p, _, _, _, rfl, rfl, hs, atI_nat (j := 0) rfl, rfl, _, rfl, ?_⟩
      rw [wne "not" "there" (by decide +kernel)]
      refine iteF ⟨_, rfl, _, rfl, p, _, _, _, rfl, rfl, hs, atI_nat (j := 1) rfl, ?_⟩
      refine ⟨s, N, es, L, u, t1, rfl, st, hm, ok, by omega, hu, by omega, by omega, fun H1 M1 r1 T1 f1 l1 st1 a1 w1 v1 => ?_⟩
      have hs1 := SqT.tsn (st.tup f1) hs
      refine ⟨_, rfl, p, _, _, _, rfl, rfl, hs1, atI_nat (j := 0) rfl, rfl, _, rfl, ?_⟩
      rw [weq]
      refine iteT ⟨_, rfl, st1.go (by decide +kernel) (by decide +kernel) (by decide +kernel) ⟨_, rfl, ?_⟩⟩
      refine ⟨s, N ++ M1, es, _, r1, T1, rfl, st1, hm, a1, w1, by rw [List.length_append]; omega, by omega, fun H2 M2 r2 T2 f2 l2 st2 a2 w2 v2 => ?_⟩
      rw [List.append_assoc] at st2 a2
      refine q H2 (M1 ++ M2) r2 T2 (f1.trans f2) (by rw [List.length_append]; omega) (st2.more (by omega)) a2 w2 fun ρ => ?_
      rw [v2, v1]
      rfl
    | bin o t1 t2 =>
      obtain ⟨p, xs, rfl, hs, hx⟩ := dp_tup dp
      obtain ⟨u, u2, rfl, hu, hu2⟩ := dp_three hx
      have hn : max t1.ht t2.ht + 1 < n + 1 := hn
      have e1 : Tr.sz (.bin o t1 t2) * opB es = t1.sz * opB es + t2.sz * opB es + opB es := by
        show (t1.sz + t2.sz + 1) * opB es = _
        rw [Nat.succ_mul, Nat.add_mul]
      rw [e1] at z1 z2 q
      refine ⟨_, rfl, p, _, _, _, rfl, rfl, hs, atI_nat (j := 0) rfl, rfl, _, rfl, ?_⟩
      rw [wne o.s "constant" (by cases o <;> decide +kernel)]
      refine iteF ⟨_, rfl, p, _, _, _, rfl, rfl, hs, atI_nat (j := 0) rfl, rfl, _, rfl, ?_⟩
      rw [wne o.s "there" (by cases o <;> decide +kernel)]
      refine iteF ⟨_, rfl, _, rfl, p, _, _, _, rfl, rfl, hs, atI_nat (j := 1) rfl, ?_⟩
      refine ⟨s, N, es, L, u, t1, rfl, st, hm, ok.1, by omega, hu, by omega, by omega, fun H1 M1 r1 T1 f1 l1 st1 a1 w1 v1 => ?_⟩
      have hs1 := SqT.tsn (st.tup f1) hs
      have hu21 := st.dp f1 (tr_only t2) hu2
      refine ⟨_, rfl, p, _, _, _, rfl, rfl, hs1, atI_nat (j := 0) rfl, rfl, _, rfl, ?_⟩
      rw [wne o.s "not" (by cases o <;> decide +kernel)]
      refine iteF ⟨_, rfl, _, rfl, p, _, _, _, rfl, rfl, hs1, atI_nat (j := 2) rfl, ?_⟩
      refine ⟨s, N ++ M1, es, _, u2, t2, rfl, st1, hm, ok.2, by omega, hu21, by rw [List.length_append]; omega, by omega, fun H2 M2 r2 T2 f2 l2 st2 a2 w2 v2 => ?_⟩
      have hs2 := SqT.tsn (st1.tup f2) hs1
      have fin : ∀ (g : Bool → Bool → Bool), g = o.f → sp_op2 C K m g [.ref s.p, .int ((r1 : Nat) : Int), .int ((r2 : Nat) : Int)] H2 Q E0 := fun g hg => by
        refine ⟨s, (N ++ M1) ++ M2, es, _, r1, r2, T1, T2, rfl, st2, hm, a1.mono, a2, w1, w2, by rw [List.length_append, List.length_append]; omega, by omega, fun H3 M3 r3 T3 f3 l3 st3 a3 w3 v3 => ?_⟩
        have eN : N ++ M1 ++ M2 ++ M3 = N ++ (M1 ++ M2 ++ M3) := by simp only [List.append_assoc]
        rw [eN] at st3 a3
        refine q H3 (M1 ++ M2 ++ M3) r3 T3 ((f1.trans f2).trans f3) (by rw [List.length_append, List.length_append]; omega) (st3.more (by omega)) a3 w3 fun ρ => ?_
        rw [v3, v1, v2, hg]
        rfl
      refine ⟨_, rfl, p, _, _, _, rfl, rfl, hs2, atI_nat (j := 0) rfl, rfl, _, rfl, ?_⟩
      cases o with
      | and =>
        rw [show decide (V.str (Str.ofString Bo.and.s) = V.str "and") = true from weq "and"]
        exact iteT ⟨_, rfl, st2.go (by decide +kernel) (by decide +kernel) (by decide +kernel) ⟨_, rfl, _, rfl, fin and rfl⟩⟩
      | or =>
        rw [show decide (V.str (Str.ofString Bo.or.s) = V.str "and") = false from wne "or" "and" (by decide +kernel)]
        refine iteF ⟨_, rfl, p, _, _, _, rfl, rfl, hs2, atI_nat (j := 0) rfl, rfl, _, rfl, ?_⟩
        rw [show decide (V.str (Str.ofString Bo.or.s) = V.str "or") = true from weq "or"]
        exact iteT ⟨_, rfl, st2.go (by decide +kernel) (by decide +kernel) (by decide +kernel) ⟨_, rfl, _, rfl, fin or rfl⟩⟩
      | df =>
        rw [show decide (V.str (Str.ofString Bo.df.s) = V.str "and") = false from wne "differ" "and" (by decide +kernel)]
        refine iteF ⟨_, rfl, p, _, _, _, rfl, rfl, hs2, atI_nat (j := 0) rfl, rfl, _, rfl, ?_⟩
        rw [show decide (V.str (Str.ofString Bo.df.s) = V.str "or") = false from wne "differ" "or" (by decide +kernel)]
        exact iteF ⟨_, rfl, st2.go (by decide +kernel) (by decide +kernel) (by decide +kernel) ⟨_, rfl, _, rfl, fin bne rfl⟩⟩
theorem cl_build (m : Nat) {f C : Addr} {fd : FuncData} (F : Fun K "_law_build" "_law_build" s__law_build f fd) (M : Mg mg) (g : mg "_law_build" = some (.ref f)) (b : Binds K fd ["store", "tree"] []) (c_Diagrams_there : ClM P w K mg base 2 C "there" (sp_there C K)) (c_Diagrams_conjunction : ClM P w K mg base (m + 3) C "conjunction" (sp_op2 C K m and)) (c_Diagrams_disjunction : ClM P w K mg base (m + 3) C "disjunction" (sp_op2 C K m or)) (c_Diagrams_negation : ClM P w K mg base (m + 3) C "negation" (sp_neg C K m)) (c_Diagrams_differs : ClM P w K mg base (m + 4) C "differs" (sp_op2 C K m bne)) :
    ∀ n, Cl P w K mg base (m + 4 + n) "_law_build" (sp_build C K m n)
  | 0 => FnOk.cl (P := P) (w := w) (base := base) (F.ok sc__law_build (fun vs H Q E h => by obtain ⟨s, N, es, L, v, t, rfl, _⟩ := h; rfl) (fun cdv A outer s H vs Q E hr h => by obtain ⟨s, N, es, L, v, t, rfl, st, hm, ok, hn, _⟩ := h; omega)) F g b
  | n + 1 => FnOk.cl (ok_build m n F M c_Diagrams_there c_Diagrams_conjunction c_Diagrams_disjunction c_Diagrams_negation c_Diagrams_differs (cl_build m F M g b c_Diagrams_there c_Diagrams_conjunction c_Diagrams_disjunction c_Diagrams_negation c_Diagrams_differs n)) F g b
theorem ok_subs {f : Addr} {fd : FuncData} (F : Fun K "_law_subsets" "_law_subsets" s__law_subsets f fd) (M : Mg mg) : FnOk P w K mg base CX0 1 f fd ["entries"] sp_subs := by
  refine F.ok sc__law_subsets (fun vs H Q E h => ?_) (fun cdv A outer s H vs Q E hr h => ?_)
  · obtain ⟨a, es, rfl, _⟩ := h
    rfl
  · obtain ⟨a, es, rfl, ha, hl, q⟩ := h
    refine ⟨_, (pss_cons (ps_set (i := 1) sc__law_subsets.nd rfl (.inl rfl) (pe_lst (pa_cons (pe_lst pa_nil) pa_nil)))
      (pss_cons (ps_for PassesOwn.never rfl (pi_list (pv 0)) (pg_name (i := 2) sc__law_subsets.nd rfl (.inr rfl)) (pss_one (ps_set (i := 1) sc__law_subsets.nd rfl (.inl rfl) (pe_op op_cat (pv 1) (pe_lc (own := [("part", 3)]) (g := gName 3) (tt := tYes) rfl sc__law_subsets.nd (pi_list (pv 1)) (blkOk_by (N := N__law_subsets) (sc := defScope s__law_subsets) (by decide +kernel)) (fun _ _ _ _ _ => (pg_name (i := 3) sc__law_subsets.nd rfl (.inl rfl))) (fun _ _ _ _ _ => pts_nil) (fun _ _ _ _ _ => (pe_op op_cat (pv 3) (pe_lst (pa_cons (pv 2) pa_nil)))))))))
      (pss_one (ps_ret (pv 1))))), ?_⟩
    refine ⟨by show 0 ≤ sizeLine; decide, fun p1 n1 => ?_⟩
    have s1 := same_upd n1 (o := .lst [])
    have e1 : (upd H p1 (.lst [])) p1 = some (.lst (([] : List Int).map V.int)) := upd_same
    generalize upd H p1 (.lst []) = H1 at s1 e1
    refine ⟨by show 1 ≤ sizeLine; decide, fun p2 n2 => ?_⟩
    have s2 := same_upd n2 (o := .lst [.ref p1])
    have e2 : (upd H1 p2 (.lst [.ref p1])) p2 = some (.lst ([p1].map V.ref)) := upd_same
    generalize upd H1 p2 (.lst [.ref p1]) = H2 at s2 e2
    refine ⟨_, rfl, a, rfl, ⟨_, .of ((s1.trans s2) _ _ ha)⟩, ?_⟩
    refine for_list (K := K) (a := a) (xs := es.map V.int) (fun i σ Hi => ∃ (p : Addr) (z y : Option V), σ = [some (.ref a), some (.ref p), z, y] ∧ Same H Hi ∧ H p = none ∧ LL Hi p (subs (es.take i))) ⟨p2, none, none, rfl, s1.trans s2, s1.free n2, [p1], e2, rfl, fun i b l hb hl => ?_⟩ (fun i σ Hi _ hp => by obtain ⟨p, z, y, rfl, si, _⟩ := hp; exact .of (si _ _ ha)) (fun i x σ Hi hx hp => ?_) (fun σ Hn hp => ?_)
    · match i, hb, hl with
      | 0, hb, hl =>
        cases hb
        cases hl
        exact s2 _ _ e1
      | i + 1, hb, _ => simp at hb
    · obtain ⟨p, z, y, rfl, si, np, ll⟩ := hp
      rw [List.getElem?_map] at hx
      obtain ⟨e, he, rfl⟩ := Option.map_eq_some_iff.mp hx
      have hi : i < es.length := (List.getElem?_eq_some_iff.mp he).1
      have et : es.take (i + 1) = es.take i ++ [e] := by rw [List.take_add_one, he]; rfl
      have lsub : (subs (es.take i)).length ≤ 1024 := by
        rw [subs_len, List.length_take]
        exact Nat.le_trans (Nat.pow_le_pow_right (by decide) (show min i es.length ≤ 10 by omega)) (by decide)
      obtain ⟨as, g1, g2, g3⟩ := id ll
      obtain ⟨as', k1, k2, k3⟩ := ll.get
      refine ⟨_, rfl, _, rfl, p, rfl, ⟨_, .of k1⟩, fun D nD => ?_⟩
      refine lc_list (K := K) (a := p) (xs := as'.map V.ref) (fun j Hj => Same Hi Hj ∧ LL Hj D ((subs (es.take i)).take j |>.map (· ++ [e]))) ⟨same_upd nD, [], upd_same, rfl, fun i b l hb _ => by simp at hb⟩ (fun j Hj _ hp => .of (hp.1 _ _ k1)) (fun j x Hj hx hp => ?_) (fun Hn hp => ?_)
      · obtain ⟨sj, cs, c1, c2, c3⟩ := hp
        obtain ⟨b, l, rfl, hl, hb⟩ := k3 j x hx
        have hj : j < (subs (es.take i)).length := (List.getElem?_eq_some_iff.mp hl).1
        refine ⟨rfl, ?_⟩
        refine ⟨_, rfl, _, rfl, by show 1 ≤ sizeLine; decide, fun q1 nq1 => ?_⟩
        have t1 := same_upd nq1 (o := .lst [.int e])
        have eq1 : (upd Hj q1 (.lst [.int e])) q1 = some (.lst [.int e]) := upd_same
        generalize upd Hj q1 (.lst [.int e]) = Hj1 at t1 eq1
        have ll1 : l.length ≤ 10 := by
          have := subs_le _ l (List.mem_of_getElem? hl)
          have h2 := this.1
          rw [List.length_take] at h2
          omega
        refine ⟨b, q1, _, _, rfl, rfl, (sj.trans t1) _ _ hb, eq1, by rw [List.length_map]; exact Nat.le_trans (m := 100) (by show _ + 1 ≤ 100; omega) (by decide), fun q2 nq2 => ?_⟩
        have t2 := same_upd nq2 (o := .lst (l.map V.int ++ [.int e]))
        have eq2 : (upd Hj1 q2 (.lst (l.map V.int ++ [.int e]))) q2 = some (.lst ((l ++ [e]).map V.int)) := by rw [upd_same, List.map_append]; rfl
        generalize upd Hj1 q2 (.lst (l.map V.int ++ [.int e])) = Hj2 at t2 eq2
        have sj2 := (sj.trans t1).trans t2
        have cD := (t1.trans t2) _ _ c1
        refine ⟨_, cD, ?_, ?_, ?_⟩
        · rw [List.length_map, c2, List.length_map, List.length_take]
          exact Nat.lt_of_le_of_lt (m := 1024) (by omega) (by decide)
        · intro x o hx'
          rw [upd_ne (ne_of_none hx' nD)]
          exact sj2 _ _ hx'
        · refine ⟨cs ++ [q2], by rw [upd_same, List.map_append]; rfl, ?_, fun i' b' l' hb' hl' => ?_⟩
          · rw [List.length_append, c2, List.take_add_one, hl, List.map_append, List.length_append]
            rfl
          · have lc : cs.length = j := by rw [c2, List.length_map, List.length_take]; omega
            have nbD : b' ≠ D := by
              by_cases hi' : i' < cs.length
              · rw [List.getElem?_append_left hi'] at hb'
                intro z
                subst z
                -- the new list's own address is not one of its items
                have := c3 i' b' _ hb' (List.getElem?_eq_getElem (by rw [← c2]; exact hi'))
                rw [c1] at this
                have e := HO.lst.inj (Option.some.inj this)
                cases cs with
                | nil => simp at hi'
                | cons c cs =>
                  rw [List.map_cons] at e
                  generalize (List.map (fun x => x ++ [_]) _)[i'] = w at e
                  cases w with
                  | nil => cases e
                  | cons w1 w2 => rw [List.map_cons] at e; exact nomatch (List.cons.inj e).1
              · rw [List.getElem?_append_right (by omega)] at hb'
                have : b' = q2 := by
                  cases h : i' - cs.length with
                  | zero => rw [h] at hb'; exact (Option.some.inj hb').symm
                  | succ k => rw [h] at hb'; simp at hb'
                subst this
                exact (ne_of_none (t1 _ _ c1) nq2).symm
            rw [upd_ne nbD]
            rw [List.take_add_one, hl, List.map_append] at hl'
            by_cases hi' : i' < cs.length
            · rw [List.getElem?_append_left hi'] at hb'
              rw [List.getElem?_append_left (by rw [← c2]; exact hi')] at hl'
              exact (t1.trans t2) _ _ (c3 i' b' l' hb' hl')
            · rw [List.getElem?_append_right (by omega)] at hb'
              rw [List.getElem?_append_right (by rw [← c2]; omega), ← c2] at hl'
              cases h : i' - cs.length with
              | zero =>
                rw [h] at hb' hl'
                have e1 : q2 = b' := Option.some.inj hb'
                have e2 : l ++ [e] = l' := Option.some.inj hl'
                subst e1 e2
                exact eq2
              | succ k => rw [h] at hb'; simp at hb'
      · obtain ⟨sn, ll2⟩ := hp
        have el : (as'.map V.ref).length = (subs (es.take i)).length := by rw [List.length_map, k2]
        rw [el, List.take_of_length_le (Nat.le_refl _)] at ll2
        obtain ⟨bs, b1, b2, b3⟩ := id ll2
        refine ⟨p, D, _, _, rfl, rfl, sn _ _ k1, b1, ?_, fun q' nq' => ?_⟩
        · rw [List.length_map, List.length_map, k2, b2, List.length_map]
          exact Nat.le_trans (m := 2048) (by omega) (by decide)
        · refine ⟨q', _, _, rfl, (si.trans sn).trans (same_upd nq'), (si.trans sn).free nq', ?_⟩
          rw [et, subs_snoc]
          exact LL.app (q := q') nq' (ll.ext sn) ll2 (sn _ _ k1) b1
    · obtain ⟨p, z, y, rfl, si, np, ll⟩ := hp
      rw [List.length_map, List.take_of_length_le (Nat.le_refl _)] at ll
      exact ⟨_, rfl, q Hn p si np ll⟩
end

/-! ### lists of numbers and of truth values as data -/
theorem dpa_map {K : PySem.W.Frag} {H : Hp} {α : Type} (f : α → V) (g : α → PyData) (h : ∀ a, Dp K H (f a) (g a)) : ∀ l : List α, DpAll K H (l.map f) (l.map g)
  | [] => .nil
  | a :: l => .cons (h a) (dpa_map f g h l)
theorem dp_ints {K : PySem.W.Frag} {H : Hp} {a : Addr} {ps : List Int} (h : SqL K H a (ps.map V.int)) : Dp K H (.ref a) (.list (ps.map PyData.int)) := .lst h (dpa_map _ _ (fun i => .int i) ps)
theorem dp_bls {K : PySem.W.Frag} {H : Hp} {a : Addr} {ps : List Bool} (h : SqL K H a (ps.map V.bl)) : Dp K H (.ref a) (.list (ps.map PyData.bool)) := .lst h (dpa_map _ _ (fun i => .bl i) ps)
theorem flat_shaped {α : Type} (g : α → PyData) (h1 : ∀ a, PyData.canLay0 (g a) = true) (h2 : ∀ a, PyData.depth (g a) = 0) (l : List α) : SeqAt.shaped (.list (l.map g)) = true := by
  have e1 : PyData.canLayAll0 (l.map g) = true := by
    induction l with
    | nil => rfl
    | cons x xs ih =>
      rw [List.map_cons]
      unfold PyData.canLayAll0
      rw [ih, h1]
      rfl
  have e2 : PyData.depthAll (l.map g) = 0 := by
    clear e1
    induction l with
    | nil => rfl
    | cons x xs ih =>
      rw [List.map_cons]
      unfold PyData.depthAll
      rw [ih, h2]
      rfl
  unfold SeqAt.shaped
  rw [Bool.and_eq_true]
  refine ⟨by unfold PyData.canLay0; exact e1, decide_eq_true ?_⟩
  unfold PyData.depth
  omega
theorem ints_shaped (l : List Int) : SeqAt.shaped (.list (l.map PyData.int)) = true := flat_shaped _ (fun _ => rfl) (fun _ => rfl) l
theorem bls_shaped (l : List Bool) : SeqAt.shaped (.list (l.map PyData.bool)) = true := flat_shaped _ (fun _ => rfl) (fun _ => rfl) l
theorem ints_eqv (l : List Int) : PyData.eqv (.list (l.map PyData.int)) (.list (l.map PyData.int)) = true := SeqAt.eqv_refl _ (SeqAt.canLay_of_shaped (ints_shaped l))
theorem Sto.fd {C : Addr} {K : PySem.W.Frag} {H H' : Hp} {s : SA} {N : Nds} {es : List Int} {L : Nat} {d : Addr} (st : Sto C K H s N es L) (hd : ∃ zs, H d = some (.lst zs)) (n : d ≠ s.k) (f : Fd d H H') : Sto C K H' s N es L := by
  obtain ⟨⟨dx, h1⟩, ⟨xs, h2, h3⟩, ⟨kvs, h4, h5⟩, ⟨cvs, h6, h7⟩, h8⟩ := st
  obtain ⟨zs, hz⟩ := hd
  exact ⟨⟨dx, f _ _ (ne_of h1 hz (fun z => nomatch z)) h1⟩, ⟨xs, f _ _ n.symm h2, DpAll.fd ⟨zs, hz⟩ f _ _ (nD_only _) h3⟩, ⟨kvs, f _ _ (ne_of h4 hz (fun z => nomatch z)) h4, h5⟩, ⟨cvs, f _ _ (ne_of h6 hz (fun z => nomatch z)) h6, h7⟩, h8⟩
theorem andV {c b : Bool} {i : Nat} {σ : L2.St} {H : Hp} {Q : VK} (hs : σ[i]? = some (some (.bl b))) (h : Q (.bl (c && b)) H) : if c = true then tVar i σ H Q else Q (.bl false) H := by
  cases c with
  | true => exact iteT ⟨_, hs, h⟩
  | false => exact iteF h
theorem orV {c b : Bool} {i : Nat} {σ : L2.St} {H : Hp} {Q : VK} (hs : σ[i]? = some (some (.bl b))) (h : Q (.bl (c || b)) H) : if c = true then Q (.bl true) H else tVar i σ H Q := by
  cases c with
  | true => exact iteT h
  | false => exact iteF ⟨_, hs, h⟩
theorem bne_dec (a b : Bool) : (!decide (V.bl a = V.bl b)) = bne a b := by cases a <;> cases b <;> rfl
/-- the store made, beside what was there -/
theorem made_same {p dx C : Addr} {H H' : Hp} (np : H p = none) (nd : H dx = none) (f : Fd p (upd (upd H dx (.own p)) p (.ins C dx [])) H') : Same H H' := fun b o e => by
  have h1 : b ≠ p := ne_of_none e np
  have h2 : b ≠ dx := ne_of_none e nd
  refine f b o h1 ?_
  rw [upd_ne h1, upd_ne h2]
  exact e
theorem made_free {p dx C k : Addr} {H : Hp} (h : (upd (upd H dx (.own p)) p (.ins C dx [])) k = none) : H k = none := by
  by_cases h1 : k = p
  · subst h1
    rw [upd_same] at h
    cases h
  by_cases h2 : k = dx
  · subst h2
    rw [upd_ne h1, upd_same] at h
    cases h
  rw [upd_ne h1, upd_ne h2] at h
  exact h
/-- what stood before the store was made stands behind all its operations -/
theorem FdS.same {s : SA} {H0 H H' : Hp} (h : Same H0 H) (nk : H0 s.k = none) (nu : H0 s.u = none) (nm : H0 s.m = none) (f : FdS s H H') : Same H0 H' := fun b o e => f b o (ne_of_none e nk) (ne_of_none e nu) (ne_of_none e nm) (h b o e)

/-! ### two data that are the same -/
/-- data of some depth, their lists not too long -/
inductive Sh : Nat → PyData → Prop
  | non {n : Nat} : Sh n .none
  | bl {n : Nat} (b : Bool) : Sh n (.bool b)
  | int {n : Nat} (i : Int) : Sh n (.int i)
  | str {n : Nat} (x : Str) : Sh n (.str x)
  | lst {n : Nat} {ds : List PyData} (l : ds.length ≤ 100000) (h : ∀ d ∈ ds, Sh n d) : Sh (n + 1) (.list ds)
  | tup {n : Nat} {ds : List PyData} (l : ds.length ≤ 100000) (h : ∀ d ∈ ds, Sh n d) : Sh (n + 1) (.tuple ds)
def tnm : PyData → String
  | .none => "NoneType"
  | .bool _ => "bool"
  | .int _ => "int"
  | .str _ => "str"
  | .list _ => "list"
  | .tuple _ => "tuple"
  | .dict _ => "dict"
theorem tyD {K : PySem.W.Frag} {H : Hp} {v : V} {d : PyData} (h : Dp K H v d) : TyX K H v (.type (tnm d)) := by
  cases h with
  | non => exact .base .non
  | bl b => exact .base (.bl b)
  | int i => exact .base (.int i)
  | str x => exact .base (.str x)
  | lst hs _ => exact tyL hs
  | tup hs _ => exact tyT hs
theorem k_any2 {K : PySem.W.Frag} {tn c1 c2 : String} {r1 r2 : Bool} (h1 : kitB tn c1 = some r1) (h2 : kitB tn c2 = some r2) : PySem.W.kitAny K (.type tn) [.type c1, .type c2] = some (r1 || r2) :=
  kitAny_cons (kit_ty h1) (fun e => by
    rw [e, Bool.false_or]
    exact kitAny_cons (b := r2) (kit_ty h2) (fun e2 => by rw [e2]; exact kitAny_nil) (fun e2 => e2)) (fun e => by rw [e, Bool.true_or])
theorem rep_bl (n : Nat) : (List.replicate n true).all id = true := by
  rw [List.all_replicate]
  simp
def sp_same (K : PySem.W.Frag) (n : Nat) : Sp := fun vs H Q _ => ∃ (x y : V) (D : PyData) (m : Nat), n = m + 1 ∧ vs = [x, y] ∧ Sh m D ∧ Dp K H x D ∧ Dp K H y D ∧ ∀ H', Same H H' → Q (.bl true) H'
section
variable {P : Program} {w : World} {K : PySem.W.Frag} {mg : Str → Option Value} {base : Heap}
theorem ok_same {f : Addr} {fd : FuncData} {n l : Nat} (F : Fun K "_law_same" "_law_same" s__law_same f fd) (M : Mg mg) (c__law_same : Cl P w K mg base l "_law_same" (sp_same K n)) : FnOk P w K mg base CX0 (l + 1) f fd ["actual", "due"] (sp_same K (n + 1)) := by
  refine F.ok sc__law_same (fun vs H Q E h => ?_) (fun cdv A outer s H vs Q E hr h => ?_)
  · obtain ⟨x, y, D, m, _, rfl, _⟩ := h
    rfl
  · obtain ⟨x, y, D, m, em, rfl, sh, hx, hy, q⟩ := h
    refine ⟨_, (pss_cons (ps_if (pt_val (pe_callB (isiTK K) (by rfl) M.isinstance (by decide +kernel) (pa_cons (pv 1) (pa_cons (pe_tup (pa_cons (pe_bltn (v := .ty "list") (by rfl) M.list (by decide +kernel) rfl) (pa_cons (pe_bltn (v := .ty "tuple") (by rfl) M.tuple (by decide +kernel) rfl) pa_nil))) pa_nil)))) (pss_cons (ps_if (PW.pt (pw_or (pt_cmpR op_ne (pe_callB (isiK K) (by rfl) M.isinstance (by decide +kernel) (pa_cons (pv 1) (pa_cons (pe_bltn (v := .ty "list") (by rfl) M.list (by decide +kernel) rfl) pa_nil))) (pe_callB (isiK K) (by rfl) M.isinstance (by decide +kernel) (pa_cons (pv 0) (pa_cons (pe_bltn (v := .ty "list") (by rfl) M.list (by decide +kernel) rfl) pa_nil))) (nomark _)) (pw_or1 (pt_cmpR op_ne (pe_callB (isiK K) (by rfl) M.isinstance (by decide +kernel) (pa_cons (pv 1) (pa_cons (pe_bltn (v := .ty "tuple") (by rfl) M.tuple (by decide +kernel) rfl) pa_nil))) (pe_callB (isiK K) (by rfl) M.isinstance (by decide +kernel) (pa_cons (pv 0) (pa_cons (pe_bltn (v := .ty "tuple") (by rfl) M.tuple (by decide +kernel) rfl) pa_nil))) (nomark _))))) (pss_one (ps_ret pe_bl)) pss_nil)
      (pss_cons (ps_if (pt_cmpR op_ne (pe_callB (len_seqK K) (by rfl) M.len PySem.boot_len (pa_cons (pv 0) pa_nil)) (pe_callB (len_seqK K) (by rfl) M.len PySem.boot_len (pa_cons (pv 1) pa_nil)) (nomark _)) (pss_one (ps_ret pe_bl)) pss_nil)
      (pss_one (ps_ret (pe_callB (allK K rfl) (by rfl) M.all (by decide +kernel) (pa_cons (pe_lc (own := [("k", 2)]) (g := gName 2) (tt := tYes) rfl sc__law_same.nd (pi_range1 (by rfl) M.range (pa_cons (pe_callB (len_seqK K) (by rfl) M.len PySem.boot_len (pa_cons (pv 1) pa_nil)) pa_nil)) (blkOk_by (N := N__law_same) (sc := defScope s__law_same) (by decide +kernel)) (fun _ _ _ _ _ => (pg_name (i := 2) sc__law_same.nd rfl (.inl rfl))) (fun _ _ _ _ _ => pts_nil) (fun _ _ _ _ _ => (pe_u c__law_same hr (by first | decide | omega) (by rfl) (pa_cons (pe_ix (ix_seqK K) (pv 0) (pv 2) (fun _ _ => rfl)) (pa_cons (pe_ix (ix_seqK K) (pv 1) (pv 2) (fun _ _ => rfl)) pa_nil))))) pa_nil)))))) pss_nil)
      (pss_cons (ps_if (pt_cmpR op_isN (pv 1) pe_non (nomark _)) (pss_one (ps_ret (pe_cmpR op_isN (pv 0) pe_non (nomark _)))) pss_nil)
      (pss_cons (ps_if (pt_cmpR op_ne (pe_callB (isiK K) (by rfl) M.isinstance (by decide +kernel) (pa_cons (pv 1) (pa_cons (pe_bltn (v := .ty "bool") (by rfl) M.bool (by decide +kernel) rfl) pa_nil))) (pe_callB (isiK K) (by rfl) M.isinstance (by decide +kernel) (pa_cons (pv 0) (pa_cons (pe_bltn (v := .ty "bool") (by rfl) M.bool (by decide +kernel) rfl) pa_nil))) (nomark _)) (pss_one (ps_ret pe_bl)) pss_nil)
      (pss_cons (ps_if (pt_val (pe_callB (isiK K) (by rfl) M.isinstance (by decide +kernel) (pa_cons (pv 1) (pa_cons (pe_bltn (v := .ty "str") (by rfl) M.str (by decide +kernel) rfl) pa_nil)))) (pss_one (ps_ret (pe_and (pe_callB (isiK K) (by rfl) M.isinstance (by decide +kernel) (pa_cons (pv 0) (pa_cons (pe_bltn (v := .ty "str") (by rfl) M.str (by decide +kernel) rfl) pa_nil))) (pe_one (pe_cmpR op_eq (pv 0) (pv 1) (nomark _)))))) pss_nil)
      (pss_one (ps_ret (pe_and (pe_callB (isiK K) (by rfl) M.isinstance (by decide +kernel) (pa_cons (pv 0) (pa_cons (pe_bltn (v := .ty "int") (by rfl) M.int (by decide +kernel) rfl) pa_nil))) (pe_one (pe_cmpR op_eq (pv 0) (pv 1) (nomark _)))))))))), ?_⟩
    refine ⟨_, rfl, by show 2 ≤ sizeLine; decide, fun p np => ?_⟩
    have s1 : Same H (upd H p (.tup [.ty "list", .ty "tuple"])) := same_upd np
    have h1 : (upd H p (.tup [.ty "list", .ty "tuple"])) p = some (.tup [.ty "list", .ty "tuple"]) := upd_same
    generalize upd H p (.tup [.ty "list", .ty "tuple"]) = H1 at s1 h1
    have hx1 := Dp.ext s1 D x hx
    have hy1 := Dp.ext s1 D y hy
    have key : (∃ (a b : Addr) (xs ys : List V) (ds : List PyData) (k : Nat) (tn : String) (r1 r2 : Bool), x = .ref a ∧ y = .ref b ∧ (SqL K H1 a xs ∧ SqL K H1 b ys ∨ SqT K H1 a xs ∧ SqT K H1 b ys) ∧ DpAll K H1 xs ds ∧ DpAll K H1 ys ds ∧ ds.length ≤ 100000 ∧ m = k + 1 ∧ (∀ d ∈ ds, Sh k d) ∧
        TyX K H1 x (.type tn) ∧ TyX K H1 y (.type tn) ∧ kitB tn "list" = some r1 ∧ kitB tn "tuple" = some r2 ∧ (r1 || r2) = true) ∨
        (∃ (tn : String), TyX K H1 x (.type tn) ∧ TyX K H1 y (.type tn) ∧ kitB tn "list" = some false ∧ kitB tn "tuple" = some false ∧ (x = .non ∧ y = .non ∨ (∃ b, x = .bl b ∧ y = .bl b ∧ tn = "bool") ∨ (∃ i, x = .int i ∧ y = .int i ∧ tn = "int") ∨ (∃ z, x = .str z ∧ y = .str z ∧ tn = "str"))) := by
      cases sh with
      | non => cases hx1; cases hy1; exact .inr ⟨"NoneType", .base .non, .base .non, by decide +kernel, by decide +kernel, .inl ⟨rfl, rfl⟩⟩
      | bl b => cases hx1; cases hy1; exact .inr ⟨"bool", .base (.bl b), .base (.bl b), by decide +kernel, by decide +kernel, .inr (.inl ⟨b, rfl, rfl, rfl⟩)⟩
      | int i => cases hx1; cases hy1; exact .inr ⟨"int", .base (.int i), .base (.int i), by decide +kernel, by decide +kernel, .inr (.inr (.inl ⟨i, rfl, rfl, rfl⟩))⟩
      | str z => cases hx1; cases hy1; exact .inr ⟨"str", .base (.str z), .base (.str z), by decide +kernel, by decide +kernel, .inr (.inr (.inr ⟨z, rfl, rfl, rfl⟩))⟩
      | lst l h =>
        cases hx1 with
        | lst hs ha =>
          cases hy1 with
          | lst hs' ha' => exact .inl ⟨_, _, _, _, _, _, "list", true, false, rfl, rfl, .inl ⟨hs, hs'⟩, ha, ha', l, rfl, h, tyL hs, tyL hs', by decide +kernel, by decide +kernel, rfl⟩
      | tup l h =>
        cases hx1 with
        | tup hs ha =>
          cases hy1 with
          | tup hs' ha' => exact .inl ⟨_, _, _, _, _, _, "tuple", false, true, rfl, rfl, .inr ⟨hs, hs'⟩, ha, ha', l, rfl, h, tyT hs, tyT hs', by decide +kernel, by decide +kernel, rfl⟩
    rcases key with ⟨a, b, xs, ys, ds, k, tn, r1, r2, rfl, rfl, hq, ha, hb, hl, ek, hk, tx, ty, k1, k2, kr⟩ | ⟨tn, tx, ty, k1, k2, hs⟩
    · -- a list or a tuple
      have ex := DpAll.len ha
      have ey := DpAll.len hb
      have hqa : SqL K H1 a xs ∨ SqT K H1 a xs := hq.elim (fun z => .inl z.1) (fun z => .inr z.1)
      have hqb : SqL K H1 b ys ∨ SqT K H1 b ys := hq.elim (fun z => .inl z.2) (fun z => .inr z.2)
      refine ⟨_, _, _, _, _, _, rfl, h1, .cons (.ty _) (.cons (.ty _) .nil), ty, k_any2 k1 k2, ?_⟩
      refine ⟨_, rfl, ?_⟩
      rw [kr]
      refine iteT ?_
      -- the kinds
      refine ⟨_, rfl, ⟨_, _, _, _, _, rfl, .ty _, ty, kit_ty k1, _, rfl, ⟨_, _, _, _, _, rfl, .ty _, tx, kit_ty k1, rfl, _, rfl, ?_⟩⟩⟩
      rw [decide_eq_true (rfl : V.bl r1 = V.bl r1)]
      refine iteF ?_
      refine ⟨_, rfl, ⟨_, _, _, _, _, rfl, .ty _, ty, kit_ty k2, _, rfl, ⟨_, _, _, _, _, rfl, .ty _, tx, kit_ty k2, rfl, _, rfl, ?_⟩⟩⟩
      rw [decide_eq_true (rfl : V.bl r2 = V.bl r2)]
      refine iteF ?_
      -- the lengths
      refine ⟨_, rfl, a, xs, rfl, hqa, ⟨_, rfl, b, ys, rfl, hqb, rfl, _, rfl, ?_⟩⟩
      rw [ex, ey, decide_eq_true (rfl : V.int (ds.length : Int) = V.int (ds.length : Int))]
      refine iteF ?_
      -- by places
      refine ⟨_, rfl, b, ys, rfl, hqb, _, rfl, by omega, by omega, fun D nD => ?_⟩
      rw [ey]
      refine lc_range (lo := 0) (n := ((ds.length : Nat) : Int).toNat) (fun i Hi => Same H1 Hi ∧ Hi D = some (.lst ((List.replicate i true).map V.bl))) ⟨same_upd nD, upd_same⟩ (fun i Hi hi hp => ?_) (fun Hn hp => ?_)
      · obtain ⟨si, eD⟩ := hp
        have hi2 : i < ds.length := by omega
        obtain ⟨va, hva, da⟩ := DpAll.get (DpAll.ext si ds xs ha) (List.getElem?_eq_getElem hi2)
        obtain ⟨vb, hvb, db⟩ := DpAll.get (DpAll.ext si ds ys hb) (List.getElem?_eq_getElem hi2)
        have ia : rIx K (.ref a) (.int (0 + (i : Int))) Hi = rIx K (.ref a) (.int (0 + (i : Int))) Hi := rfl
        refine ⟨rfl, ?_⟩
        have go : ∀ (c : Addr) (zs : List V) (v : V) (Q : VK), (SqL K H1 c zs ∨ SqT K H1 c zs) → zs[i]? = some v → Q v Hi → rIx K (.ref c) (.int (0 + (i : Int))) Hi Q := fun c zs v Q hz hv hQ => by
          rcases hz with hz | hz
          · exact .inl ⟨c, zs, _, v, rfl, rfl, si.seq hz, at_0 hv, hQ⟩
          · exact .inr (.inl ⟨c, zs, _, v, rfl, rfl, SqT.ext si hz, at_0 hv, hQ⟩)
        refine ⟨_, rfl, _, rfl, go a xs va _ hqa hva ⟨_, rfl, _, rfl, go b ys vb _ hqb hvb ?_⟩⟩
        refine ⟨va, vb, ds[i], k, by omega, rfl, hk _ (List.getElem_mem hi2), da, db, fun H' s' => ?_⟩
        refine ⟨_, s' _ _ eD, ?_, fun b o e => ?_, ?_⟩
        · rw [List.length_map, List.length_replicate]
          exact Nat.lt_of_lt_of_le (m := 100000) (by omega) (by decide)
        · have nb : b ≠ D := ne_of_none e nD
          rw [upd_ne nb]
          exact s' _ _ (si _ _ e)
        · rw [upd_same, List.replicate_succ', List.map_append]
          rfl
      · obtain ⟨si, eD⟩ := hp
        refine ⟨D, _, rfl, .of eD, ?_⟩
        rw [rep_bl]
        exact q _ (s1.trans si)
    · -- neither
      refine ⟨_, _, _, _, _, _, rfl, h1, .cons (.ty _) (.cons (.ty _) .nil), ty, k_any2 k1 k2, ?_⟩
      refine ⟨_, rfl, iteF ?_⟩
      rcases hs with ⟨rfl, rfl⟩ | ⟨b, rfl, rfl, rfl⟩ | ⟨i, rfl, rfl, rfl⟩ | ⟨z, rfl, rfl, rfl⟩
      · -- None
        refine ⟨_, rfl, rfl, _, rfl, iteT ?_⟩
        refine ⟨_, rfl, rfl, ?_⟩
        exact q _ s1
      · refine ⟨_, rfl, rfl, _, rfl, iteF ?_⟩
        refine ⟨_, rfl, ⟨_, _, _, _, _, rfl, .ty _, ty, kit_ty (show kitB _ _ = some true by decide +kernel), _, rfl, ⟨_, _, _, _, _, rfl, .ty _, tx, kit_ty (show kitB _ _ = some true by decide +kernel), rfl, _, rfl, iteF ?_⟩⟩⟩
        refine ⟨_, rfl, ⟨_, _, _, _, _, rfl, .ty _, ty, kit_ty (show kitB _ _ = some false by decide +kernel), _, rfl, iteF ?_⟩⟩
        refine ⟨_, rfl, ⟨_, _, _, _, _, rfl, .ty _, tx, kit_ty (show kitB _ _ = some true by decide +kernel), _, rfl, iteT ?_⟩⟩
        refine ⟨_, rfl, _, rfl, by cases b <;> rfl, ?_⟩
        rw [decide_eq_true (rfl : V.bl b = V.bl b)]
        exact q _ s1
      · refine ⟨_, rfl, rfl, _, rfl, iteF ?_⟩
        refine ⟨_, rfl, ⟨_, _, _, _, _, rfl, .ty _, ty, kit_ty (show kitB _ _ = some false by decide +kernel), _, rfl, ⟨_, _, _, _, _, rfl, .ty _, tx, kit_ty (show kitB _ _ = some false by decide +kernel), rfl, _, rfl, iteF ?_⟩⟩⟩
        refine ⟨_, rfl, ⟨_, _, _, _, _, rfl, .ty _, ty, kit_ty (show kitB _ _ = some false by decide +kernel), _, rfl, iteF ?_⟩⟩
        refine ⟨_, rfl, ⟨_, _, _, _, _, rfl, .ty _, tx, kit_ty (show kitB _ _ = some true by decide +kernel), _, rfl, iteT ?_⟩⟩
        refine ⟨_, rfl, _, rfl, rfl, ?_⟩
        rw [decide_eq_true (rfl : V.int i = V.int i)]
        exact q _ s1
      · refine ⟨_, rfl, rfl, _, rfl, iteF ?_⟩
        refine ⟨_, rfl, ⟨_, _, _, _, _, rfl, .ty _, ty, kit_ty (show kitB _ _ = some false by decide +kernel), _, rfl, ⟨_, _, _, _, _, rfl, .ty _, tx, kit_ty (show kitB _ _ = some false by decide +kernel), rfl, _, rfl, iteF ?_⟩⟩⟩
        refine ⟨_, rfl, ⟨_, _, _, _, _, rfl, .ty _, ty, kit_ty (show kitB _ _ = some true by decide +kernel), _, rfl, iteT ?_⟩⟩
        refine ⟨_, rfl, ⟨_, _, _, _, _, rfl, .ty _, tx, kit_ty (show kitB _ _ = some true by decide +kernel), _, rfl, iteT ?_⟩⟩
        refine ⟨_, rfl, _, rfl, rfl, ?_⟩
        rw [decide_eq_true (rfl : V.str z = V.str z)]
        exact q _ s1
/-- no data at all: where the recursion ends -/
theorem ok_same0 {f : Addr} {fd : FuncData} (F : Fun K "_law_same" "_law_same" s__law_same f fd) : FnOk P w K mg base CX0 1 f fd ["actual", "due"] (sp_same K 0) := by
  refine F.ok sc__law_same (fun vs H Q E h => ?_) (fun cdv A outer s H vs Q E hr h => ?_)
  · obtain ⟨x, y, D, m, e, _⟩ := h
    exact absurd e (by omega)
  · obtain ⟨x, y, D, m, e, _⟩ := h
    exact absurd e (by omega)
/-- of any depth -/
theorem cl_same {f : Addr} {fd : FuncData} (F : Fun K "_law_same" "_law_same" s__law_same f fd) (M : Mg mg) (g : mg "_law_same" = some (.ref f)) (b : Binds K fd ["actual", "due"] []) : ∀ n : Nat, Cl P w K mg base (n + 1) "_law_same" (sp_same K n)
  | 0 => FnOk.cl (ok_same0 F) F g b
  | n + 1 => FnOk.cl (ok_same F M (cl_same F M g b n)) F g b
end

/-! ### the nodes of diagrams in their order -/
def Bd.sz : Bd → Nat
  | .lf _ => 0
  | .nd _ w t => w.sz + t.sz + 1
def knw (acc : List Bd) : Bd → Bool
  | .lf _ => true
  | a => decide (a ∈ acc)
/-- all of one side, all of the other, then the node: what is known already is passed over -/
def post : List Bd → Bd → List Bd
  | acc, .lf _ => acc
  | acc, .nd e w t => if Bd.nd e w t ∈ acc then acc else post (post acc w) t ++ [.nd e w t]
def Clo (acc : List Bd) : Prop := ∀ e w t, Bd.nd e w t ∈ acc → knw acc w = true ∧ knw acc t = true
theorem knw_nd {acc : List Bd} {e : Int} {w t : Bd} : knw acc (.nd e w t) = true ↔ Bd.nd e w t ∈ acc := by
  unfold knw
  exact decide_eq_true_iff
theorem post_knw {acc : List Bd} {a : Bd} (h : knw acc a = true) : post acc a = acc := by
  cases a with
  | lf b => rfl
  | nd e w t => unfold post; exact if_pos (knw_nd.mp h)
theorem post_pre : ∀ (a : Bd) (acc : List Bd), acc <+: post acc a
  | .lf _, acc => List.prefix_refl acc
  | .nd e w t, acc => by
    unfold post
    split
    · exact List.prefix_refl acc
    · exact ((post_pre w acc).trans (post_pre t _)).trans (List.prefix_append _ _)
theorem knw_pre {acc bcc : List Bd} (h : acc <+: bcc) {a : Bd} (k : knw acc a = true) : knw bcc a = true := by
  cases a with
  | lf b => rfl
  | nd e w t => exact knw_nd.mpr (h.subset (knw_nd.mp k))
theorem post_self : ∀ (a : Bd) (acc : List Bd), knw (post acc a) a = true
  | .lf _, _ => rfl
  | .nd e w t, acc => by
    rw [knw_nd]
    unfold post
    split
    · assumption
    · exact List.mem_append_right _ (List.mem_singleton.mpr rfl)
theorem post_mem : ∀ (a : Bd) (acc : List Bd) (b : Bd), b ∈ post acc a → b ∈ acc ∨ b.sz ≤ a.sz
  | .lf _, acc, b, h => .inl h
  | .nd e w t, acc, b, h => by
    unfold post at h
    split at h
    · exact .inl h
    · rcases List.mem_append.mp h with h | h
      · rcases post_mem t _ b h with h | h
        · rcases post_mem w acc b h with h | h
          · exact .inl h
          · right; show _ ≤ w.sz + t.sz + 1; omega
        · right; show _ ≤ w.sz + t.sz + 1; omega
      · rw [List.mem_singleton.mp h]
        exact .inr (Nat.le_refl _)
theorem post_new {e : Int} {w t : Bd} {acc : List Bd} (h : Bd.nd e w t ∉ acc) : Bd.nd e w t ∉ post (post acc w) t := by
  intro z
  rcases post_mem t _ _ z with z | z
  · rcases post_mem w _ _ z with z | z
    · exact h z
    · have : w.sz + t.sz + 1 ≤ w.sz := z
      omega
  · have : w.sz + t.sz + 1 ≤ t.sz := z
    omega
theorem post_nd {e : Int} {w t : Bd} {acc : List Bd} (h : Bd.nd e w t ∉ acc) : post acc (.nd e w t) = post (post acc w) t ++ [.nd e w t] := by
  rw [post]
  exact if_neg h
/-- once more behind its sides -/
theorem post_again {e : Int} {w t : Bd} {acc : List Bd} (h : Bd.nd e w t ∉ acc) : post (post (post acc w) t) (.nd e w t) = post acc (.nd e w t) := by
  have k1 : knw (post (post acc w) t) w = true := knw_pre (post_pre t _) (post_self w acc)
  have k2 : knw (post (post acc w) t) t = true := post_self t _
  rw [post_nd (post_new h), post_nd h, post_knw k1, post_knw k2]
theorem post_clo : ∀ (a : Bd) (acc : List Bd), Clo acc → Clo (post acc a)
  | .lf _, _, h => h
  | .nd e w t, acc, h => by
    unfold post
    split
    · exact h
    · have h2 := post_clo t _ (post_clo w acc h)
      have k1 : knw (post (post acc w) t) w = true := knw_pre (post_pre t _) (post_self w acc)
      have k2 : knw (post (post acc w) t) t = true := post_self t _
      intro e' w' t' hm
      rcases List.mem_append.mp hm with hm | hm
      · obtain ⟨g1, g2⟩ := h2 _ _ _ hm
        exact ⟨knw_pre (List.prefix_append _ _) g1, knw_pre (List.prefix_append _ _) g2⟩
      · rw [List.mem_singleton] at hm
        cases hm
        exact ⟨knw_pre (List.prefix_append _ _) k1, knw_pre (List.prefix_append _ _) k2⟩
theorem post_nodup : ∀ (a : Bd) (acc : List Bd), acc.Nodup → (post acc a).Nodup
  | .lf _, _, h => h
  | .nd e w t, acc, h => by
    unfold post
    split
    · exact h
    · rename_i hn
      rw [List.nodup_append]
      refine ⟨post_nodup t _ (post_nodup w acc h), List.nodup_cons.mpr ⟨List.not_mem_nil, List.nodup_nil⟩, fun x hx y hy z => ?_⟩
      rw [List.mem_singleton] at hy
      subst z hy
      exact post_new hn hx
/-- how many turns of the loop -/
def itn : List Bd → Bd → Nat
  | _, .lf _ => 1
  | acc, .nd e w t => if Bd.nd e w t ∈ acc then 1 else if (knw acc w && knw acc t) = true then 2 else 3 + (if knw acc w = true then 0 else itn acc w) + (if knw acc t = true then 0 else itn (post acc w) t)
def itns : List Bd → List Bd → Nat
  | _, [] => 0
  | acc, a :: as => itn acc a + itns (post acc a) as
theorem itn_knw {acc : List Bd} {a : Bd} (h : knw acc a = true) : itn acc a = 1 := by
  cases a with
  | lf b => rfl
  | nd e w t => unfold itn; exact if_pos (knw_nd.mp h)
/-- what is put on the pile -/
def wts (acc : List Bd) (w t : Bd) : List Bd := (if knw acc w = true then [] else [w]) ++ (if knw acc t = true then [] else [t])
theorem wts_nil {acc : List Bd} {w t : Bd} : wts acc w t = [] ↔ knw acc w = true ∧ knw acc t = true := by
  unfold wts
  cases knw acc w <;> cases knw acc t <;> simp
theorem foldl_wts {acc : List Bd} {w t : Bd} : (wts acc w t).foldl post acc = post (post acc w) t := by
  unfold wts
  by_cases h1 : knw acc w = true
  · rw [if_pos h1, post_knw h1]
    by_cases h2 : knw acc t = true
    · rw [if_pos h2, post_knw h2]
      rfl
    · rw [if_neg h2]
      rfl
  · rw [if_neg h1]
    by_cases h2 : knw acc t = true
    · rw [if_pos h2, post_knw (knw_pre (post_pre w acc) h2)]
      rfl
    · rw [if_neg h2]
      rfl
theorem itns_app : ∀ (as bs : List Bd) (acc : List Bd), itns acc (as ++ bs) = itns acc as + itns (as.foldl post acc) bs
  | [], bs, acc => by rw [List.nil_append]; show _ = 0 + _; rw [Nat.zero_add]; rfl
  | a :: as, bs, acc => by
    rw [List.cons_append]
    show itn acc a + itns (post acc a) (as ++ bs) = itn acc a + itns (post acc a) as + _
    rw [itns_app as bs, List.foldl_cons, Nat.add_assoc]
theorem itns_push {acc : List Bd} {e : Int} {w t : Bd} {as : List Bd} (h : Bd.nd e w t ∉ acc) (hw : wts acc w t ≠ []) : itns acc (wts acc w t ++ .nd e w t :: as) + 1 = itns acc (.nd e w t :: as) ∧ (wts acc w t ++ .nd e w t :: as).foldl post acc = (Bd.nd e w t :: as).foldl post acc := by
  have hk : ¬ (knw acc w && knw acc t) = true := fun z => hw (wts_nil.mpr (by rw [Bool.and_eq_true] at z; exact z))
  constructor
  · rw [itns_app, foldl_wts]
    have k1 : knw (post (post acc w) t) w = true := knw_pre (post_pre t _) (post_self w acc)
    have k2 : knw (post (post acc w) t) t = true := post_self t _
    have e1 : itn (post (post acc w) t) (.nd e w t) = 2 := by
      unfold itn
      rw [if_neg (post_new h), k1, k2]
      rfl
    have e2 : itn acc (.nd e w t) = 3 + (if knw acc w = true then 0 else itn acc w) + (if knw acc t = true then 0 else itn (post acc w) t) := by
      rw [itn]
      rw [if_neg h, if_neg hk]
    show itns acc (wts acc w t) + (itn _ _ + itns _ as) + 1 = itn acc _ + itns _ as
    rw [e1, e2, post_again h]
    have e3 : itns acc (wts acc w t) = (if knw acc w = true then 0 else itn acc w) + (if knw acc t = true then 0 else itn (post acc w) t) := by
      unfold wts
      by_cases h1 : knw acc w = true
      · rw [if_pos h1, if_pos h1]
        by_cases h2 : knw acc t = true
        · rw [if_pos h2, if_pos h2]; rfl
        · rw [if_neg h2, if_neg h2, List.nil_append, post_knw h1]
          show itn acc t + 0 = 0 + itn acc t
          omega
      · rw [if_neg h1, if_neg h1]
        by_cases h2 : knw acc t = true
        · rw [if_pos h2, if_pos h2, List.append_nil]
          rfl
        · rw [if_neg h2, if_neg h2]
          show itn acc w + (itn (post acc w) t + 0) = _
          omega
    omega
  · rw [List.foldl_append, foldl_wts, List.foldl_cons, List.foldl_cons, post_again h]
/-- both sides known: it gets its number -/
theorem itns_num {acc : List Bd} {e : Int} {w t : Bd} {as : List Bd} (h : Bd.nd e w t ∉ acc) (k1 : knw acc w = true) (k2 : knw acc t = true) : itns (acc ++ [.nd e w t]) (.nd e w t :: as) + 1 = itns acc (.nd e w t :: as) ∧ (Bd.nd e w t :: as).foldl post (acc ++ [.nd e w t]) = (Bd.nd e w t :: as).foldl post acc := by
  have e0 : post acc (.nd e w t) = acc ++ [.nd e w t] := by rw [post_nd h, post_knw k1, post_knw k2]
  have hm : Bd.nd e w t ∈ acc ++ [.nd e w t] := List.mem_append_right _ (List.mem_singleton.mpr rfl)
  have e1 : post (acc ++ [.nd e w t]) (.nd e w t) = acc ++ [.nd e w t] := post_knw (knw_nd.mpr hm)
  constructor
  · show itn _ _ + itns _ as + 1 = itn _ _ + itns _ as
    rw [e0, e1, itn_knw (knw_nd.mpr hm)]
    have : itn acc (.nd e w t) = 2 := by
      unfold itn
      rw [if_neg h, k1, k2]
      rfl
    omega
  · rw [List.foldl_cons, List.foldl_cons, e0, e1]
/-- the numbers by which nodes tell conditions -/
def nmb (acc : List Bd) : Bd → Nat
  | .lf b => if b = true then 1 else 0
  | a => acc.idxOf a + 2
theorem nmb_pre {acc bcc : List Bd} (h : acc <+: bcc) {a : Bd} (k : knw acc a = true) : nmb bcc a = nmb acc a := by
  cases a with
  | lf b => rfl
  | nd e w t =>
    obtain ⟨r, rfl⟩ := h
    show (acc ++ r).idxOf _ + 2 = acc.idxOf _ + 2
    rw [List.idxOf_append, if_pos (knw_nd.mp k)]

/-! ### the table of a condition -/
def Rel2 (N : Nds) : List Nat → List Bd → Prop
  | [], [] => True
  | c :: cs, a :: as => At N c a ∧ Rel2 N cs as
  | _, _ => False
theorem Rel2.len {N : Nds} : ∀ {cs : List Nat} {as : List Bd}, Rel2 N cs as → cs.length = as.length
  | [], [], _ => rfl
  | [], _ :: _, h => h.elim
  | _ :: _, [], h => h.elim
  | _ :: cs, _ :: as, h => congrArg (· + 1) (Rel2.len h.2)
theorem Rel2.app {N : Nds} : ∀ {cs : List Nat} {as : List Bd} {ds : List Nat} {bs : List Bd}, Rel2 N cs as → Rel2 N ds bs → Rel2 N (cs ++ ds) (as ++ bs)
  | [], [], _, _, _, h => h
  | [], _ :: _, _, _, h, _ => h.elim
  | _ :: _, [], _, _, h, _ => h.elim
  | _ :: cs, _ :: as, _, _, h, g => ⟨h.1, Rel2.app h.2 g⟩
def nbl : Nat → List Nat → List (Key × V)
  | _, [] => []
  | n, c :: cs => (.inl (c : Int), .int (n : Int)) :: nbl (n + 1) cs
/-- the numbers that are told so far -/
def nbs (cs : List Nat) : List (Key × V) := (.inl 0, .int 0) :: (.inl 1, .int 1) :: nbl 2 cs
theorem nbl_len : ∀ (cs : List Nat) (n : Nat), (nbl n cs).length = cs.length
  | [], _ => rfl
  | _ :: cs, n => congrArg (· + 1) (nbl_len cs (n + 1))
theorem nbs_len (cs : List Nat) : (nbs cs).length = cs.length + 2 := by
  unfold nbs
  rw [List.length_cons, List.length_cons, nbl_len]
theorem nbl_snoc : ∀ (cs : List Nat) (n c : Nat), nbl n (cs ++ [c]) = nbl n cs ++ [(.inl (c : Int), .int ((n + cs.length : Nat) : Int))]
  | [], n, c => rfl
  | d :: cs, n, c => by
    show _ :: nbl (n + 1) (cs ++ [c]) = _ :: (nbl (n + 1) cs ++ _)
    rw [nbl_snoc cs (n + 1) c, List.length_cons, show n + 1 + cs.length = n + (cs.length + 1) by omega]
theorem nbs_snoc (cs : List Nat) (c : Nat) : nbs (cs ++ [c]) = nbs cs ++ [(.inl (c : Int), .int ((cs.length + 2 : Nat) : Int))] := by
  unfold nbs
  rw [nbl_snoc, Nat.add_comm 2]
  rfl
theorem key_ne {c d : Nat} (h : c ≠ d) : ¬ (Sum.inl (c : Int) : Key) = Sum.inl (d : Int) := fun z => h (by
  injection z with z
  omega)
theorem nbl_val {N : Nds} (hN : N.Nodup) {c : Nat} {a : Bd} (hA : At N c a) : ∀ {cs : List Nat} {as : List Bd} {n : Nat}, Rel2 N cs as → valV (nbl n cs) (.inl (c : Int)) = if a ∈ as then some (.int ((as.idxOf a + n : Nat) : Int)) else none
  | [], [], n, _ => by
    rw [if_neg List.not_mem_nil]
    rfl
  | [], _ :: _, _, h => h.elim
  | _ :: _, [], _, h => h.elim
  | d :: cs, b :: as, n, h => by
    by_cases e : d = c
    · subst e
      have eb := h.1.fn hA
      subst eb
      rw [if_pos List.mem_cons_self, List.idxOf_cons_self, Nat.zero_add]
      exact valV_pos rfl
    · have eb : b ≠ a := fun z => e (by subst z; exact h.1.inj hN hA)
      show valV ((.inl (d : Int), .int (n : Int)) :: nbl (n + 1) cs) _ = _
      rw [valV_neg (key_ne e), nbl_val hN hA h.2]
      by_cases ha : a ∈ as
      · rw [if_pos ha, if_pos (List.mem_cons_of_mem _ ha), show (b :: as).idxOf a = as.idxOf a + 1 by rw [List.idxOf_cons, beq_false_of_ne eb]; rfl]
        exact congrArg (fun z => some (V.int z)) (by omega)
      · rw [if_neg ha, if_neg (fun z => by
          rcases List.mem_cons.mp z with z | z
          · exact eb z.symm
          · exact ha z)]
theorem nbs_val {N : Nds} (hN : N.Nodup) {c : Nat} {a : Bd} (hA : At N c a) {cs : List Nat} {as : List Bd} (h : Rel2 N cs as) : valV (nbs cs) (.inl (c : Int)) = if knw as a = true then some (.int ((nmb as a : Nat) : Int)) else none := by
  unfold nbs
  cases hA with
  | f => exact valV_pos (p := ((.inl 0 : Key), V.int 0)) rfl
  | t => exact (valV_neg (p := ((.inl 0 : Key), V.int 0)) (by intro z; cases z)).trans (valV_pos (p := ((.inl 1 : Key), V.int 1)) rfl)
  | @nd k e w t A B hk ha hb =>
    have e1 : ¬ (Sum.inl 0 : Key) = Sum.inl ((k + 2 : Nat) : Int) := fun z => by
      injection z with z
      omega
    have e2 : ¬ (Sum.inl 1 : Key) = Sum.inl ((k + 2 : Nat) : Int) := fun z => by
      injection z with z
      omega
    rw [valV_neg (p := ((.inl 0 : Key), V.int 0)) e1, valV_neg (p := ((.inl 1 : Key), V.int 1)) e2, nbl_val hN (.nd hk ha hb) h]
    by_cases hm : Bd.nd e A B ∈ as
    · rw [if_pos hm, if_pos (knw_nd.mpr hm)]
      rfl
    · rw [if_neg hm, if_neg (fun z => hm (knw_nd.mp z))]
def rowD (acc : List Bd) : Bd → PyData
  | .nd e w t => .tuple [.int e, .int ((nmb acc w : Nat) : Int), .int ((nmb acc t : Nat) : Int)]
  | .lf _ => .none
theorem row_pre {acc bcc : List Bd} (hc : Clo acc) (h : acc <+: bcc) {a : Bd} (ha : a ∈ acc) : rowD bcc a = rowD acc a := by
  cases a with
  | lf b => rfl
  | nd e w t =>
    obtain ⟨k1, k2⟩ := hc _ _ _ ha
    show PyData.tuple _ = PyData.tuple _
    rw [nmb_pre h k1, nmb_pre h k2]
theorem rows_snoc {acc : List Bd} (hc : Clo acc) (a : Bd) : (acc ++ [a]).map (rowD (acc ++ [a])) = acc.map (rowD acc) ++ [rowD (acc ++ [a]) a] := by
  rw [List.map_append]
  refine congrArg (· ++ _) ?_
  exact List.map_congr_left fun b hb => row_pre hc (List.prefix_append _ _) hb
theorem rows_only (acc bcc : List Bd) : tupOnlys (bcc.map (rowD acc)) = true := by
  induction bcc with
  | nil => rfl
  | cons a bcc ih =>
    rw [List.map_cons]
    unfold tupOnlys
    rw [ih]
    cases a <;> rfl
theorem foldl_pre : ∀ (as acc : List Bd), acc <+: as.foldl post acc
  | [], acc => List.prefix_refl acc
  | a :: as, acc => (post_pre a acc).trans (foldl_pre as _)
theorem itns_len : ∀ (as acc : List Bd), as.length ≤ itns acc as
  | [], _ => Nat.le_refl _
  | a :: as, acc => by
    have h1 := itns_len as (post acc a)
    have h2 : 1 ≤ itn acc a := by
      cases a with
      | lf b => exact Nat.le_refl _
      | nd e w t =>
        unfold itn
        split
        · exact Nat.le_refl _
        · split <;> omega
    show as.length + 1 ≤ itn acc a + itns _ as
    omega
theorem itn_le : ∀ (a : Bd) (acc : List Bd), itn acc a ≤ 4 * a.sz + 1
  | .lf _, _ => Nat.le_refl _
  | .nd e w t, acc => by
    have h1 := itn_le w acc
    have h2 := itn_le t (post acc w)
    unfold itn
    show _ ≤ 4 * (w.sz + t.sz + 1) + 1
    split
    · omega
    · split
      · omega
      · split <;> split <;> omega
theorem itns_le : ∀ (as acc : List Bd) (b : Nat), (∀ a ∈ as, a.sz ≤ b) → itns acc as ≤ as.length * (4 * b + 1)
  | [], _, _, _ => Nat.zero_le _
  | a :: as, acc, b, h => by
    have h1 := itn_le a acc
    have h2 := itns_le as (post acc a) b fun x hx => h x (List.mem_cons_of_mem _ hx)
    have h3 := h a List.mem_cons_self
    show itn acc a + itns _ as ≤ (as.length + 1) * _
    rw [Nat.succ_mul]
    omega
theorem post_len : ∀ (a : Bd) (acc : List Bd), (post acc a).length ≤ acc.length + a.sz
  | .lf _, _ => Nat.le_refl _
  | .nd e w t, acc => by
    have h1 := post_len w acc
    have h2 := post_len t (post acc w)
    unfold post
    show _ ≤ acc.length + (w.sz + t.sz + 1)
    split
    · omega
    · rw [List.length_append]
      show _ + 1 ≤ _
      omega
theorem posts_len : ∀ (as acc : List Bd) (b : Nat), (∀ a ∈ as, a.sz ≤ b) → (as.foldl post acc).length ≤ acc.length + as.length * b
  | [], acc, _, _ => by simp
  | a :: as, acc, b, h => by
    have h1 := post_len a acc
    have h2 := posts_len as (post acc a) b fun x hx => h x (List.mem_cons_of_mem _ hx)
    have h3 := h a List.mem_cons_self
    rw [List.foldl_cons, List.length_cons, Nat.succ_mul]
    omega
theorem wf_sz {es : List Int} {a : Bd} (h : Wf es a) : a.sz + 1 ≤ 2 ^ es.length := by
  induction h with
  | lf => exact Nat.one_le_two_pow
  | @here x es w t _ _ _ iw it =>
    show w.sz + t.sz + 1 + 1 ≤ 2 ^ (es.length + 1)
    rw [Nat.pow_succ]
    omega
  | @skip x es a _ ih =>
    show _ ≤ 2 ^ (es.length + 1)
    rw [Nat.pow_succ]
    omega
def natsV (cs : List Nat) : List V := cs.map fun c => .int ((c : Nat) : Int)
/-- what listed leaves: the nodes and the numbers -/
def sp_listed (C : Addr) (K : PySem.W.Frag) : Sp := fun vs H Q _ => ∃ s N es L a cs as, vs = [.ref s.p, .ref a] ∧ Sto C K H s N es L ∧ SqL K H a (natsV cs) ∧ Rel2 N cs as ∧ cs.length ≤ 100 ∧ (∀ b ∈ as, b.sz ≤ 1000) ∧
  ∀ H' q nl nu xs ks, Same H H' → H' q = some (.tup [.ref nl, .ref nu]) → H nl = none → H' nl = some (.lst xs) → H' nu = some (.dK (nbs ks)) → Rel2 N ks (as.reverse.foldl post []) → DpAll K H' xs ((as.reverse.foldl post []).map (rowD (as.reverse.foldl post []))) → Q (.ref q) H'
def sp_table (C : Addr) (K : PySem.W.Frag) : Sp := fun vs H Q _ => ∃ s N es L c a, vs = [.ref s.p, .int ((c : Nat) : Int)] ∧ Sto C K H s N es L ∧ At N c a ∧ a.sz ≤ 1000 ∧
  ∀ H' q nl xs, Same H H' → H' q = some (.tup [.ref nl, .int ((nmb (post [] a) a : Nat) : Int)]) → H nl = none → H' nl = some (.lst xs) → DpAll K H' xs ((post [] a).map (rowD (post [] a))) → Q (.ref q) H'
section
variable {P : Program} {w : World} {K : PySem.W.Frag} {mg : Str → Option Value} {base : Heap}
theorem Rel2.rev {N : Nds} : ∀ {cs : List Nat} {as : List Bd}, Rel2 N cs as → Rel2 N cs.reverse as.reverse
  | [], [], h => h
  | [], _ :: _, h => h.elim
  | _ :: _, [], h => h.elim
  | c :: cs, a :: as, h => by
    rw [List.reverse_cons, List.reverse_cons]
    exact Rel2.app (Rel2.rev h.2) ⟨h.1, trivial⟩
/-- the state of listed's loop: a pile, top first; the numbers and nodes so far -/
def LiW (K : PySem.W.Frag) (H : Hp) (N : Nds) (s : SA) (a nl nu lf : Addr) (fin : List Bd) (m : Nat) (σ : L2.St) (Hi : Hp) : Prop :=
  ∃ ks acc sc sT xs z5 z6 z7 z8 z9 z10, m = itns acc sT ∧ itns acc sT ≤ 500000 ∧ σ = [some (.ref s.p), some (.ref a), some (.ref nl), some (.ref nu), some (.ref lf), z5, z6, z7, z8, z9, z10] ∧ Same H Hi ∧ Hi nl = some (.lst xs) ∧ DpAll K Hi xs (acc.map (rowD acc)) ∧ Hi nu = some (.dK (nbs ks)) ∧
    Hi lf = some (.lst (natsV sc.reverse)) ∧ Rel2 N ks acc ∧ Rel2 N sc sT ∧ Clo acc ∧ sT.foldl post acc = fin
theorem natsV_app (as bs : List Nat) : natsV (as ++ bs) = natsV as ++ natsV bs := by unfold natsV; rw [List.map_append]
theorem mk_nbs : mergeK ([] : List (Key × V)) [(.inl 0, .int 0), (.inl 1, .int 1)] = nbs [] := by rfl
set_option maxHeartbeats 4000000 in
theorem ok_listed {f C : Addr} {fd : FuncData} (F : Fun K "listed" "Diagrams.listed" s_Diagrams_listed f fd) (M : Mg mg) (G : DgC K C mg) (c_Diagrams_node_of : ClM P w K mg base 1 C "node_of" (sp_nof C K)) : FnOk P w K mg base CX0 2 f fd ["self", "conditions"] (sp_listed C K) := by
  refine F.ok sc_Diagrams_listed (fun vs H Q E h => ?_) (fun cdv A outer s H vs Q E hr h => ?_)
  · obtain ⟨s, N, es, L, a, cs, as, rfl, _⟩ := h
    rfl
  · obtain ⟨s, N, es, L, a, cs, as, rfl, st, ha, rel, hl, hsz, q⟩ := h
    have hnd := st.nd
    generalize hfin : as.reverse.foldl post [] = fin at q
    have lfin : fin.length ≤ 100000 := by
      have h1 := posts_len as.reverse [] 1000 fun b hb => hsz b (List.mem_reverse.mp hb)
      rw [hfin, List.length_reverse, ← rel.len] at h1
      have h2 : ([] : List Bd).length = 0 := rfl
      have h3 := Nat.mul_le_mul_right 1000 hl
      omega
    have sl : (1000000 : Nat) < sizeLine := by decide
    refine ⟨_, (pss_cons (ps_set (i := 2) sc_Diagrams_listed.nd rfl (.inl rfl) (pe_lst pa_nil))
      (pss_cons (ps_set (i := 3) sc_Diagrams_listed.nd rfl (.inr rfl) (pe_disp (pps_cons (C8.pe_gc (by rfl) G.NEVER) pe_int (pps_cons (C8.pe_gc (by rfl) G.ALWAYS) pe_int pps_nil)) (by rfl) (by rfl) (fun z => by cases z) (by decide)))
      (pss_cons (ps_set (i := 4) sc_Diagrams_listed.nd rfl (.inl rfl) (pe_callTy (listK K) (by rfl) M.list (by decide +kernel) (pa_cons (pv 1) pa_nil)))
      (pss_cons (ps_while PassesOwn.never (pt_truthK K (pv 4) (by intro _; rfl)) (pss_cons (ps_set (i := 5) sc_Diagrams_listed.nd rfl (.inl rfl) (pe_ix (ix_listK K) (pv 4) (pe_un un_neg pe_int) (fun _ _ => rfl)))
      (pss_cons (ps_if (pt_cmp (pc_din (hu_of hr) (pv 5) (pv 3))) (pss_cons (ps_expr (pe_bm0 PySem.F.plainAttrs_list PySem.F.slot_list_pop PySem.F.type_list_pop mt_pop (pv 4)))
      (pss_one ps_continue)) pss_nil)
      (pss_cons (ps_asg (pe_mt c_Diagrams_node_of hr (by first | decide | omega) (pv 0) (pa_cons (pv 5) pa_nil)) (pg_tup (by rfl) (pgs_cons (pg_name (i := 6) sc_Diagrams_listed.nd rfl (.inl rfl)) (pgs_cons (pg_name (i := 7) sc_Diagrams_listed.nd rfl (.inl rfl)) (pgs_cons (pg_name (i := 8) sc_Diagrams_listed.nd rfl (.inl rfl)) pgs_nil)))))
      (pss_cons (ps_setLc (i := 9) (own := [("part", 10)]) (g := gName 10) rfl sc_Diagrams_listed.nd rfl rfl (sw_true rfl rfl rfl (by decide +kernel)) (pi_tup (pe_tup (pa_cons (pv 8) (pa_cons (pv 7) pa_nil)))) (blkOk_by (N := N_Diagrams_listed) (sc := defScope s_Diagrams_listed) (by decide +kernel)) (fun _ _ _ _ _ => (pg_name (i := 10) sc_Diagrams_listed.nd rfl (.inl rfl))) (fun _ _ _ _ _ => (pts_one (pt_cmp (pc_dnotin (hu_of hr) (pv 10) (pv 3))))) (fun _ _ _ _ _ => (pv 10)))
      (pss_cons (ps_expr (pe_bmK K PySem.F.plainAttrs_list PySem.F.slot_list_extend PySem.F.type_list_extend mt_extend (pv 4) (pa_cons (pv 9) pa_nil)))
      (pss_one (ps_if (pt_not (pt_truthK K (pv 9) (by intro _; rfl))) (pss_cons (ps_dput (hu_of hr) (pv 3) (pv 5) (pe_callB call_lenD (by rfl) M.len PySem.boot_len (pa_cons (pv 3) pa_nil)) rfl)
      (pss_one (ps_expr (pe_bmK K PySem.F.plainAttrs_list PySem.F.slot_list_append PySem.F.type_list_append mt_append (pv 2) (pa_cons (pe_tup (pa_cons (pv 6) (pa_cons (pe_dget (hu_of hr) (pv 3) (pv 7) (fun _ _ => rfl)) (pa_cons (pe_dget (hu_of hr) (pv 3) (pv 8) (fun _ _ => rfl)) pa_nil)))) pa_nil))))) pss_nil))))))))
      (pss_one (ps_ret (pe_tup (pa_cons (pv 2) (pa_cons (pv 3) pa_nil))))))))), ?_⟩
    refine ⟨by show 0 ≤ sizeLine; decide, fun nl nnl => ?_⟩
    have s1 := same_upd nnl (o := .lst [])
    have e1 : (upd H nl (.lst [])) nl = some (.lst []) := upd_same
    generalize upd H nl (.lst []) = H1 at s1 e1
    intro nu nnu
    refine ⟨upd_same, [(.inl 0, .int 0), (.inl 1, .int 1)], rfl, by decide, ?_⟩
    rw [mk_nbs, upd_upd]
    have s2 := same_upd nnu (o := .dK (nbs []))
    have e2 : (upd H1 nu (.dK (nbs []))) nu = some (.dK (nbs [])) := upd_same
    generalize upd H1 nu (.dK (nbs [])) = H2 at s2 e2
    refine ⟨_, rfl, a, _, rfl, .inl ((s1.trans s2).seq ha), fun lf nlf => ?_⟩
    have s3 := same_upd nlf (o := .lst (natsV cs))
    have e3 : (upd H2 lf (.lst (natsV cs))) lf = some (.lst (natsV cs)) := upd_same
    have nlfl : lf ≠ nl := (ne_of_none (s2 _ _ e1) nlf).symm
    generalize upd H2 lf (.lst (natsV cs)) = H3 at s3 e3
    have nnu0 := s1.free nnu
    have nlf0 := (s1.trans s2).free nlf
    have fresh : ∀ {Hi : Hp} {p : Addr} {o : HO}, Same H Hi → H p = none → Same H (upd Hi p o) := fun sm np b o e => by
      rw [upd_ne (ne_of_none e np)]
      exact sm b o e
    refine ⟨LiW K H N s a nl nu lf fin, ⟨_, [], [], cs.reverse, as.reverse, [], none, none, none, none, none, none, rfl, ?_, rfl, (s1.trans s2).trans s3, (s2.trans s3) _ _ e1, .nil, s3 _ _ e2, by rw [List.reverse_reverse]; exact e3, trivial, rel.rev, (by intro _ _ _ h; cases h), hfin⟩, ?_⟩
    · have h1 := itns_le as.reverse [] 1000 fun b hb => hsz b (List.mem_reverse.mp hb)
      rw [List.length_reverse, ← rel.len] at h1
      have h3 := Nat.mul_le_mul_right (4 * 1000 + 1) hl
      omega
    rintro m σ Hi ⟨ks, acc, sc, sT, xs, z5, z6, z7, z8, z9, z10, rfl, hm, rfl, si, enl, dxs, enu, elf, rk, rs, hclo, hf⟩
    have nnlu : nl ≠ nu := ne_of enl enu (fun z => nomatch z)
    have nlfu : lf ≠ nu := ne_of elf enu (fun z => nomatch z)
    have lacc : acc.length ≤ 100000 := by
      have := (foldl_pre sT acc).length_le
      rw [hf] at this
      omega
    have lks : ks.length ≤ 100000 := by rw [rk.len]; exact lacc
    have lxs : xs.length = acc.length := by rw [DpAll.len dxs, List.length_map]
    refine ⟨_, rfl, _, .inl ⟨_, .of elf, rfl⟩, ?_⟩
    cases sc with
    | nil =>
      cases sT with
      | cons b sT => exact rs.elim
      | nil =>
        refine iteF ?_
        have hf : acc = fin := hf
        refine ⟨_, rfl, _, rfl, by show 2 ≤ sizeLine; decide, fun q' nq' => ?_⟩
        subst hf
        exact q _ q' nl nu xs ks (si.trans (same_upd nq')) upd_same nnl (same_upd nq' _ _ enl) (same_upd nq' _ _ enu) rk (DpAll.ext (same_upd nq') _ _ dxs)
    | cons c sc =>
      cases sT with
      | nil => exact rs.elim
      | cons b sT =>
        rw [List.reverse_cons, natsV_app] at elf ⊢
        have hne : (natsV sc.reverse ++ natsV [c]).isEmpty = false := by
          cases natsV sc.reverse <;> rfl
        rw [hne]
        refine iteT ⟨fun σ' H' => ∃ m', m' < itns acc (b :: sT) ∧ LiW K H N s a nl nu lf fin m' σ' H', fun _ _ h => h, ?_⟩
        have hb := rs.1
        have sti := st.ext si
        refine ⟨_, rfl, _, rfl, lf, _, _, .int ((c : Nat) : Int), rfl, rfl, .of elf, atI_last _ _, ?_⟩
        refine ⟨_, rfl, _, rfl, nu, _, rfl, DGet.k (k := .inl (c : Int)) enu, _, rfl, ?_⟩
        rw [nbs_val hnd hb rk]
        by_cases hk : knw acc b = true
        · -- known: it goes off the pile
          rw [if_pos hk]
          refine iteT ⟨_, rfl, .inl ⟨rfl, _, .inl (.inl elf)⟩, lf, _, .int ((c : Nat) : Int), rfl, rfl, elf, ?_, ?_⟩
          · rw [List.length_append]
            show (natsV sc.reverse ++ [V.int ((c : Nat) : Int)])[(natsV sc.reverse).length + 1 - 1]? = _
            rw [Nat.add_sub_cancel, List.getElem?_append_right (Nat.le_refl _), Nat.sub_self]
            rfl
          · have ed : (natsV sc.reverse ++ natsV [c]).dropLast = natsV sc.reverse := by
              show (natsV sc.reverse ++ [V.int ((c : Nat) : Int)]).dropLast = _
              rw [List.dropLast_concat]
            rw [ed]
            have ei := itn_knw hk
            have ep := post_knw hk
            refine ⟨itns acc sT, ?_, ks, acc, sc, sT, xs, _, _, _, _, _, _, rfl, ?_, rfl, fresh si nlf0, by rw [upd_ne nlfl.symm]; exact enl, DpAll.away elf _ _ (rows_only acc acc) dxs, by rw [upd_ne nlfu.symm]; exact enu, upd_same, rk, rs.2, hclo, ?_⟩
            · show _ < itn acc b + itns (post acc b) sT
              rw [ei, ep]
              omega
            · have : itns acc (b :: sT) = itn acc b + itns (post acc b) sT := rfl
              rw [this, ep] at hm
              omega
            · rw [List.foldl_cons, ep] at hf
              exact hf
        · rw [if_neg hk]
          refine iteF ?_
          have h2 : 2 ≤ c := by
            cases hb with
            | f => exact absurd rfl hk
            | t => exact absurd rfl hk
            | nd _ _ _ => omega
          obtain ⟨e1, w1, t1, A1, B1, hn, hw1, ht1, rfl⟩ := hb.ge h2
          have hnm : Bd.nd e1 A1 B1 ∉ acc := fun z => hk (knw_nd.mpr z)
          refine ⟨_, rfl, sti.go (by decide +kernel) (by decide +kernel) (by decide +kernel) ⟨_, rfl, ?_⟩⟩
          refine ⟨s, N, es, L, c, _, rfl, sti, h2, hn, fun qa hq => ?_⟩
          refine ⟨qa, _, rfl, hq, rfl, _, _, rfl, _, _, rfl, _, _, rfl, rfl, ?_⟩
          -- those that wait
          refine ⟨_, rfl, _, rfl, by show 2 ≤ sizeLine; decide, fun tp ntp => ?_⟩
          have s4 := same_upd ntp (o := .tup [.int ((t1 : Nat) : Int), .int ((w1 : Nat) : Int)])
          have e4 : (upd Hi tp (.tup [.int ((t1 : Nat) : Int), .int ((w1 : Nat) : Int)])) tp = some (.tup (([(t1, B1), (w1, A1)] : List (Nat × Bd)).map fun p => .int ((p.1 : Nat) : Int))) := upd_same
          generalize upd Hi tp (.tup [.int ((t1 : Nat) : Int), .int ((w1 : Nat) : Int)]) = H4 at s4 e4
          refine ⟨tp, rfl, ⟨_, .of e4⟩, fun D nD => ?_⟩
          refine lc_tup (K := K) (a := tp) (xs := ([(t1, B1), (w1, A1)] : List (Nat × Bd)).map fun p => .int ((p.1 : Nat) : Int)) (fun i Hj => Same H4 Hj ∧ Hj D = some (.lst (natsV (((([(t1, B1), (w1, A1)] : List (Nat × Bd)).take i).filter fun p => !knw acc p.2).map (·.1))))) ⟨same_upd nD, upd_same⟩ (fun i Hj _ hp => .of (hp.1 _ _ e4)) (fun i x Hj hx hp => ?_) (fun Hm hp => ?_)
          · obtain ⟨sj, eD⟩ := hp
            rw [List.getElem?_map] at hx
            obtain ⟨p, hpv, rfl⟩ := Option.map_eq_some_iff.mp hx
            have hp2 : At N p.1 p.2 := by
              have := List.mem_of_getElem? hpv
              simp only [List.mem_cons, List.not_mem_nil, or_false] at this
              rcases this with rfl | rfl
              · exact ht1
              · exact hw1
            refine ⟨rfl, ?_⟩
            refine ⟨_, rfl, _, rfl, nu, _, rfl, DGet.k (k := .inl (p.1 : Int)) ((s4.trans sj) _ _ enu), _, rfl, ?_⟩
            rw [nbs_val hnd hp2 rk]
            have etk : (([(t1, B1), (w1, A1)] : List (Nat × Bd)).take (i + 1)).filter (fun p => !knw acc p.2) = (([(t1, B1), (w1, A1)] : List (Nat × Bd)).take i).filter (fun p => !knw acc p.2) ++ (if knw acc p.2 = true then [] else [p]) := by
              rw [List.take_add_one, hpv, List.filter_append]
              congr 1
              show List.filter _ [p] = _
              rw [List.filter_cons]
              cases knw acc p.2 <;> rfl
            by_cases hkp : knw acc p.2 = true
            · rw [if_pos hkp] at etk ⊢
              rw [List.append_nil] at etk
              refine iteF ⟨sj, ?_⟩
              rw [etk]
              exact eD
            · rw [if_neg hkp] at etk ⊢
              refine iteT ⟨_, rfl, _, eD, ?_, fun z o hz => ?_, ?_⟩
              · unfold natsV
                rw [List.length_map, List.length_map]
                have h1 := List.length_filter_le (fun p : Nat × Bd => !knw acc p.2) (([(t1, B1), (w1, A1)] : List (Nat × Bd)).take i)
                have h2 : (([(t1, B1), (w1, A1)] : List (Nat × Bd)).take i).length ≤ 2 := by
                  rw [List.length_take]
                  exact Nat.min_le_right _ _
                omega
              · rw [upd_ne (ne_of_none hz nD)]
                exact sj _ _ hz
              · rw [upd_same, etk, List.map_append, natsV_app]
                rfl
          · obtain ⟨sm, eD⟩ := hp
            have s4m := s4.trans sm
            have efl : (((([(t1, B1), (w1, A1)] : List (Nat × Bd)).take ((([(t1, B1), (w1, A1)] : List (Nat × Bd)).map fun p => (V.int ((p.1 : Nat) : Int))).length)).filter fun p => !knw acc p.2).map (·.1)) = ((if knw acc A1 = true then [] else [w1]) ++ (if knw acc B1 = true then [] else [t1])).reverse := by
              show (List.filter (fun p : Nat × Bd => !knw acc p.2) [(t1, B1), (w1, A1)]).map (·.1) = _
              rw [List.filter_cons, List.filter_cons]
              cases knw acc A1 <;> cases knw acc B1 <;> rfl
            rw [efl] at eD
            have rw2 : Rel2 N ((if knw acc A1 = true then [] else [w1]) ++ (if knw acc B1 = true then [] else [t1])) (wts acc A1 B1) := by
              unfold wts
              refine Rel2.app ?_ ?_
              · cases knw acc A1
                · exact ⟨hw1, trivial⟩
                · exact trivial
              · cases knw acc B1
                · exact ⟨ht1, trivial⟩
                · exact trivial
            have lwt : ((if knw acc A1 = true then [] else [w1]) ++ (if knw acc B1 = true then [] else [t1])).length ≤ 2 := by
              cases knw acc A1 <;> cases knw acc B1 <;> simp
            generalize ((if knw acc A1 = true then [] else [w1]) ++ (if knw acc B1 = true then [] else [t1])) = wt at eD rw2 lwt
            have elf4 := s4m _ _ elf
            have enl4 := s4m _ _ enl
            have enu4 := s4m _ _ enu
            have dx4 := DpAll.ext s4m _ _ dxs
            have nDlf : D ≠ lf := (ne_of_none (s4 _ _ elf) nD).symm
            have nDnl : D ≠ nl := (ne_of_none (s4 _ _ enl) nD).symm
            have lsc := itns_len (Bd.nd e1 A1 B1 :: sT) acc
            have lsc2 : sc.length = sT.length := rs.2.len
            refine ⟨_, rfl, .inl ⟨rfl, _, .inl (.inl elf4)⟩, _, rfl, lf, D, _, _, rfl, rfl, elf4, eD, ?_, ?_⟩
            · unfold natsV
              rw [List.length_append, List.length_map, List.length_map, List.length_map, List.length_reverse, List.length_reverse]
              rw [List.length_cons] at lsc
              show sc.length + 1 + wt.length ≤ _
              omega
            have elf5 : (upd Hm lf (.lst (natsV sc.reverse ++ natsV [c] ++ natsV wt.reverse))) lf = some (.lst (natsV (wt ++ c :: sc).reverse)) := by
              rw [upd_same, List.reverse_append, List.reverse_cons, natsV_app, natsV_app]
            have enl5 : (upd Hm lf (.lst (natsV sc.reverse ++ natsV [c] ++ natsV wt.reverse))) nl = some (.lst xs) := by rw [upd_ne nlfl.symm]; exact enl4
            have enu5 : (upd Hm lf (.lst (natsV sc.reverse ++ natsV [c] ++ natsV wt.reverse))) nu = some (.dK (nbs ks)) := by rw [upd_ne nlfu.symm]; exact enu4
            have eD5 : (upd Hm lf (.lst (natsV sc.reverse ++ natsV [c] ++ natsV wt.reverse))) D = some (.lst (natsV wt.reverse)) := by rw [upd_ne nDlf]; exact eD
            have dx5 : DpAll K (upd Hm lf (.lst (natsV sc.reverse ++ natsV [c] ++ natsV wt.reverse))) xs (acc.map (rowD acc)) := DpAll.away elf4 _ _ (rows_only acc acc) dx4
            have s5 : Same H (upd Hm lf (.lst (natsV sc.reverse ++ natsV [c] ++ natsV wt.reverse))) := fresh (si.trans s4m) nlf0
            generalize upd Hm lf (.lst (natsV sc.reverse ++ natsV [c] ++ natsV wt.reverse)) = H5 at elf5 enl5 enu5 eD5 dx5 s5
            refine ⟨_, rfl, _, .inl ⟨_, .of eD5, rfl⟩, ?_⟩
            by_cases hwn : wts acc A1 B1 = []
            · -- both sides known
              have hwt : wt = [] := by
                rw [hwn] at rw2
                cases wt with
                | nil => rfl
                | cons _ _ => exact rw2.elim
              subst hwt
              obtain ⟨k1, k2⟩ := wts_nil.mp hwn
              show if (!!true) = true then _ else _
              refine iteT ?_
              refine ⟨_, rfl, nu, _, rfl, enu5, _, rfl, _, rfl, nu, _, rfl, DPut.k (k := .inl (c : Int)) enu5 (by rw [nbs_len]; omega), ?_⟩
              have hnone : valV (nbs ks) (.inl (c : Int)) = none := by
                rw [nbs_val hnd hb rk, if_neg hk]
              rw [putK_new _ hnone, nbs_len, ← nbs_snoc]
              have enl6 : (upd H5 nu (.dK (nbs (ks ++ [c])))) nl = some (.lst xs) := by rw [upd_ne nnlu]; exact enl5
              have elf6 : (upd H5 nu (.dK (nbs (ks ++ [c])))) lf = some (.lst (natsV (c :: sc).reverse)) := by rw [upd_ne nlfu]; exact elf5
              have enu6 : (upd H5 nu (.dK (nbs (ks ++ [c])))) nu = some (.dK (nbs (ks ++ [c]))) := upd_same
              have dx6 : DpAll K (upd H5 nu (.dK (nbs (ks ++ [c])))) xs (acc.map (rowD acc)) := DpAll.tsn (fun b o ho hb => by
                rw [upd_ne]
                · exact hb
                · rintro rfl
                  rw [enu5] at hb
                  rcases ho with ⟨ys, rfl⟩ | ⟨q, u, rfl⟩ <;> cases hb) _ _ (rows_only acc acc) dx5
              have s6 : Same H (upd H5 nu (.dK (nbs (ks ++ [c])))) := fresh s5 nnu0
              generalize upd H5 nu (.dK (nbs (ks ++ [c]))) = H6 at enl6 elf6 enu6 dx6 s6
              have rk6 : Rel2 N (ks ++ [c]) (acc ++ [Bd.nd e1 A1 B1]) := rk.app ⟨hb, trivial⟩
              have pre := List.prefix_append acc [Bd.nd e1 A1 B1]
              have getv : ∀ (x : Nat) (X : Bd), At N x X → knw acc X = true → DGet H6 nu (.int ((x : Nat) : Int)) (some (.int ((nmb (acc ++ [Bd.nd e1 A1 B1]) X : Nat) : Int))) := fun x X hX kX => by
                have := DGet.k (k := .inl (x : Int)) enu6
                rw [nbs_val hnd hX rk6, if_pos (knw_pre pre kX)] at this
                exact this
              refine ⟨_, rfl, .inl ⟨rfl, _, .inl (.inl enl6)⟩, ?_⟩
              refine ⟨_, rfl, _, rfl, _, rfl, nu, _, rfl, getv w1 A1 hw1 k1, _, rfl, _, rfl, nu, _, rfl, getv t1 B1 ht1 k2, by show 3 ≤ sizeLine; decide, fun tq ntq => ?_⟩
              have s7 := same_upd ntq (o := .tup [.int e1, .int ((nmb (acc ++ [Bd.nd e1 A1 B1]) A1 : Nat) : Int), .int ((nmb (acc ++ [Bd.nd e1 A1 B1]) B1 : Nat) : Int)])
              have d7 : Dp K (upd H6 tq (.tup [.int e1, .int ((nmb (acc ++ [Bd.nd e1 A1 B1]) A1 : Nat) : Int), .int ((nmb (acc ++ [Bd.nd e1 A1 B1]) B1 : Nat) : Int)])) (.ref tq) (rowD (acc ++ [Bd.nd e1 A1 B1]) (Bd.nd e1 A1 B1)) := .tup (.of upd_same) (.cons (.int _) (.cons (.int _) (.cons (.int _) .nil)))
              generalize upd H6 tq (.tup [.int e1, .int ((nmb (acc ++ [Bd.nd e1 A1 B1]) A1 : Nat) : Int), .int ((nmb (acc ++ [Bd.nd e1 A1 B1]) B1 : Nat) : Int)]) = H7 at s7 d7
              have enl7 := s7 _ _ enl6
              refine ⟨nl, _, _, rfl, rfl, enl7, by omega, ?_⟩
              obtain ⟨j1, j2⟩ := itns_num (as := sT) hnm k1 k2
              refine ⟨itns (acc ++ [Bd.nd e1 A1 B1]) (Bd.nd e1 A1 B1 :: sT), by omega, ks ++ [c], acc ++ [Bd.nd e1 A1 B1], c :: sc, Bd.nd e1 A1 B1 :: sT, xs ++ [.ref tq], _, _, _, _, _, _, rfl, by omega, rfl, fresh (s6.trans s7) nnl, upd_same, ?_, by rw [upd_ne nnlu.symm]; exact s7 _ _ enu6, by rw [upd_ne nlfl]; exact s7 _ _ elf6, rk6, rs, ?_, ?_⟩
              · rw [rows_snoc hclo]
                exact DpAll.snoc (DpAll.away enl7 _ _ (rows_only acc acc) (DpAll.ext s7 _ _ dx6)) (Dp.away enl7 _ _ rfl d7)
              · have := post_clo (Bd.nd e1 A1 B1) acc hclo
                rw [post_nd hnm, post_knw k1, post_knw k2] at this
                exact this
              · rw [j2]
                exact hf
            · -- some wait
              have hwt : wt.reverse ≠ [] := fun z => by
                rw [List.reverse_eq_nil_iff] at z
                subst z
                have := rw2.len
                exact hwn (List.eq_nil_of_length_eq_zero this.symm)
              have hne2 : (natsV wt.reverse).isEmpty = false := by
                cases h : wt.reverse with
                | nil => exact absurd h hwt
                | cons _ _ => rfl
              rw [hne2]
              show if (!!false) = true then _ else _
              refine iteF ?_
              obtain ⟨j1, j2⟩ := itns_push (as := sT) hnm hwn
              exact ⟨itns acc (wts acc A1 B1 ++ Bd.nd e1 A1 B1 :: sT), by omega, ks, acc, wt ++ c :: sc, wts acc A1 B1 ++ Bd.nd e1 A1 B1 :: sT, xs, _, _, _, _, _, _, rfl, by omega, rfl, s5, enl5, dx5, enu5, elf5, rk, rw2.app rs, hclo, by rw [j2]; exact hf⟩
theorem ok_table {f C : Addr} {fd : FuncData} (F : Fun K "table" "Diagrams.table" s_Diagrams_table f fd) (M : Mg mg) (G : DgC K C mg) (c_Diagrams_listed : ClM P w K mg base 2 C "listed" (sp_listed C K)) : FnOk P w K mg base CX0 3 f fd ["self", "condition"] (sp_table C K) := by
  refine F.ok sc_Diagrams_table (fun vs H Q E h => ?_) (fun cdv A outer s H vs Q E hr h => ?_)
  · obtain ⟨s, N, es, L, c, a, rfl, _⟩ := h
    rfl
  · obtain ⟨s, N, es, L, c, a, rfl, st, hA, hsz, q⟩ := h
    refine ⟨_, (pss_cons (ps_asg (pe_mt c_Diagrams_listed hr (by first | decide | omega) (pv 0) (pa_cons (pe_lst (pa_cons (pv 1) pa_nil)) pa_nil)) (pg_tup (by rfl) (pgs_cons (pg_name (i := 2) sc_Diagrams_table.nd rfl (.inl rfl)) (pgs_cons (pg_name (i := 3) sc_Diagrams_table.nd rfl (.inl rfl)) pgs_nil))))
      (pss_one (ps_ret (pe_tup (pa_cons (pv 2) (pa_cons (pe_dget (hu_of hr) (pv 3) (pv 1) (fun _ _ => rfl)) pa_nil)))))), ?_⟩
    refine ⟨_, rfl, st.go (by decide +kernel) (by decide +kernel) (by decide +kernel) ⟨_, rfl, by show 1 ≤ sizeLine; decide, fun p np => ?_⟩⟩
    have s1 := same_upd np (o := .lst [.int ((c : Nat) : Int)])
    have e1 : (upd H p (.lst [.int ((c : Nat) : Int)])) p = some (.lst (natsV [c])) := upd_same
    generalize upd H p (.lst [.int ((c : Nat) : Int)]) = H1 at s1 e1
    refine ⟨s, N, es, L, p, [c], [a], rfl, st.ext s1, .of e1, ⟨hA, trivial⟩, by show 1 ≤ 100; decide, fun b hb => by rw [List.mem_singleton.mp hb]; exact hsz, fun H2 q2 nl nu xs ks s2 e2 nnl enl enu rk dx => ?_⟩
    have rk : Rel2 N ks (post [] a) := rk
    have dx : DpAll K H2 xs ((post [] a).map (rowD (post [] a))) := dx
    refine ⟨q2, _, rfl, .of e2, rfl, _, _, rfl, _, _, rfl, rfl, ?_⟩
    have hv : DGet H2 nu (.int ((c : Nat) : Int)) (some (.int ((nmb (post [] a) a : Nat) : Int))) := by
      have := DGet.k (k := .inl (c : Int)) enu
      rw [nbs_val st.nd hA rk, if_pos (post_self a [])] at this
      exact this
    refine ⟨_, rfl, _, rfl, _, rfl, nu, _, rfl, hv, by show 2 ≤ sizeLine; decide, fun q3 nq3 => ?_⟩
    exact q _ q3 nl xs ((s1.trans s2).trans (same_upd nq3)) upd_same (s1.free nnl) (same_upd nq3 _ _ enl) (DpAll.ext (same_upd nq3) _ _ dx)
end

def sp_size (C : Addr) (K : PySem.W.Frag) : Sp := fun vs H Q _ => ∃ s N es L a cs as, vs = [.ref s.p, .ref a] ∧ Sto C K H s N es L ∧ SqL K H a (natsV cs) ∧ Rel2 N cs as ∧ cs.length ≤ 100 ∧ (∀ b ∈ as, b.sz ≤ 1000) ∧ ∀ H', Same H H' → Q (.int (((as.reverse.foldl post []).length : Nat) : Int)) H'
section
variable {P : Program} {w : World} {K : PySem.W.Frag} {mg : Str → Option Value} {base : Heap}
theorem ok_size {f C : Addr} {fd : FuncData} (F : Fun K "size" "Diagrams.size" s_Diagrams_size f fd) (M : Mg mg) (G : DgC K C mg) (c_Diagrams_listed : ClM P w K mg base 2 C "listed" (sp_listed C K)) : FnOk P w K mg base CX0 3 f fd ["self", "conditions"] (sp_size C K) := by
  refine F.ok sc_Diagrams_size (fun vs H Q E h => ?_) (fun cdv A outer s H vs Q E hr h => ?_)
  · obtain ⟨s, N, es, L, a, cs, as, rfl, _⟩ := h
    rfl
  · obtain ⟨s, N, es, L, a, cs, as, rfl, st, ha, rel, hl, hsz, q⟩ := h
    refine ⟨_, (pss_cons (ps_asg (pe_mt c_Diagrams_listed hr (by first | decide | omega) (pv 0) (pa_cons (pv 1) pa_nil)) (pg_tup (by rfl) (pgs_cons (pg_name (i := 2) sc_Diagrams_size.nd rfl (.inl rfl)) (pgs_cons (pg_name (i := 3) sc_Diagrams_size.nd rfl (.inl rfl)) pgs_nil))))
      (pss_one (ps_ret (pe_callB (len_seqK K) (by rfl) M.len PySem.boot_len (pa_cons (pv 2) pa_nil))))), ?_⟩
    refine ⟨_, rfl, st.go (by decide +kernel) (by decide +kernel) (by decide +kernel) ⟨_, rfl, ?_⟩⟩
    refine ⟨s, N, es, L, a, cs, as, rfl, st, ha, rel, hl, hsz, fun H2 q2 nl nu xs ks s2 e2 nnl enl enu rk dx => ?_⟩
    refine ⟨q2, _, rfl, .of e2, rfl, _, _, rfl, _, _, rfl, rfl, ?_⟩
    refine ⟨_, rfl, nl, _, rfl, .inl (.of enl), ?_⟩
    rw [DpAll.len dx, List.length_map]
    exact q H2 s2
end

/-! ### lists of lists -/
def Lf {α : Type} (f : α → V) (H : Hp) (p : Addr) (ls : List (List α)) : Prop := ∃ as : List Addr, H p = some (.lst (as.map V.ref)) ∧ as.length = ls.length ∧ ∀ (i : Nat) b l, as[i]? = some b → ls[i]? = some l → b ≠ p ∧ H b = some (.lst (l.map f))
theorem Lf.ext {α : Type} {f : α → V} {H H' : Hp} {p : Addr} {ls : List (List α)} (e : Same H H') (h : Lf f H p ls) : Lf f H' p ls := by
  obtain ⟨as, h1, h2, h3⟩ := h
  exact ⟨as, e _ _ h1, h2, fun i b l g1 g2 => ⟨(h3 i b l g1 g2).1, e _ _ (h3 i b l g1 g2).2⟩⟩
theorem Lf.snoc {α : Type} {f : α → V} {H : Hp} {p b : Addr} {ls : List (List α)} {l : List α} {xs : List V} (h : Lf f H p ls) (e : H p = some (.lst xs)) (n : b ≠ p) (hb : H b = some (.lst (l.map f))) : Lf f (upd H p (.lst (xs ++ [.ref b]))) p (ls ++ [l]) := by
  obtain ⟨as, h1, h2, h3⟩ := h
  have ex : xs = as.map V.ref := by rw [h1] at e; exact (HO.lst.inj (Option.some.inj e)).symm
  refine ⟨as ++ [b], by rw [upd_same, ex, List.map_append]; rfl, by rw [List.length_append, List.length_append, h2]; rfl, fun i c m hc hm => ?_⟩
  by_cases hi : i < as.length
  · rw [List.getElem?_append_left hi] at hc
    rw [List.getElem?_append_left (by omega)] at hm
    obtain ⟨g1, g2⟩ := h3 i c m hc hm
    exact ⟨g1, by rw [upd_ne g1]; exact g2⟩
  · rw [List.getElem?_append_right (by omega)] at hc
    rw [List.getElem?_append_right (by omega), ← h2] at hm
    cases hk : i - as.length with
    | zero =>
      rw [hk] at hc hm
      have e1 : b = c := Option.some.inj hc
      have e2 : l = m := Option.some.inj hm
      subst e1 e2
      exact ⟨n, by rw [upd_ne n]; exact hb⟩
    | succ k => rw [hk] at hc; simp at hc
theorem Lf.get {α : Type} {f : α → V} {H : Hp} {p : Addr} {ls : List (List α)} (h : Lf f H p ls) : ∃ as : List Addr, H p = some (.lst (as.map V.ref)) ∧ as.length = ls.length ∧ ∀ (i : Nat) l, ls[i]? = some l → ∃ b, as[i]? = some b ∧ H b = some (.lst (l.map f)) := by
  obtain ⟨as, h1, h2, h3⟩ := h
  refine ⟨as, h1, h2, fun i l hl => ?_⟩
  have hi : i < as.length := by rw [h2]; exact (List.getElem?_eq_some_iff.mp hl).1
  exact ⟨as[i], List.getElem?_eq_getElem hi, (h3 i _ l (List.getElem?_eq_getElem hi) hl).2⟩
/-! ### conditions by their truth -/
theorem subs_all' : ∀ (es pre : List Int) (f : List (List Int)), (pre ++ es).Nodup → (∀ ρ : Int → Bool, ∃ p ∈ f, (∀ e ∈ p, e ∈ pre) ∧ ∀ e ∈ pre, decide (e ∈ p) = ρ e) → ∀ ρ : Int → Bool, ∃ p ∈ es.foldl (fun f e => f ++ f.map (· ++ [e])) f, ∀ e ∈ pre ++ es, decide (e ∈ p) = ρ e
  | [], pre, f, _, h, ρ => by
    obtain ⟨p, hp, _, h2⟩ := h ρ
    exact ⟨p, hp, fun e he => h2 e (by rwa [List.append_nil] at he)⟩
  | x :: es, pre, f, hn, h, ρ => by
    have hx : x ∉ pre := by
      intro hx
      rw [List.nodup_append] at hn
      exact hn.2.2 x hx x List.mem_cons_self rfl
    have hn' : ((pre ++ [x]) ++ es).Nodup := by rw [List.append_assoc]; exact hn
    rw [List.foldl_cons, show pre ++ x :: es = (pre ++ [x]) ++ es by simp]
    refine subs_all' es (pre ++ [x]) _ hn' (fun ρ => ?_) ρ
    obtain ⟨p, hp, h1, h2⟩ := h ρ
    have hxp : x ∉ p := fun z => hx (h1 x z)
    cases e : ρ x with
    | true =>
      refine ⟨p ++ [x], List.mem_append_right _ (List.mem_map.mpr ⟨p, hp, rfl⟩), fun y hy => ?_, fun y hy => ?_⟩
      · rcases List.mem_append.mp hy with hy | hy
        · exact List.mem_append_left _ (h1 y hy)
        · exact List.mem_append_right _ hy
      · rcases List.mem_append.mp hy with hy | hy
        · have hyx : y ≠ x := fun z => hx (z ▸ hy)
          rw [← h2 y hy, decide_eq_decide, List.mem_append, List.mem_singleton]
          exact ⟨fun g => g.elim id (fun z => absurd z hyx), .inl⟩
        · rw [List.mem_singleton.mp hy, e]
          exact decide_eq_true (List.mem_append_right _ (List.mem_singleton.mpr rfl))
    | false =>
      refine ⟨p, List.mem_append_left _ hp, fun y hy => List.mem_append_left _ (h1 y hy), fun y hy => ?_⟩
      rcases List.mem_append.mp hy with hy | hy
      · exact h2 y hy
      · rw [List.mem_singleton.mp hy, e]
        exact decide_eq_false hxp
theorem subs_all {es : List Int} (hn : es.Nodup) (ρ : Int → Bool) : ∃ p ∈ subs es, ∀ e ∈ es, decide (e ∈ p) = ρ e :=
  subs_all' es [] [[]] hn (fun _ => ⟨[], List.mem_singleton.mpr rfl, fun _ h => (nomatch h), fun _ h => (nomatch h)⟩) ρ
def tru (es : List Int) (t : Tr) : List Bool := (subs es).map fun p => t.ev fun e => decide (e ∈ p)
theorem tru_eq {es : List Int} (hn : es.Nodup) {t u : Tr} (ht : t.ok es) (hu : u.ok es) : tru es t = tru es u ↔ ∀ ρ, t.ev ρ = u.ev ρ := by
  constructor
  · intro h ρ
    obtain ⟨p, hp, hr⟩ := subs_all hn ρ
    have := List.map_inj_left.mp h p hp
    rw [tr_agree ht hr, tr_agree hu hr] at this
    exact this
  · intro h
    exact List.map_inj_left.mpr fun p _ => h _
theorem tru_any {es : List Int} (hn : es.Nodup) {t : Tr} (ht : t.ok es) : (tru es t).any id = false ↔ ∀ ρ, t.ev ρ = false := by
  unfold tru
  rw [List.any_map, List.any_eq_false]
  constructor
  · intro h ρ
    obtain ⟨p, hp, hr⟩ := subs_all hn ρ
    have := h p hp
    rw [← tr_agree ht hr]
    simpa using this
  · intro h p _
    show ¬ (t.ev _) = true
    rw [h]
    exact Bool.false_ne_true
theorem tru_all {es : List Int} (hn : es.Nodup) {t : Tr} (ht : t.ok es) : (tru es t).all id = true ↔ ∀ ρ, t.ev ρ = true := by
  unfold tru
  rw [List.all_map, List.all_eq_true]
  constructor
  · intro h ρ
    obtain ⟨p, hp, hr⟩ := subs_all hn ρ
    have := h p hp
    rw [← tr_agree ht hr]
    exact this
  · intro h p _
    exact h _
theorem tru_len (es : List Int) (t : Tr) : (tru es t).length = 2 ^ es.length := by rw [tru, List.length_map, subs_len]
/-- conditions built, one for each tree -/
def Blt (N : Nds) (es : List Int) (ts : List Tr) (cs : List Nat) : Prop := cs.length = ts.length ∧ ∀ (i : Nat) t c, ts[i]? = some t → cs[i]? = some c → ∃ T, At N c T ∧ Wf es T ∧ ∀ ρ, T.ev ρ = t.ev ρ
theorem Blt.mono {N M : Nds} {es : List Int} {ts : List Tr} {cs : List Nat} (h : Blt N es ts cs) : Blt (N ++ M) es ts cs := ⟨h.1, fun i t c h1 h2 => by
  obtain ⟨T, a, b⟩ := h.2 i t c h1 h2
  exact ⟨T, a.mono, b⟩⟩
theorem Blt.snoc {N : Nds} {es : List Int} {ts : List Tr} {cs : List Nat} {t : Tr} {c : Nat} {T : Bd} (h : Blt N es ts cs) (a : At N c T) (b : Wf es T) (v : ∀ ρ, T.ev ρ = t.ev ρ) : Blt N es (ts ++ [t]) (cs ++ [c]) := by
  refine ⟨by rw [List.length_append, List.length_append, h.1]; rfl, fun i t' c' h1 h2 => ?_⟩
  by_cases hi : i < ts.length
  · rw [List.getElem?_append_left hi] at h1
    rw [List.getElem?_append_left (by rw [h.1]; exact hi)] at h2
    exact h.2 i t' c' h1 h2
  · rw [List.getElem?_append_right (by omega)] at h1
    rw [List.getElem?_append_right (by rw [h.1]; omega), h.1] at h2
    cases hk : i - ts.length with
    | zero =>
      rw [hk] at h1 h2
      have e1 : t = t' := Option.some.inj h1
      have e2 : c = c' := Option.some.inj h2
      subst e1 e2
      exact ⟨T, a, b, v⟩
    | succ k => rw [hk] at h1; simp at h1
theorem bls_eqvAll : ∀ a b : List Bool, PyData.eqvAll (a.map PyData.bool) (b.map PyData.bool) = decide (a = b)
  | [], [] => rfl
  | [], _ :: _ => rfl
  | _ :: _, [] => rfl
  | x :: a, y :: b => by
    rw [List.map_cons, List.map_cons]
    unfold PyData.eqvAll
    rw [bls_eqvAll a b]
    unfold PyData.eqv
    cases x <;> cases y <;> simp
theorem bls_eqv (a b : List Bool) : PyData.eqv (.list (a.map PyData.bool)) (.list (b.map PyData.bool)) = decide (a = b) := by
  unfold PyData.eqv
  exact bls_eqvAll a b
/-- one number for one condition -/
theorem num_eq {N : Nds} {es : List Int} (hN : N.Nodup) (hn : es.Nodup) {t u : Tr} (ht : t.ok es) (hu : u.ok es) {c d : Nat} {T U : Bd} (hT : At N c T) (hU : At N d U) (wT : Wf es T) (wU : Wf es U) (vT : ∀ ρ, T.ev ρ = t.ev ρ) (vU : ∀ ρ, U.ev ρ = u.ev ρ) : c = d ↔ tru es t = tru es u := by
  rw [tru_eq hn ht hu]
  constructor
  · intro e ρ
    subst e
    rw [← vT, ← vU, hT.fn hU]
  · intro h
    have := canon hn wT wU fun ρ => by rw [vT, vU, h]
    subst this
    exact hT.inj hN hU
theorem num_0 {N : Nds} {es : List Int} (hN : N.Nodup) (hn : es.Nodup) {t : Tr} (ht : t.ok es) {c : Nat} {T : Bd} (hT : At N c T) (wT : Wf es T) (vT : ∀ ρ, T.ev ρ = t.ev ρ) : c = 0 ↔ (tru es t).any id = false := by
  rw [tru_any hn ht]
  constructor
  · intro e ρ
    subst e
    rw [← vT, hT.fn .f]
    rfl
  · intro h
    have := canon hn wT (.lf (b := false)) fun ρ => by rw [vT, h]; rfl
    subst this
    exact hT.inj hN .f
theorem num_1 {N : Nds} {es : List Int} (hN : N.Nodup) (hn : es.Nodup) {t : Tr} (ht : t.ok es) {c : Nat} {T : Bd} (hT : At N c T) (wT : Wf es T) (vT : ∀ ρ, T.ev ρ = t.ev ρ) : c = 1 ↔ (tru es t).all id = true := by
  rw [tru_all hn ht]
  constructor
  · intro e ρ
    subst e
    rw [← vT, hT.fn .t]
    rfl
  · intro h
    have := canon hn wT (.lf (b := true)) fun ρ => by rw [vT, h]; rfl
    subst this
    exact hT.inj hN .t
/-- a list of conditions' trees -/
def TrL (K : PySem.W.Frag) (H : Hp) (D : Addr) (ts : List Tr) : Prop := ∃ vs, H D = some (.lst vs) ∧ DpAll K H vs (ts.map Tr.d)
theorem trs_only : ∀ ts : List Tr, tupOnlys (ts.map Tr.d) = true
  | [] => rfl
  | t :: ts => by
    rw [List.map_cons]
    unfold tupOnlys
    rw [tr_only, trs_only ts]
    rfl
theorem TrL.ext {K : PySem.W.Frag} {H H' : Hp} {D : Addr} {ts : List Tr} (e : Same H H') (h : TrL K H D ts) : TrL K H' D ts := by
  obtain ⟨vs, h1, h2⟩ := h
  exact ⟨vs, e _ _ h1, DpAll.ext e _ _ h2⟩
theorem TrL.snoc {K : PySem.W.Frag} {H : Hp} {D : Addr} {ts : List Tr} {vs : List V} {v : V} {t : Tr} (h : TrL K H D ts) (e : H D = some (.lst vs)) (hv : Dp K H v t.d) : TrL K (upd H D (.lst (vs ++ [v]))) D (ts ++ [t]) := by
  obtain ⟨vs', h1, h2⟩ := h
  have ev : vs' = vs := by rw [h1] at e; exact HO.lst.inj (Option.some.inj e)
  subst ev
  refine ⟨_, upd_same, ?_⟩
  rw [List.map_append]
  exact DpAll.snoc (DpAll.away h1 _ _ (trs_only ts) h2) (Dp.away h1 _ _ (tr_only t) hv)
theorem TrL.get {K : PySem.W.Frag} {H : Hp} {D : Addr} {ts : List Tr} (h : TrL K H D ts) : ∃ vs, H D = some (.lst vs) ∧ vs.length = ts.length ∧ ∀ (i : Nat) t, ts[i]? = some t → ∃ v, vs[i]? = some v ∧ Dp K H v t.d := by
  obtain ⟨vs, h1, h2⟩ := h
  refine ⟨vs, h1, by rw [DpAll.len h2, List.length_map], fun i t ht => DpAll.get h2 (by rw [List.getElem?_map, ht]; rfl)⟩
theorem TrL.fd {K : PySem.W.Frag} {H H' : Hp} {D d : Addr} {ts : List Tr} (hd : ∃ zs, H d = some (.lst zs)) (n : D ≠ d) (e : Fd d H H') (h : TrL K H D ts) : TrL K H' D ts := by
  obtain ⟨vs, h1, h2⟩ := h
  exact ⟨vs, e _ _ n h1, DpAll.fd hd e _ _ (trs_only ts) h2⟩
def intsV (cs : List Nat) : List V := cs.map fun c => .int ((c : Nat) : Int)
section
variable {P : Program} {w : World} {K : PySem.W.Frag} {mg : Str → Option Value} {base : Heap}
/-- conditions being built, one after another -/
def BuP (C : Addr) (K : PySem.W.Frag) (sa : SA) (N : Nds) (es : List Int) (b : Nat) (ts : List Tr) (H0 H : Hp) (B : Addr) (i : Nat) (Hi : Hp) : Prop := Same H0 Hi ∧ (∀ a o, H a = some o → a ≠ sa.k → a ≠ sa.u → a ≠ sa.m → Hi a = some o) ∧ ∃ M cs, Sto C K Hi sa (N ++ M) es (b + i * 33000) ∧ Hi B = some (.lst (intsV cs)) ∧ Blt (N ++ M) es (ts.take i) cs ∧ (N ++ M).length ≤ b + i * 33000
theorem bu_0 {C : Addr} {sa : SA} {N : Nds} {es : List Int} {L b : Nat} {ts : List Tr} {H0 H : Hp} {B : Addr} (S : Same H0 H) (st : Sto C K H sa N es L) (hb : N.length ≤ b ∧ L ≤ b) (nB : H B = none) : BuP C K sa N es b ts H0 H B 0 (upd H B (.lst [])) := by
  refine ⟨S.trans (same_upd nB), fun a o h _ _ _ => same_upd nB _ _ h, [], [], ?_, upd_same, ⟨rfl, fun i t c h _ => by simp at h⟩, ?_⟩
  · rw [List.append_nil]
    exact (st.ext (same_upd nB)).more (by omega)
  · rw [List.append_nil]
    omega
theorem bu_ne {C : Addr} {sa : SA} {N : Nds} {es : List Int} {L : Nat} {H : Hp} {B : Addr} (st : Sto C K H sa N es L) (nB : H B = none) : B ≠ sa.k ∧ B ≠ sa.u ∧ B ≠ sa.m := by
  obtain ⟨_, ⟨_, g1, _⟩, ⟨_, g2, _⟩, ⟨_, g3, _⟩, _⟩ := st
  exact ⟨(ne_of_none g1 nB).symm, (ne_of_none g2 nB).symm, (ne_of_none g3 nB).symm⟩
theorem bu_step {C : Addr} {sa : SA} {N : Nds} {es : List Int} {L b : Nat} {ts : List Tr} {H0 H Hi : Hp} {B : Addr} {i : Nat} {v : V} {t : Tr} {σ : L2.St} {i5 i11 : Nat} (S : Same H0 H) (st : Sto C K H sa N es L) (nk : H0 sa.k = none) (nu : H0 sa.u = none) (nm : H0 sa.m = none) (hl : es.length ≤ 5) (hb2 : b + ts.length * 33000 ≤ 400000) (nB : H B = none) (hp : BuP C K sa N es b ts H0 H B i Hi) (ht : ts[i]? = some t) (ok1 : t.ok es) (ht1 : t.ht < 9) (dp : Dp K H0 v t.d) (h5 : σ[i5]? = some (some (.ref sa.p))) (h11 : σ[i11]? = some (some v)) :
    tCall (sp_build C K 6 9) [] E0 (tCons (tVar i5) (tCons (tVar i11) tNil)) σ Hi fun y H4 => ∃ ys, H4 B = some (.lst ys) ∧ ys.length < sizeLine ∧ BuP C K sa N es b ts H0 H B (i + 1) (upd H4 B (.lst (ys ++ [y]))) := by
  have hob : opB es ≤ 64 := by
    have : 2 ^ es.length ≤ 2 ^ 5 := Nat.pow_le_pow_right (by decide) hl
    unfold opB
    omega
  have sl : (500000 : Nat) < sizeLine := by decide
  have nB0 := S.free nB
  have nBk := bu_ne st nB
  obtain ⟨si, fi, M, cs, sti, eB, bl, ln⟩ := hp
  have hi : i < ts.length := (List.getElem?_eq_some_iff.mp ht).1
  have hz : t.sz ≤ 511 := by
    have h1 := tr_sz t
    have h2 : 2 ^ (t.ht + 1) ≤ 2 ^ 9 := Nat.pow_le_pow_right (by decide) (by omega)
    omega
  have hzb : t.sz * opB es ≤ 511 * 64 := Nat.mul_le_mul hz hob
  have hib : i * 33000 + 33000 ≤ ts.length * 33000 := by
    have := Nat.mul_le_mul_right 33000 (show i + 1 ≤ ts.length by omega)
    omega
  refine ⟨_, h5, _, h11, sa, N ++ M, es, _, v, t, rfl, sti, by omega, ok1, ht1, Dp.ext si _ _ dp, by omega, by omega, fun H1 M1 r1 T1 f1 l1 st1 a1 w1 v1 => ?_⟩
  have eB1 := f1 _ _ nBk.1 nBk.2.1 nBk.2.2 eB
  have lcs : cs.length = i := by rw [bl.1, List.length_take]; omega
  refine ⟨_, eB1, ?_, ?_, ?_, M ++ M1, cs ++ [r1], ?_, ?_, ?_, ?_⟩
  · show (intsV cs).length < sizeLine
    unfold intsV
    rw [List.length_map, lcs]
    omega
  · intro x o e
    rw [upd_ne (ne_of_none e nB0)]
    exact f1.same si nk nu nm x o e
  · intro x o e n1 n2 n3
    rw [upd_ne (ne_of_none e nB)]
    exact f1 x o n1 n2 n3 (fi x o e n1 n2 n3)
  · rw [← List.append_assoc]
    exact (st1.fd ⟨_, eB1⟩ nBk.1 Fd.at).more (by omega)
  · rw [upd_same]
    unfold intsV
    rw [List.map_append]
    rfl
  · rw [← List.append_assoc, List.take_add_one, ht]
    exact bl.mono.snoc a1 w1 v1
  · rw [← List.append_assoc, List.length_append]
    omega
end

/-! ### conditions as truth tables over all sets -/
def tt (es : List Int) (a : Bd) : List Bool := (subs es).map fun p => a.ev fun e => decide (e ∈ p)
theorem tt_len (es : List Int) (a : Bd) : (tt es a).length = 2 ^ es.length := by rw [tt, List.length_map, subs_len]
/-- which sets have an input row: by the bits of their places -/
def sbr : List Int → List (List Int)
  | [] => [[]]
  | e :: r => sbr r ++ (sbr r).map (· ++ [e])
theorem sbr_eq : ∀ r : List Int, subs r.reverse = sbr r
  | [] => rfl
  | e :: r => by
    rw [List.reverse_cons, subs_snoc, sbr_eq r]
    rfl
theorem sbr_len : ∀ r : List Int, (sbr r).length = 2 ^ r.length
  | [] => rfl
  | e :: r => by
    show (sbr r ++ (sbr r).map _).length = 2 ^ (r.length + 1)
    rw [List.length_append, List.length_map, sbr_len r, Nat.pow_succ]
    omega
theorem sbr_mem : ∀ (r : List Int) (p : List Int), p ∈ sbr r → ∀ e ∈ p, e ∈ r
  | [], p, h, e, he => by
    have : p = [] := by simpa [sbr] using h
    rw [this] at he
    cases he
  | x :: r, p, h, e, he => by
    rcases List.mem_append.mp h with h | h
    · exact List.mem_cons_of_mem _ (sbr_mem r p h e he)
    · obtain ⟨q, hq, rfl⟩ := List.mem_map.mp h
      rcases List.mem_append.mp he with he | he
      · exact List.mem_cons_of_mem _ (sbr_mem r q hq e he)
      · rw [List.mem_singleton.mp he]
        exact List.mem_cons_self
theorem tb_add {m r k : Nat} (hk : k < m) : (2 ^ m + r).testBit k = r.testBit k := Nat.testBit_two_pow_add_gt hk r
theorem tb_top {m r : Nat} (hr : r < 2 ^ m) : (2 ^ m + r).testBit m = true := by
  rw [Nat.testBit_two_pow_add_eq, Nat.testBit_lt_two_pow hr]
  rfl
theorem sbr_bit : ∀ (r : List Int) (n : Nat) (p : List Int) (k : Nat) (e : Int), r.Nodup → (sbr r)[n]? = some p → r.reverse[k]? = some e → decide (e ∈ p) = n.testBit k
  | [], _, _, k, _, _, _, h => by simp at h
  | x :: r, n, p, k, e, hn, hp, he => by
    rw [List.nodup_cons] at hn
    rw [List.reverse_cons] at he
    have hp : (sbr r ++ (sbr r).map (· ++ [x]))[n]? = some p := hp
    have lr : r.reverse.length = r.length := List.length_reverse
    have ls := sbr_len r
    by_cases h1 : n < (sbr r).length
    · rw [List.getElem?_append_left h1] at hp
      by_cases h2 : k < r.reverse.length
      · rw [List.getElem?_append_left h2] at he
        exact sbr_bit r n p k e hn.2 hp he
      · rw [List.getElem?_append_right (by omega)] at he
        have hk : k = r.length := by
          cases h : k - r.reverse.length with
          | zero => omega
          | succ j => rw [h] at he; simp at he
        subst hk
        rw [lr, Nat.sub_self] at he
        have : x = e := Option.some.inj he
        subst this
        rw [Nat.testBit_lt_two_pow (by rw [← ls]; exact h1)]
        exact decide_eq_false fun z => hn.1 (sbr_mem r p (List.mem_of_getElem? hp) x z)
    · rw [List.getElem?_append_right (by omega), List.getElem?_map] at hp
      obtain ⟨q, hq, rfl⟩ := Option.map_eq_some_iff.mp hp
      have hlt : n - (sbr r).length < 2 ^ r.length := by
        rw [← ls]
        exact (List.getElem?_eq_some_iff.mp hq).1
      have en : n = 2 ^ r.length + (n - (sbr r).length) := by omega
      by_cases h2 : k < r.reverse.length
      · rw [List.getElem?_append_left h2] at he
        have ih := sbr_bit r _ q k e hn.2 hq he
        rw [en, tb_add (show k < r.length by omega), ← ih, decide_eq_decide, List.mem_append, List.mem_singleton]
        have hne : e ≠ x := fun z => by
          subst z
          exact hn.1 (List.mem_reverse.mp (List.mem_of_getElem? he))
        exact ⟨fun g => g.elim id (fun z => absurd z hne), .inl⟩
      · rw [List.getElem?_append_right (by omega)] at he
        have hk : k = r.length := by
          cases h : k - r.reverse.length with
          | zero => omega
          | succ j => rw [h] at he; simp at he
        subst hk
        rw [lr, Nat.sub_self] at he
        have : x = e := Option.some.inj he
        subst this
        rw [en, tb_top hlt]
        exact decide_eq_true (List.mem_append_right _ (List.mem_singleton.mpr rfl))
theorem subs_bit {es : List Int} (hn : es.Nodup) {n k : Nat} {p : List Int} {e : Int} (hp : (subs es)[n]? = some p) (he : es[k]? = some e) : decide (e ∈ p) = n.testBit k := by
  have h := sbr_eq es.reverse
  rw [List.reverse_reverse] at h
  rw [h] at hp
  exact sbr_bit es.reverse n p k e (by rw [List.nodup_iff_pairwise_ne, List.pairwise_reverse]; exact (List.nodup_iff_pairwise_ne.mp hn).imp fun h => h.symm) hp (by rw [List.reverse_reverse]; exact he)
/-- the place of a set with one input row put in or left out -/
def fxI (k : Nat) (b : Bool) (n : Nat) : Nat := (if n.testBit k = true then n - 2 ^ k else n) + (if b = true then 2 ^ k else 0)
theorem fxI_eq (k : Nat) (b : Bool) (n : Nat) : fxI k b n = 2 ^ k * (2 * (n / 2 ^ k / 2) + (if b = true then 1 else 0)) + n % 2 ^ k := by
  have hp : 0 < 2 ^ k := Nat.two_pow_pos k
  have en := Nat.div_add_mod n (2 ^ k)
  have h2 := Nat.div_add_mod (n / 2 ^ k) 2
  unfold fxI
  rw [Nat.testBit_eq_decide_div_mod_eq, Nat.mul_add]
  generalize n / 2 ^ k = c at *
  generalize n % 2 ^ k = r at *
  have hb : 2 ^ k * (if b = true then 1 else 0) = if b = true then 2 ^ k else 0 := by cases b <;> simp
  rw [hb]
  by_cases h : c % 2 = 1
  · rw [if_pos (decide_eq_true h)]
    have hc : c = 2 * (c / 2) + 1 := by omega
    have e1 : 2 ^ k * c = 2 ^ k * (2 * (c / 2)) + 2 ^ k := by
      conv => lhs; rw [hc, Nat.mul_add, Nat.mul_one]
    omega
  · rw [if_neg (by rw [decide_eq_true_iff]; exact h)]
    have hc : c = 2 * (c / 2) := by omega
    have e1 : 2 ^ k * c = 2 ^ k * (2 * (c / 2)) := by
      conv => lhs; rw [hc]
    omega
theorem fxI_bit (k : Nat) (b : Bool) (n j : Nat) : (fxI k b n).testBit j = if j = k then b else n.testBit j := by
  have hp : 0 < 2 ^ k := Nat.two_pow_pos k
  rw [fxI_eq, Nat.testBit_two_pow_mul_add _ (Nat.mod_lt n hp)]
  by_cases h1 : j < k
  · rw [if_pos h1, if_neg (by omega), Nat.testBit_mod_two_pow, decide_eq_true h1, Bool.true_and]
  · rw [if_neg h1]
    by_cases h2 : j = k
    · subst h2
      rw [if_pos rfl, Nat.sub_self, Nat.testBit_zero]
      cases b
      · exact decide_eq_false (by rw [if_neg Bool.false_ne_true]; omega)
      · exact decide_eq_true (by rw [if_pos rfl]; omega)
    · rw [if_neg h2]
      obtain ⟨d, rfl⟩ : ∃ d, j = k + (d + 1) := ⟨j - k - 1, by omega⟩
      rw [Nat.add_sub_cancel_left, Nat.testBit_succ]
      have e : (2 * (n / 2 ^ k / 2) + (if b = true then 1 else 0)) / 2 = n / 2 ^ k / 2 := by
        cases b
        · rw [if_neg Bool.false_ne_true]; omega
        · rw [if_pos rfl]; omega
      rw [e, ← Nat.testBit_succ, Nat.testBit_div_two_pow, Nat.add_comm]
theorem fxI_lt {k m n : Nat} {b : Bool} (hk : k < m) (hn : n < 2 ^ m) : fxI k b n < 2 ^ m := by
  refine Nat.lt_pow_two_of_testBit _ fun i hi => ?_
  rw [fxI_bit, if_neg (by omega)]
  exact Nat.testBit_lt_two_pow (Nat.lt_of_lt_of_le hn (Nat.pow_le_pow_right (by decide) hi))
/-- the table with one input row put in or left out -/
def fixL (l : List Bool) (k : Nat) (b : Bool) : List Bool := (List.range l.length).map fun n => l.getD (fxI k b n) false
theorem tt_get {es : List Int} {a : Bd} {n : Nat} {p : List Int} (h : (subs es)[n]? = some p) : (tt es a)[n]? = some (a.ev fun e => decide (e ∈ p)) := by
  unfold tt
  rw [List.getElem?_map, h]
  rfl
theorem fixL_get {es : List Int} (hn : es.Nodup) {a : Bd} (wa : Wf es a) {k n : Nat} {b : Bool} {p : List Int} {x : Int} (hx : es[k]? = some x) (hp : (subs es)[n]? = some p) : (fixL (tt es a) k b)[n]? = some (a.ev (setR (fun e => decide (e ∈ p)) x b)) := by
  have hk : k < es.length := (List.getElem?_eq_some_iff.mp hx).1
  have hn2 : n < 2 ^ es.length := by rw [← subs_len]; exact (List.getElem?_eq_some_iff.mp hp).1
  have hf := fxI_lt (b := b) hk hn2
  have hq : fxI k b n < (subs es).length := by rw [subs_len]; exact hf
  unfold fixL
  rw [List.getElem?_map, List.getElem?_range (by rw [tt_len]; exact hn2)]
  show some ((tt es a).getD (fxI k b n) false) = _
  rw [List.getD_eq_getElem?_getD, tt_get (List.getElem?_eq_getElem hq)]
  refine congrArg some (wf_agree wa fun e he => ?_)
  obtain ⟨j, hj⟩ := List.getElem?_of_mem he
  rw [subs_bit hn (List.getElem?_eq_getElem hq) hj, fxI_bit]
  by_cases ejk : j = k
  · subst ejk
    have : x = e := Option.some.inj (hx.symm.trans hj)
    subst this
    rw [if_pos rfl, setR_same]
  · have hne : e ≠ x := fun z => by
      subst z
      exact ejk (nodup_at hn hj hx)
    rw [if_neg ejk, setR_ne hne]
    exact (subs_bit hn hp hj).symm
/-- put in, left out: a condition whose least question this is, or none of whose questions this is -/
theorem fixL_eq {es : List Int} (hn : es.Nodup) {a c : Bd} (wa : Wf es a) {k : Nat} {b : Bool} {x : Int} (hx : es[k]? = some x) (h : ∀ r, a.ev (setR r x b) = c.ev r) : fixL (tt es a) k b = tt es c := by
  refine List.ext_getElem? fun n => ?_
  by_cases hl : n < (subs es).length
  · rw [fixL_get hn wa hx (List.getElem?_eq_getElem hl), tt_get (List.getElem?_eq_getElem hl), h]
  · rw [List.getElem?_eq_none, List.getElem?_eq_none]
    · rw [tt_len, ← subs_len]; omega
    · unfold fixL
      rw [List.length_map, List.length_range, tt_len, ← subs_len]; omega
theorem tt_inj {es : List Int} (hn : es.Nodup) {a c : Bd} (wa : Wf es a) (wc : Wf es c) (h : tt es a = tt es c) : a = c := by
  refine canon hn wa wc fun r => ?_
  obtain ⟨p, hp, hr⟩ := subs_all hn r
  have := List.map_inj_left.mp h p hp
  rw [wf_agree wa hr, wf_agree wc hr] at this
  exact this
/-- where a node's question stands, and what comes ahead of it does not matter -/
theorem wf_nd {es : List Int} {x : Int} {w t : Bd} (h : Wf es (.nd x w t)) : ∃ pre post, es = pre ++ x :: post ∧ Wf post w ∧ Wf post t ∧ w ≠ t := by
  generalize e : Bd.nd x w t = a at h
  induction h with
  | lf => cases e
  | @here y es w' t' hw ht hn _ _ =>
    cases e
    exact ⟨[], _, rfl, hw, ht, hn⟩
  | @skip y es a _ ih =>
    obtain ⟨pre, po, rfl, h1, h2, h3⟩ := ih e
    exact ⟨y :: pre, po, rfl, h1, h2, h3⟩
theorem wf_kids {es : List Int} {x : Int} {w t : Bd} (h : Wf es (.nd x w t)) : Wf es w ∧ Wf es t := by
  obtain ⟨pre, po, rfl, h1, h2, _⟩ := wf_nd h
  exact ⟨(Wf.skip h1).skips pre, (Wf.skip h2).skips pre⟩
theorem top_at {pre po : List Int} {x : Int} (hn : (pre ++ x :: po).Nodup) : (pre ++ x :: po).idxOf x = pre.length := by
  rw [List.idxOf_append, if_neg]
  · rw [List.idxOf_cons_self, Nat.zero_add]
  · intro h
    rw [List.nodup_append] at hn
    exact hn.2.2 x h x List.mem_cons_self rfl
/-- fixed at the least question; fixed at one ahead of it -/
theorem fix_top {es : List Int} (hn : es.Nodup) {x : Int} {w t : Bd} (h : Wf es (.nd x w t)) : fixL (tt es (.nd x w t)) (es.idxOf x) false = tt es w ∧ fixL (tt es (.nd x w t)) (es.idxOf x) true = tt es t ∧ tt es w ≠ tt es t ∧ es.idxOf x < es.length ∧ es[es.idxOf x]? = some x ∧
    ∀ k, k < es.idxOf x → ∀ b, fixL (tt es (.nd x w t)) k b = tt es (.nd x w t) := by
  obtain ⟨w1, w2⟩ := wf_kids h
  obtain ⟨pre, po, rfl, h1, h2, h3⟩ := wf_nd h
  have hx : (pre ++ x :: po)[pre.length]? = some x := by rw [List.getElem?_append_right (Nat.le_refl _), Nat.sub_self]; rfl
  have hnp : x ∉ po := by
    rw [List.nodup_append, List.nodup_cons] at hn
    exact hn.2.1.1
  have ni := top_at hn
  rw [ni]
  refine ⟨fixL_eq hn h hx fun r => ?_, fixL_eq hn h hx fun r => ?_, fun z => h3 (tt_inj hn w1 w2 z), by simp, hx, fun k hk b => ?_⟩
  · show (if setR r x false x = true then _ else _) = _
    rw [setR_same, if_neg Bool.false_ne_true, h1.away hnp]
  · show (if setR r x true x = true then _ else _) = _
    rw [setR_same, if_pos rfl, h2.away hnp]
  · have hy : (pre ++ x :: po)[k]? = some pre[k] := by rw [List.getElem?_append_left hk, List.getElem?_eq_getElem hk]
    refine fixL_eq hn h hy fun r => ?_
    have hw : Wf (x :: po) (.nd x w t) := .here h1 h2 h3
    refine hw.away fun z => ?_
    rw [List.nodup_append] at hn
    exact hn.2.2 _ (List.getElem_mem hk) _ z rfl
theorem fix_lf {es : List Int} (hn : es.Nodup) {v : Bool} {k : Nat} (hk : k < es.length) (b : Bool) : fixL (tt es (.lf v)) k b = tt es (.lf v) := fixL_eq hn .lf (List.getElem?_eq_getElem hk) fun _ => rfl
/-- all nodes of a diagram -/
def subN : Bd → List Bd
  | .lf _ => []
  | .nd e w t => .nd e w t :: (subN w ++ subN t)
theorem clo_sub {acc : List Bd} (h : Clo acc) : ∀ {a : Bd}, knw acc a = true → ∀ x ∈ subN a, x ∈ acc
  | .lf _, _, x, hx => by cases hx
  | .nd e w t, hk, x, hx => by
    have hm := knw_nd.mp hk
    obtain ⟨k1, k2⟩ := h e w t hm
    rcases List.mem_cons.mp hx with rfl | hx
    · exact hm
    · rcases List.mem_append.mp hx with hx | hx
      · exact clo_sub h k1 x hx
      · exact clo_sub h k2 x hx
theorem post_iff : ∀ {a : Bd} {acc : List Bd}, Clo acc → ∀ x, x ∈ post acc a ↔ x ∈ acc ∨ x ∈ subN a
  | .lf _, acc, _, x => by
    show x ∈ acc ↔ _
    exact ⟨.inl, fun h => h.elim id (fun z => by cases z)⟩
  | .nd e w t, acc, hc, x => by
    by_cases hm : Bd.nd e w t ∈ acc
    · rw [post_knw (knw_nd.mpr hm)]
      exact ⟨.inl, fun h => h.elim id (clo_sub hc (knw_nd.mpr hm) x)⟩
    · rw [post_nd hm, List.mem_append, List.mem_singleton, post_iff (post_clo w acc hc), post_iff hc]
      constructor
      · rintro (((h | h) | h) | h)
        · exact .inl h
        · exact .inr (List.mem_cons_of_mem _ (List.mem_append_left _ h))
        · exact .inr (List.mem_cons_of_mem _ (List.mem_append_right _ h))
        · subst h; exact .inr List.mem_cons_self
      · rintro (h | h)
        · exact .inl (.inl (.inl h))
        · rcases List.mem_cons.mp h with h | h
          · exact .inr h
          · rcases List.mem_append.mp h with h | h
            · exact .inl (.inl (.inr h))
            · exact .inl (.inr h)
theorem posts_iff : ∀ {as acc : List Bd}, Clo acc → ∀ x, x ∈ as.foldl post acc ↔ x ∈ acc ∨ ∃ a ∈ as, x ∈ subN a
  | [], acc, _, x => ⟨.inl, fun h => h.elim id (fun ⟨a, h, _⟩ => by cases h)⟩
  | a :: as, acc, hc, x => by
    rw [List.foldl_cons, posts_iff (post_clo a acc hc), post_iff hc]
    constructor
    · rintro ((h | h) | ⟨b, hb, h⟩)
      · exact .inl h
      · exact .inr ⟨a, List.mem_cons_self, h⟩
      · exact .inr ⟨b, List.mem_cons_of_mem _ hb, h⟩
    · rintro (h | ⟨b, hb, h⟩)
      · exact .inl (.inl h)
      · rcases List.mem_cons.mp hb with rfl | hb
        · exact .inl (.inr h)
        · exact .inr ⟨b, hb, h⟩
theorem posts_nodup : ∀ (as acc : List Bd), acc.Nodup → (as.foldl post acc).Nodup
  | [], _, h => h
  | a :: as, acc, h => posts_nodup as _ (post_nodup a acc h)
theorem same_len {xs ys : List Bd} (h1 : xs.Nodup) (h2 : ys.Nodup) (h : ∀ x, x ∈ xs ↔ x ∈ ys) : xs.length = ys.length := ((List.perm_ext_iff_of_nodup h1 h2).mpr h).length_eq

/-! ### the laws' truth tables -/
def bDt (es : List Int) (a : Bd) : PyData := .tuple ((tt es a).map PyData.bool)
theorem dp_tt {K : PySem.W.Frag} {H : Hp} {p : Addr} {l : List Bool} (h : SqT K H p (l.map V.bl)) : Dp K H (.ref p) (.tuple (l.map PyData.bool)) := .tup h (dpa_map _ _ (fun i => .bl i) l)
theorem bDt_only (es : List Int) : ∀ as : List Bd, tupOnlys (as.map (bDt es)) = true
  | [] => rfl
  | a :: as => by
    rw [List.map_cons]
    unfold tupOnlys
    rw [bDt_only es as, Bool.and_true]
    unfold bDt tupOnly
    induction tt es a with
    | nil => rfl
    | cons b bs ih =>
      rw [List.map_cons]
      unfold tupOnlys
      rw [ih]
      rfl
theorem bDt_1 (es : List Int) (a : Bd) : tupOnly (bDt es a) = true := by
  have := bDt_only es [a]
  rw [List.map_cons] at this
  unfold tupOnlys at this
  rw [Bool.and_eq_true] at this
  exact this.1
theorem tup_shaped (l : List Bool) : SeqAt.shaped (.tuple (l.map PyData.bool)) = true := by
  have h := bls_shaped l
  unfold SeqAt.shaped at h ⊢
  unfold PyData.canLay0 PyData.depth at h ⊢
  exact h
theorem tup_eqv (a b : List Bool) : PyData.eqv (.tuple (a.map PyData.bool)) (.tuple (b.map PyData.bool)) = decide (a = b) := by
  unfold PyData.eqv
  exact bls_eqvAll a b
theorem bDt_eqv {es : List Int} (hn : es.Nodup) {a b : Bd} (wa : Wf es a) (wb : Wf es b) : PyData.eqv (bDt es a) (bDt es b) = decide (a = b) := by
  unfold bDt
  rw [tup_eqv, decide_eq_decide]
  exact ⟨tt_inj hn wa wb, fun h => by rw [h]⟩
theorem bDts_shaped (es : List Int) (as : List Bd) : SeqAt.shaped (.list (as.map (bDt es))) = true := by
  have e1 : PyData.canLayAll0 (as.map (bDt es)) = true := by
    induction as with
    | nil => rfl
    | cons x xs ih =>
      rw [List.map_cons]
      unfold PyData.canLayAll0
      rw [ih, Bool.and_true]
      have := SeqAt.canLay_of_shaped (tup_shaped (tt es x))
      exact this
  have e2 : PyData.depthAll (as.map (bDt es)) ≤ 1 := by
    clear e1
    induction as with
    | nil => exact Nat.zero_le _
    | cons x xs ih =>
      rw [List.map_cons]
      unfold PyData.depthAll
      refine Nat.max_le.mpr ⟨?_, ih⟩
      unfold bDt PyData.depth
      have : PyData.depthAll ((tt es x).map PyData.bool) = 0 := by
        induction tt es x with
        | nil => rfl
        | cons b bs ih =>
          rw [List.map_cons]
          unfold PyData.depthAll
          rw [ih]
          rfl
      omega
  unfold SeqAt.shaped
  rw [Bool.and_eq_true]
  refine ⟨by unfold PyData.canLay0; exact e1, decide_eq_true ?_⟩
  unfold PyData.depth
  omega
theorem any_eqv {es : List Int} (hn : es.Nodup) {a : Bd} (wa : Wf es a) : ∀ {as : List Bd}, (∀ b ∈ as, Wf es b) → ((as.map (bDt es)).any fun z => PyData.eqv z (bDt es a)) = decide (a ∈ as)
  | [], _ => rfl
  | b :: as, h => by
    rw [List.map_cons, List.any_cons, any_eqv hn wa fun c hc => h c (List.mem_cons_of_mem _ hc), bDt_eqv hn (h b List.mem_cons_self) wa]
    by_cases e : b = a
    · subst e
      rw [decide_eq_true rfl, Bool.true_or]
      exact (decide_eq_true List.mem_cons_self).symm
    · rw [decide_eq_false e, Bool.false_or, decide_eq_decide, List.mem_cons]
      exact ⟨.inr, fun z => z.elim (fun z => absurd z.symm e) id⟩
/-- a list of truth tables -/
def TtL (K : PySem.W.Frag) (H : Hp) (p : Addr) (es : List Int) (as : List Bd) : Prop := ∃ vs, H p = some (.lst vs) ∧ DpAll K H vs (as.map (bDt es))
theorem TtL.ext {K : PySem.W.Frag} {H H' : Hp} {p : Addr} {es : List Int} {as : List Bd} (e : Same H H') (h : TtL K H p es as) : TtL K H' p es as := by
  obtain ⟨vs, h1, h2⟩ := h
  exact ⟨vs, e _ _ h1, DpAll.ext e _ _ h2⟩
theorem TtL.dp {K : PySem.W.Frag} {H : Hp} {p : Addr} {es : List Int} {as : List Bd} (h : TtL K H p es as) : Dp K H (.ref p) (.list (as.map (bDt es))) := by
  obtain ⟨vs, h1, h2⟩ := h
  exact .lst (.of h1) h2
theorem TtL.get {K : PySem.W.Frag} {H : Hp} {p : Addr} {es : List Int} {as : List Bd} (h : TtL K H p es as) : ∃ vs, H p = some (.lst vs) ∧ vs.length = as.length ∧ ∀ (i : Nat) v, vs[i]? = some v → ∃ q a, v = .ref q ∧ as[i]? = some a ∧ SqT K H q ((tt es a).map V.bl) := by
  obtain ⟨vs, h1, h2⟩ := h
  have hl : vs.length = as.length := by rw [DpAll.len h2, List.length_map]
  refine ⟨vs, h1, hl, fun i v hv => ?_⟩
  have hi : i < as.length := by rw [← hl]; exact (List.getElem?_eq_some_iff.mp hv).1
  obtain ⟨u, hu, hd⟩ := DpAll.get h2 (show (as.map (bDt es))[i]? = some (bDt es as[i]) by rw [List.getElem?_map, List.getElem?_eq_getElem hi]; rfl)
  have e : u = v := Option.some.inj (hu.symm.trans hv)
  subst e
  obtain ⟨q, xs, rfl, hs, hx⟩ := dp_tup hd
  refine ⟨q, as[i], rfl, List.getElem?_eq_getElem hi, ?_⟩
  have : xs = (tt es as[i]).map V.bl := by
    generalize tt es as[i] = l at hx
    clear hu hv hd hs
    induction l generalizing xs with
    | nil => cases hx; rfl
    | cons b l ih =>
      rw [List.map_cons] at hx
      cases hx with
      | cons h1 h2 =>
        cases h1
        rw [List.map_cons, ih _ h2]
  rw [this] at hs
  exact hs
theorem TtL.snoc {K : PySem.W.Frag} {H : Hp} {p q : Addr} {es : List Int} {as : List Bd} {a : Bd} {vs : List V} (h : TtL K H p es as) (e : H p = some (.lst vs)) (hq : SqT K H q ((tt es a).map V.bl)) : TtL K (upd H p (.lst (vs ++ [.ref q]))) p es (as ++ [a]) := by
  obtain ⟨vs', h1, h2⟩ := h
  have ev : vs' = vs := by rw [h1] at e; exact HO.lst.inj (Option.some.inj e)
  subst ev
  refine ⟨_, upd_same, ?_⟩
  rw [List.map_append]
  exact DpAll.snoc (DpAll.away h1 _ _ (bDt_only es as) h2) (Dp.away h1 _ _ (bDt_1 es a) (dp_tt hq))
theorem fixL_len (l : List Bool) (k : Nat) (b : Bool) : (fixL l k b).length = l.length := by unfold fixL; rw [List.length_map, List.length_range]
def bI (b : Bool) : Int := if b = true then 1 else 0
def sp_truth (K : PySem.W.Frag) (n : Nat) : Sp := fun vs H Q _ => ∃ v ea es t, vs = [v, .ref ea] ∧ Dp K H v (Tr.d t) ∧ H ea = some (.lst (es.map V.int)) ∧ es.length ≤ 10 ∧ Tr.ht t < n ∧ ∀ H' p, Same H H' → H' p = some (.tup ((tru es t).map V.bl)) → Q (.ref p) H'
def sp_fixed (K : PySem.W.Frag) : Sp := fun vs H Q _ => ∃ p, ∃ l : List Bool, ∃ k b n, vs = [.ref p, .int ((k : Nat) : Int), .int (bI b)] ∧ SqT K H p (l.map V.bl) ∧ l.length = 2 ^ n ∧ k < n ∧ n ≤ 10 ∧ ∀ H' q, Same H H' → H' q = some (.tup ((fixL l k b).map V.bl)) → Q (.ref q) H'
def topV (es : List Int) : Bd → V
  | .lf _ => .non
  | .nd e _ _ => .int ((es.idxOf e : Nat) : Int)
def sp_ltop (K : PySem.W.Frag) : Sp := fun vs H Q _ => ∃ p es a, vs = [.ref p, .int ((es.length : Nat) : Int)] ∧ SqT K H p ((tt es a).map V.bl) ∧ Wf es a ∧ es.Nodup ∧ es.length ≤ 10 ∧ ∀ H', Same H H' → Q (topV es a) H'
theorem hu65 {k : Nat} {A : Around} (hr : Room k A) : A.units + 65 < cLine := by have := hr.un; omega
theorem inDK {X : Cx} (K : PySem.W.Frag) (hu : X.A.units + 65 < cLine) (h : X.K = K := by rfl) : OpR X (compareOp .In) (rInD K) := by subst h; exact op_inD hu
theorem notInDK {X : Cx} (K : PySem.W.Frag) (hu : X.A.units + 65 < cLine) (h : X.K = K := by rfl) : OpR X (compareOp .NotIn) (rNotInD K) := by subst h; exact op_notInD hu
theorem indexDK {X : Cx} (K : PySem.W.Frag) (hu : X.A.units + 65 < cLine) (h : X.K = K := by rfl) : MtR X "list.index" (rIndexD K) := by subst h; exact mt_indexD hu
theorem tIf_val {c : Bool} {ta tb : TE} {σ : L2.St} {H : Hp} {Q : VK} {v : V} (h1 : c = true → ∀ Q : VK, Q v H → ta σ H Q) (h2 : c = false → ∀ Q : VK, Q v H → tb σ H Q) (q : Q v H) : if c = true then ta σ H Q else tb σ H Q := by
  cases c with
  | true => exact iteT (h1 rfl Q q)
  | false => exact iteF (h2 rfl Q q)
section
variable {P : Program} {w : World} {K : PySem.W.Frag} {mg : Str → Option Value} {base : Heap}
theorem ok_truth (n : Nat) {f : Addr} {fd : FuncData} (F : Fun K "_law_truth" "_law_truth" s__law_truth f fd) (M : Mg mg) (c__law_subsets : Cl P w K mg base 1 "_law_subsets" sp_subs) (c__law_true : Cl P w K mg base (n + 1) "_law_true" (sp_true K n)) : FnOk P w K mg base CX0 (n + 2) f fd ["tree", "entries"] (sp_truth K n) := by
  refine F.ok sc__law_truth (fun vs H Q E h => ?_) (fun cdv A outer s H vs Q E hr h => ?_)
  · obtain ⟨v, ea, es, t, rfl, _⟩ := h
    rfl
  · obtain ⟨v, ea, es, t, rfl, dp, he, hl, hn, q⟩ := h
    refine ⟨_, (pss_one (ps_ret (pe_callTy (tupleK K) (by rfl) M.tuple (by decide +kernel) (pa_cons (pe_lc (own := [("part", 2)]) (g := gName 2) (tt := tYes) rfl sc__law_truth.nd (pi_list (pe_u c__law_subsets hr (by first | decide | omega) (by rfl) (pa_cons (pv 1) pa_nil))) (blkOk_by (N := N__law_truth) (sc := defScope s__law_truth) (by decide +kernel)) (fun _ _ _ _ _ => (pg_name (i := 2) sc__law_truth.nd rfl (.inl rfl))) (fun _ _ _ _ _ => pts_nil) (fun _ _ _ _ _ => (pe_u c__law_true hr (by first | decide | omega) (by rfl) (pa_cons (pv 0) (pa_cons (pv 2) pa_nil))))) pa_nil)))), ?_⟩
    refine ⟨_, rfl, ea, es, rfl, he, hl, fun Hs sp ss nsp ll => ?_⟩
    obtain ⟨as, l1', l2', l3'⟩ := ll.get
    refine ⟨sp, rfl, ⟨_, .of l1'⟩, fun D nD => ?_⟩
    have lsub : (subs es).length ≤ 1024 := by
      rw [subs_len]
      exact Nat.le_trans (Nat.pow_le_pow_right (by decide) hl) (by decide)
    refine lc_list (K := K) (a := sp) (xs := as.map V.ref) (fun j Hj => Same Hs Hj ∧ Hj D = some (.lst ((((subs es).take j).map fun p => t.ev fun e => decide (e ∈ p)).map V.bl))) ⟨same_upd nD, upd_same⟩ (fun j Hj _ hp => .of (hp.1 _ _ l1')) (fun j y Hj hy hp => ?_) (fun Hm hp => ?_)
    · obtain ⟨sj, eD⟩ := hp
      obtain ⟨b, l, rfl, hl2, hb⟩ := l3' j y hy
      have hj : j < (subs es).length := (List.getElem?_eq_some_iff.mp hl2).1
      refine ⟨rfl, ?_⟩
      refine ⟨_, rfl, _, rfl, v, b, t, l, rfl, Dp.ext (ss.trans sj) _ _ dp, .of (sj _ _ hb), hn, ?_⟩
      refine ⟨_, eD, ?_, ?_, ?_⟩
      · rw [List.length_map, List.length_map, List.length_take]
        exact Nat.lt_of_le_of_lt (m := 1024) (by omega) (by decide)
      · intro z o e
        rw [upd_ne (ne_of_none e nD)]
        exact sj _ _ e
      · rw [upd_same, List.take_add_one, hl2, List.map_append, List.map_append]
        rfl
    · obtain ⟨sm, eD⟩ := hp
      rw [List.length_map, l2', List.take_of_length_le (Nat.le_refl _)] at eD
      refine ⟨D, _, rfl, .inl ⟨.of eD, fun T nT => ?_⟩⟩
      exact q _ T ((ss.trans sm).trans (same_upd nT)) upd_same
theorem ok_fixed {f : Addr} {fd : FuncData} (F : Fun K "_law_fixed" "_law_fixed" s__law_fixed f fd) (M : Mg mg) : FnOk P w K mg base CX0 1 f fd ["truth", "k", "there"] (sp_fixed K) := by
  refine F.ok sc__law_fixed (fun vs H Q E h => ?_) (fun cdv A outer s H vs Q E hr h => ?_)
  · obtain ⟨p, l, k, b, n, rfl, _⟩ := h
    rfl
  · obtain ⟨p, l, k, b, n, rfl, hp, hl, hk, hn, q⟩ := h
    have p10 : ∀ {j : Nat}, j ≤ 10 → 2 ^ j ≤ 1024 := fun {j} h => Nat.le_trans (Nat.pow_le_pow_right (by decide) h) (by decide)
    have hl2 : l.length ≤ 1024 := by rw [hl]; exact p10 hn
    have hk2 := p10 (show k ≤ 10 by omega)
    have hb : 0 ≤ bI b ∧ bI b ≤ 1 := by cases b <;> decide
    refine ⟨_, (pss_cons (ps_set (i := 3) sc__law_fixed.nd rfl (.inl rfl) pe_int)
      (pss_cons (ps_for PassesOwn.never rfl (pi_range1 (by rfl) M.range (pa_cons (pv 1) pa_nil)) (pg_name (i := 4) sc__law_fixed.nd rfl (.inl rfl)) (pss_one (ps_set (i := 3) sc__law_fixed.nd rfl (.inl rfl) (pe_op op_mul (pv 3) pe_int))))
      (pss_cons (ps_set (i := 5) sc__law_fixed.nd rfl (.inl rfl) (pe_lst pa_nil))
      (pss_cons (ps_for PassesOwn.never rfl (pi_range1 (by rfl) M.range (pa_cons (pe_callB (len_seqK K) (by rfl) M.len PySem.boot_len (pa_cons (pv 0) pa_nil)) pa_nil)) (pg_name (i := 6) sc__law_fixed.nd rfl (.inl rfl)) (pss_cons (ps_set (i := 7) sc__law_fixed.nd rfl (.inl rfl) (pe_ifExp (pt_cmpR op_eq (pe_op op_mod (pe_op op_fdivW (pv 6) (pv 3)) pe_int) pe_int (nomark _)) (pe_op op_sub (pv 6) (pv 3)) (pv 6)))
      (pss_one (ps_expr (pe_bmK K PySem.F.plainAttrs_list PySem.F.slot_list_append PySem.F.type_list_append mt_append (pv 5) (pa_cons (pe_ix (ix_tupK K) (pv 0) (pe_op op_add (pv 7) (pe_op op_mul (pv 3) (pv 2))) (fun _ _ => rfl)) pa_nil))))))
      (pss_one (ps_ret (pe_callTy (tupleK K) (by rfl) M.tuple (by decide +kernel) (pa_cons (pv 5) pa_nil)))))))), ?_⟩
    refine ⟨_, rfl, _, rfl, by omega, by omega, ?_⟩
    refine for_range (lo := 0) (n := ((k : Nat) : Int).toNat) (fun i σ Hi => Hi = H ∧ ∃ z, σ = [some (.ref p), some (.int ((k : Nat) : Int)), some (.int (bI b)), some (.int ((2 ^ i : Nat) : Int)), z, none, none, none]) ⟨rfl, _, rfl⟩ (fun i σ Hi hi hp' => ?_) (fun σ Hn hp' => ?_)
    · obtain ⟨rfl, z, rfl⟩ := hp'
      have hi2 := p10 (show i ≤ 10 by omega)
      refine ⟨_, rfl, _, _, rfl, rfl, .inr ⟨by decide, by decide⟩, rfl, some (.int (0 + (i : Int))), ?_⟩
      rw [Nat.pow_succ]
      rfl
    · obtain ⟨rfl, z, rfl⟩ := hp'
      rw [Int.toNat_natCast]
      refine ⟨by show 0 ≤ sizeLine; decide, fun D nD => ?_⟩
      refine ⟨_, rfl, p, _, rfl, .inr (SqT.ext (same_upd nD) hp), ?_⟩
      rw [List.length_map]
      refine ⟨_, rfl, by omega, by omega, ?_⟩
      refine for_range (lo := 0) (n := ((l.length : Nat) : Int).toNat) (fun i σ Hi => Same Hn Hi ∧ (∃ z5 z6 z7, σ = [some (.ref p), some (.int ((k : Nat) : Int)), some (.int (bI b)), some (.int ((2 ^ k : Nat) : Int)), z5, some (.ref D), z6, z7]) ∧ Hi D = some (.lst (((fixL l k b).take i).map V.bl))) ⟨same_upd nD, ⟨_, _, _, rfl⟩, upd_same⟩ (fun i σ Hi hi hp' => ?_) (fun σ Hm hp' => ?_)
      · obtain ⟨si, ⟨z5, z6, z7, rfl⟩, eD⟩ := hp'
        have hi : i < l.length := by omega
        have h2k : 0 < 2 ^ k := Nat.two_pow_pos k
        have hdv : CDivW ((0 : Int) + (i : Int)) ((2 ^ k : Nat) : Int) := wide_div (b := 64) (by omega) (by omega) (by decide) (by decide)
        have ebit : decide (V.int (((0 : Int) + (i : Int)) / ((2 ^ k : Nat) : Int) % 2) = V.int 1) = i.testBit k := by
          rw [Int.zero_add, Nat.testBit_eq_decide_div_mod_eq, decide_eq_decide, ← Int.natCast_ediv]
          constructor
          · intro z
            have := V.int.inj z
            omega
          · intro z
            refine congrArg V.int ?_
            omega
        have hsub : i.testBit k = true → 2 ^ k ≤ i := fun h => Nat.ge_two_pow_of_testBit h
        refine ⟨_, rfl, _, rfl, _, _, rfl, rfl, hdv, _, _, rfl, rfl, by show (0 : Int) < 2; decide, rfl, _, rfl, ?_⟩
        dsimp only
        rw [ebit]
        refine tIf_val (v := .int (((if i.testBit k = true then i - 2 ^ k else i) : Nat) : Int)) (fun e Q q => ⟨_, rfl, _, rfl, _, _, rfl, rfl, ?_⟩) (fun e Q q => ⟨_, rfl, ?_⟩) ?_
        · have := hsub e
          rw [e, if_pos rfl] at q
          dsimp only
          rw [show (0 : Int) + (i : Int) - ((2 ^ k : Nat) : Int) = ((i - 2 ^ k : Nat) : Int) by omega]
          exact q
        · rw [e, if_neg Bool.false_ne_true] at q
          rw [Int.zero_add]
          exact q
        have hf : fxI k b i < l.length := by rw [hl] at hi ⊢; exact fxI_lt hk hi
        have eix : (((if i.testBit k = true then i - 2 ^ k else i) : Nat) : Int) + ((2 ^ k : Nat) : Int) * bI b = ((fxI k b i : Nat) : Int) := by
          unfold fxI bI
          cases b
          · rw [if_neg Bool.false_ne_true, if_neg Bool.false_ne_true, Int.mul_zero]
            omega
          · rw [if_pos rfl, if_pos rfl, Int.mul_one]
            omega
        refine ⟨_, rfl, .inl ⟨rfl, _, .inl (.inl eD)⟩, _, rfl, _, rfl, _, rfl, _, rfl, _, _, rfl, rfl, .inl ⟨by omega, by omega⟩, _, _, rfl, rfl, ?_⟩
        dsimp only
        rw [eix]
        refine ⟨p, _, _, .bl (l.getD (fxI k b i) false), rfl, rfl, SqT.ext si hp, atI_nat (by rw [List.getElem?_map, List.getElem?_eq_getElem hf, List.getD_eq_getElem?_getD, List.getElem?_eq_getElem hf]; rfl), ?_⟩
        refine ⟨D, _, _, rfl, rfl, eD, ?_, ?_, ⟨_, _, _, rfl⟩, ?_⟩
        · rw [List.length_map, List.length_take]
          exact Nat.lt_of_le_of_lt (m := 1024) (by omega) (by decide)
        · intro z o e
          rw [upd_ne (ne_of_none e nD)]
          exact si _ _ e
        · have hg : (fixL l k b)[i]? = some (l.getD (fxI k b i) false) := by
            unfold fixL
            rw [List.getElem?_map, List.getElem?_range hi]
            rfl
          rw [upd_same, List.take_add_one, hg, List.map_append]
          rfl
      · obtain ⟨sm, ⟨z5, z6, z7, rfl⟩, eD⟩ := hp'
        rw [Int.toNat_natCast, ← fixL_len l k b, List.take_of_length_le (Nat.le_refl _)] at eD
        refine ⟨_, rfl, D, _, rfl, .inl ⟨.of eD, fun T nT => ?_⟩⟩
        exact q _ T (sm.trans (same_upd nT)) upd_same
end

theorem idx_ne : ∀ {l : List Bd} {m : Nat} {b a : Bd}, l[m]? = some b → m < l.idxOf a → b ≠ a
  | [], _, _, _, h, _ => by simp at h
  | x :: l, 0, b, a, h, hm => by
    have : x = b := Option.some.inj h
    subst this
    intro z
    subst z
    rw [List.idxOf_cons_self] at hm
    omega
  | x :: l, m + 1, b, a, h, hm => by
    have h : l[m]? = some b := by simpa using h
    by_cases e : x = a
    · subst e
      rw [List.idxOf_cons_self] at hm
      omega
    · have e1 : (x :: l).idxOf a = l.idxOf a + 1 := by rw [List.idxOf_cons, beq_false_of_ne e]; rfl
      exact idx_ne h (by omega)
def sp_lnum (K : PySem.W.Frag) : Sp := fun vs H Q _ => ∃ p kp es acc a, vs = [.ref p, .ref kp] ∧ SqT K H p ((tt es a).map V.bl) ∧ TtL K H kp es acc ∧ es.Nodup ∧ Wf es a ∧ (∀ b ∈ acc, Wf es b ∧ ∃ e w t, b = .nd e w t) ∧ knw acc a = true ∧ ∀ H', Same H H' → Q (.int ((nmb acc a : Nat) : Int)) H'
def sp_llis (K : PySem.W.Frag) (n : Nat) : Sp := fun vs H Q _ => ∃ p ea kp es acc a, vs = [.ref p, .ref ea, .ref kp] ∧ SqT K H p ((tt es a).map V.bl) ∧ H ea = some (.lst (es.map V.int)) ∧ TtL K H kp es acc ∧ es.Nodup ∧ es.length ≤ 10 ∧ Wf es a ∧ a.ht < n ∧ (∀ b ∈ acc, Wf es b) ∧ acc.length + a.sz ≤ 100000 ∧ ∀ H' kp', Same H H' → TtL K H' kp' es (post acc a) → Q (.ref kp') H'
theorem nd_ex {a : Bd} (h : ∀ b, a ≠ .lf b) : ∃ e w t, a = .nd e w t := by
  cases a with
  | lf b => exact absurd rfl (h b)
  | nd e w t => exact ⟨e, w, t, rfl⟩
theorem post_wf {es : List Int} : ∀ (a : Bd) (acc : List Bd), Wf es a → (∀ b ∈ acc, Wf es b) → ∀ b ∈ post acc a, Wf es b
  | .lf _, _, _, h => h
  | .nd e w t, acc, hw, h => by
    obtain ⟨w1, w2⟩ := wf_kids hw
    unfold post
    split
    · exact h
    · intro b hb
      rcases List.mem_append.mp hb with hb | hb
      · exact post_wf t _ w2 (post_wf w acc w1 h) b hb
      · rw [List.mem_singleton.mp hb]
        exact hw
theorem post_nds : ∀ (a : Bd) (acc : List Bd), (∀ b ∈ acc, ∃ e w t, b = Bd.nd e w t) → ∀ b ∈ post acc a, ∃ e w t, b = Bd.nd e w t
  | .lf _, _, h => h
  | .nd e w t, acc, h => by
    unfold post
    split
    · exact h
    · intro b hb
      rcases List.mem_append.mp hb with hb | hb
      · exact post_nds t _ (post_nds w acc h) b hb
      · rw [List.mem_singleton.mp hb]
        exact ⟨_, _, _, rfl⟩
theorem ht_le {es : List Int} {a : Bd} (h : Wf es a) : a.ht ≤ es.length := by
  induction h with
  | lf => exact Nat.zero_le _
  | here _ _ _ iw it => exact Nat.succ_le_succ (Nat.max_le.mpr ⟨iw, it⟩)
  | skip _ ih => exact Nat.le_succ_of_le ih
section
variable {P : Program} {w : World} {K : PySem.W.Frag} {mg : Str → Option Value} {base : Heap}
theorem ok_ltop {f : Addr} {fd : FuncData} (F : Fun K "_law_top" "_law_top" s__law_top f fd) (M : Mg mg) (c__law_fixed : Cl P w K mg base 1 "_law_fixed" (sp_fixed K)) : FnOk P w K mg base CX0 2 f fd ["truth", "count"] (sp_ltop K) := by
  refine F.ok sc__law_top (fun vs H Q E h => ?_) (fun cdv A outer s H vs Q E hr h => ?_)
  · obtain ⟨p, es, a, rfl, _⟩ := h
    rfl
  · obtain ⟨p, es, a, rfl, hp, wa, hn, hl, q⟩ := h
    refine ⟨_, (pss_cons (ps_for PassesOwn.never rfl (pi_range1 (by rfl) M.range (pa_cons (pv 1) pa_nil)) (pg_name (i := 2) sc__law_top.nd rfl (.inl rfl)) (pss_one (ps_if (pt_cmpR (neDK K hr.units) (pe_u c__law_fixed hr (by first | decide | omega) (by rfl) (pa_cons (pv 0) (pa_cons (pv 2) (pa_cons pe_int pa_nil)))) (pe_u c__law_fixed hr (by first | decide | omega) (by rfl) (pa_cons (pv 0) (pa_cons (pv 2) (pa_cons pe_int pa_nil)))) (nomark _)) (pss_one (ps_ret (pv 2))) pss_nil)))
      (pss_one (ps_ret pe_non))), ?_⟩
    refine ⟨_, rfl, _, rfl, by omega, by omega, ?_⟩
    refine for_range (lo := 0) (n := ((es.length : Nat) : Int).toNat) (fun i σ Hi => Same H Hi ∧ (∃ z, σ = [some (.ref p), some (.int ((es.length : Nat) : Int)), z]) ∧ ∀ e w t, a = .nd e w t → i ≤ es.idxOf e) ⟨fun _ _ h => h, ⟨_, rfl⟩, fun _ _ _ _ => Nat.zero_le _⟩ (fun i σ Hi hi hp' => ?_) (fun σ Hn hp' => ?_)
    · obtain ⟨si, ⟨z, rfl⟩, hx⟩ := hp'
      have hi : i < es.length := by omega
      rw [Int.zero_add]
      refine ⟨_, rfl, _, rfl, p, _, i, false, es.length, rfl, SqT.ext si hp, tt_len es a, hi, hl, fun H1 q1 s1 e1 => ?_⟩
      refine ⟨_, rfl, _, rfl, p, _, i, true, es.length, rfl, SqT.ext (si.trans s1) hp, tt_len es a, hi, hl, fun H2 q2 s2 e2 => ?_⟩
      refine ⟨_, _, dp_tt (.of (s2 _ _ e1)), dp_tt (.of e2), tup_shaped _, tup_shaped _, _, rfl, ?_⟩
      rw [tup_eqv]
      have s02 := (si.trans s1).trans s2
      cases a with
      | lf v =>
        rw [fix_lf hn hi, fix_lf hn hi, decide_eq_true rfl]
        exact iteF ⟨s02, ⟨_, rfl⟩, fun _ _ _ h => nomatch h⟩
      | nd e w t =>
        obtain ⟨t1, t2, t3, t4, t5, t6⟩ := fix_top hn wa
        have hx := hx e w t rfl
        by_cases hie : i = es.idxOf e
        · subst hie
          rw [t1, t2, decide_eq_false t3]
          refine iteT ⟨_, rfl, ?_⟩
          exact q H2 s02
        · have hlt : i < es.idxOf e := by omega
          rw [t6 i hlt, t6 i hlt, decide_eq_true rfl]
          refine iteF ⟨s02, ⟨_, rfl⟩, fun e' w' t' h => ?_⟩
          cases h
          exact hlt
    · obtain ⟨sn, ⟨z, rfl⟩, hx⟩ := hp'
      cases a with
      | lf v => exact q Hn sn
      | nd e w t =>
        have h1 := hx e w t rfl
        obtain ⟨_, _, _, t4, _⟩ := fix_top hn wa
        omega
theorem ok_lnum {f : Addr} {fd : FuncData} (F : Fun K "_law_number" "_law_number" s__law_number f fd) (M : Mg mg) : FnOk P w K mg base CX0 1 f fd ["truth", "known"] (sp_lnum K) := by
  refine F.ok sc__law_number (fun vs H Q E h => ?_) (fun cdv A outer s H vs Q E hr h => ?_)
  · obtain ⟨p, kp, es, acc, a, rfl, _⟩ := h
    rfl
  · obtain ⟨p, kp, es, acc, a, rfl, hp, tl, hn, wa, hacc, hk, q⟩ := h
    have hwf : ∀ b ∈ acc, Wf es b := fun b hb => (hacc b hb).1
    refine ⟨_, (pss_cons (ps_if (pt_cmpR (inDK K (hu65 hr)) (pv 0) (pv 1) (by rfl)) (pss_one (ps_ret (pe_op op_add (pe_bmK K PySem.F.plainAttrs_list PySem.F.slot_list_index PySem.F.type_list_index (indexDK K (hu65 hr)) (pv 1) (pa_cons (pv 0) pa_nil)) pe_int))) pss_nil)
      (pss_one (ps_ret (pe_callTy call_int1 (by rfl) M.int (by decide +kernel) (pa_cons (pe_ix (ix_tupK K) (pv 0) pe_int (fun _ _ => rfl)) pa_nil))))), ?_⟩
    refine ⟨_, rfl, _, rfl, bDt es a, _, dp_tt hp, tl.dp, tup_shaped _, bDts_shaped es acc, _, rfl, ?_⟩
    rw [any_eqv hn wa hwf]
    by_cases hm : a ∈ acc
    · rw [decide_eq_true hm]
      refine iteT ?_
      have hj := List.idxOf_lt_length_of_mem hm
      obtain ⟨vs, ev, _⟩ := id tl
      refine ⟨_, rfl, .inl ⟨rfl, _, .inl (.inl ev)⟩, _, rfl, kp, _, bDt es a, acc.map (bDt es), acc.idxOf a, bDt es a, rfl, rfl, tl.dp, dp_tt hp, bDts_shaped es acc, tup_shaped _, ?_, ?_, fun m z' hm' hz => ?_, ?_⟩
      · rw [List.getElem?_map, List.getElem?_eq_getElem hj, List.getElem_idxOf hj]
        rfl
      · rw [bDt_eqv hn wa wa]
        exact decide_eq_true rfl
      · rw [List.getElem?_map] at hz
        obtain ⟨b, hb, rfl⟩ := Option.map_eq_some_iff.mp hz
        rw [bDt_eqv hn (hwf b (List.mem_of_getElem? hb)) wa]
        refine decide_eq_false fun e => ?_
        subst e
        exact idx_ne hb hm' rfl
      · obtain ⟨e, w, t, rfl⟩ := (hacc a hm).2
        exact ⟨_, _, rfl, rfl, q H fun _ _ h => h⟩
    · rw [decide_eq_false hm]
      refine iteF ?_
      cases a with
      | nd e w t => exact absurd (knw_nd.mp hk) hm
      | lf v =>
        have h0 : (tt es (.lf v))[0]? = some v := by
          have : 0 < (subs es).length := by rw [subs_len]; exact Nat.two_pow_pos _
          rw [tt_get (List.getElem?_eq_getElem this)]
          rfl
        refine ⟨_, rfl, p, _, _, .bl v, rfl, rfl, hp, atI_nat (j := 0) (by rw [List.getElem?_map, h0]; rfl), .inr ⟨v, rfl, ?_⟩⟩
        have := q H fun _ _ h => h
        cases v <;> exact this
theorem ok_llis (n : Nat) {f : Addr} {fd : FuncData} (F : Fun K "_law_listed" "_law_listed" s__law_listed f fd) (M : Mg mg) (c__law_fixed : Cl P w K mg base 1 "_law_fixed" (sp_fixed K)) (c__law_top : Cl P w K mg base 2 "_law_top" (sp_ltop K)) (c__law_listed : Cl P w K mg base (n + 2) "_law_listed" (sp_llis K n)) : FnOk P w K mg base CX0 (n + 3) f fd ["truth", "entries", "known"] (sp_llis K (n + 1)) := by
  refine F.ok sc__law_listed (fun vs H Q E h => ?_) (fun cdv A outer s H vs Q E hr h => ?_)
  · obtain ⟨p, ea, kp, es, acc, a, rfl, _⟩ := h
    rfl
  · obtain ⟨p, ea, kp, es, acc, a, rfl, hp, he, tl, hn, hl, wa, hht, hwf, hsz, q⟩ := h
    refine ⟨_, (pss_cons (ps_set (i := 3) sc__law_listed.nd rfl (.inl rfl) (pe_u c__law_top hr (by first | decide | omega) (by rfl) (pa_cons (pv 0) (pa_cons (pe_callB (len_seqK K) (by rfl) M.len PySem.boot_len (pa_cons (pv 1) pa_nil)) pa_nil))))
      (pss_cons (ps_if (PW.pt (pw_or (pt_cmpR op_isN (pv 3) pe_non (nomark _)) (pw_or1 (pt_cmpR (inDK K (hu65 hr)) (pv 0) (pv 2) (by rfl))))) (pss_one (ps_ret (pv 2))) pss_nil)
      (pss_cons (ps_set (i := 2) sc__law_listed.nd rfl (.inl rfl) (pe_u c__law_listed hr (by first | decide | omega) (by rfl) (pa_cons (pe_u c__law_fixed hr (by first | decide | omega) (by rfl) (pa_cons (pv 0) (pa_cons (pv 3) (pa_cons pe_int pa_nil)))) (pa_cons (pv 1) (pa_cons (pv 2) pa_nil)))))
      (pss_cons (ps_set (i := 2) sc__law_listed.nd rfl (.inl rfl) (pe_u c__law_listed hr (by first | decide | omega) (by rfl) (pa_cons (pe_u c__law_fixed hr (by first | decide | omega) (by rfl) (pa_cons (pv 0) (pa_cons (pv 3) (pa_cons pe_int pa_nil)))) (pa_cons (pv 1) (pa_cons (pv 2) pa_nil)))))
      (pss_one (ps_ret (pe_op op_cat (pv 2) (pe_lst (pa_cons (pv 0) pa_nil))))))))), ?_⟩
    refine ⟨_, rfl, _, rfl, ea, _, rfl, .inl (.of he), ?_⟩
    rw [List.length_map]
    refine ⟨p, es, a, rfl, hp, wa, hn, hl, fun H1 s1 => ?_⟩
    have tl1 := tl.ext s1
    have hp1 := SqT.ext s1 hp
    have he1 := s1 _ _ he
    cases a with
    | lf v => exact ⟨_, rfl, rfl, _, rfl, iteT (iteT ⟨_, rfl, q H1 kp s1 tl1⟩)⟩
    | nd e w t =>
      obtain ⟨w1, w2⟩ := wf_kids wa
      obtain ⟨t1, t2, t3, t4, t5, t6⟩ := fix_top hn wa
      have hht : max w.ht t.ht + 1 < n + 1 := hht
      have hsz : acc.length + (w.sz + t.sz + 1) ≤ 100000 := hsz
      refine ⟨_, rfl, rfl, _, rfl, ?_⟩
      rw [show decide (topV es (.nd e w t) = V.non) = false from decide_eq_false (fun z => nomatch z)]
      refine iteF ⟨_, rfl, _, rfl, bDt es (.nd e w t), _, dp_tt hp1, tl1.dp, tup_shaped _, bDts_shaped es acc, _, rfl, ?_⟩
      rw [any_eqv hn wa hwf]
      by_cases hm : Bd.nd e w t ∈ acc
      · rw [decide_eq_true hm]
        refine iteT ⟨_, rfl, q H1 kp s1 ?_⟩
        rw [post_knw (knw_nd.mpr hm)]
        exact tl1
      · rw [decide_eq_false hm]
        refine iteF ?_
        refine ⟨_, rfl, _, rfl, p, _, es.idxOf e, false, es.length, rfl, hp1, tt_len es _, t4, hl, fun H2 q2 s2 e2 => ?_⟩
        rw [t1] at e2
        refine ⟨_, rfl, _, rfl, q2, ea, kp, es, acc, w, rfl, .of e2, s2 _ _ he1, tl1.ext s2, hn, hl, w1, by omega, hwf, by omega, fun H3 kp3 s3 tl3 => ?_⟩
        have hp3 := SqT.ext (s2.trans s3) hp1
        have hl3 := post_len w acc
        refine ⟨_, rfl, _, rfl, p, _, es.idxOf e, true, es.length, rfl, hp3, tt_len es _, t4, hl, fun H4 q4 s4 e4 => ?_⟩
        rw [t2] at e4
        refine ⟨_, rfl, _, rfl, q4, ea, kp3, es, post acc w, t, rfl, .of e4, ((s2.trans s3).trans s4) _ _ he1, tl3.ext s4, hn, hl, w2, by omega, post_wf w acc w1 hwf, by omega, fun H5 kp5 s5 tl5 => ?_⟩
        have hp5 := SqT.ext (s4.trans s5) hp3
        obtain ⟨vs, ev, lv, _⟩ := tl5.get
        have hl5 := post_len t (post acc w)
        refine ⟨_, rfl, _, rfl, by show 1 ≤ sizeLine; decide, fun o no => ?_⟩
        refine ⟨kp5, o, _, _, rfl, rfl, same_upd no _ _ ev, upd_same, ?_, fun r nr => ?_⟩
        · rw [lv]
          exact Nat.le_trans (m := 100001) (by show _ + 1 ≤ _; omega) (by decide)
        · have so := same_upd no (o := .lst [.ref p])
          have sr := same_upd nr (o := .lst (vs ++ [.ref p]))
          refine q _ r (((s1.trans ((s2.trans s3).trans s4)).trans s5).trans (so.trans sr)) ?_
          rw [post_nd hm]
          obtain ⟨vs', g1, g2⟩ := id tl5
          have : vs' = vs := by rw [ev] at g1; exact (HO.lst.inj (Option.some.inj g1)).symm
          subst this
          refine ⟨_, upd_same, ?_⟩
          rw [List.map_append]
          exact DpAll.snoc (DpAll.ext (so.trans sr) _ _ g2) (Dp.ext (so.trans sr) _ _ (dp_tt hp5))
theorem cl_llis {f : Addr} {fd : FuncData} (F : Fun K "_law_listed" "_law_listed" s__law_listed f fd) (M : Mg mg) (g : mg "_law_listed" = some (.ref f)) (b : Binds K fd ["truth", "entries", "known"] []) (c__law_fixed : Cl P w K mg base 1 "_law_fixed" (sp_fixed K)) (c__law_top : Cl P w K mg base 2 "_law_top" (sp_ltop K)) : ∀ n, Cl P w K mg base (n + 2) "_law_listed" (sp_llis K n)
  | 0 => FnOk.cl (P := P) (w := w) (base := base) (F.ok sc__law_listed (fun vs H Q E h => by obtain ⟨p, ea, kp, es, acc, a, rfl, _⟩ := h; rfl) (fun cdv A outer s H vs Q E hr h => by obtain ⟨p, ea, kp, es, acc, a, rfl, hp, he, tl, hn, hl, wa, hht, _⟩ := h; omega)) F g b
  | n + 1 => FnOk.cl (ok_llis n F M c__law_fixed c__law_top (cl_llis F M g b c__law_fixed c__law_top n)) F g b
end
/-! ### all diagrams of some conditions -/
def sp_ldia (K : PySem.W.Frag) : Sp := fun vs H Q _ => ∃ p es as, vs = [.ref p, .int ((es.length : Nat) : Int)] ∧ TtL K H p es as ∧ es.Nodup ∧ es.length ≤ 10 ∧ (∀ a ∈ as, Wf es a) ∧ as.length ≤ 100 ∧ (∀ a ∈ as, a.sz ≤ 1000) ∧ ∀ H' q fs, Same H H' → TtL K H' q es fs → fs.Nodup → (∀ x, x ∈ fs ↔ ∃ a ∈ as, x ∈ subN a) → Q (.ref q) H'
/-- the pile's weight: each diagram's nodes, twice and one more -/
def pile : List Bd → Nat
  | [] => 0
  | a :: as => 2 * a.sz + 1 + pile as
theorem pile_app : ∀ as bs : List Bd, pile (as ++ bs) = pile as + pile bs
  | [], bs => by rw [List.nil_append]; show _ = 0 + _; omega
  | a :: as, bs => by
    show 2 * a.sz + 1 + pile (as ++ bs) = 2 * a.sz + 1 + pile as + pile bs
    rw [pile_app as bs]
    omega
theorem pile_len : ∀ as : List Bd, as.length ≤ pile as
  | [] => Nat.le_refl _
  | a :: as => by
    have := pile_len as
    show _ + 1 ≤ 2 * a.sz + 1 + pile as
    omega
theorem pile_le : ∀ (as : List Bd) (b : Nat), (∀ a ∈ as, a.sz ≤ b) → pile as ≤ as.length * (2 * b + 1)
  | [], _, _ => Nat.zero_le _
  | a :: as, b, h => by
    have h1 := pile_le as b fun x hx => h x (List.mem_cons_of_mem _ hx)
    have h2 := h a List.mem_cons_self
    have h3 : (as.length + 1) * (2 * b + 1) = as.length * (2 * b + 1) + (2 * b + 1) := Nat.succ_mul _ _
    show 2 * a.sz + 1 + pile as ≤ (as.length + 1) * (2 * b + 1)
    omega
theorem sub_trans : ∀ {a x y : Bd}, x ∈ subN a → y ∈ subN x → y ∈ subN a
  | .lf _, _, _, h, _ => by cases h
  | .nd e w t, x, y, h, hy => by
    rcases List.mem_cons.mp h with rfl | h
    · exact hy
    · refine List.mem_cons_of_mem _ ?_
      rcases List.mem_append.mp h with h | h
      · exact List.mem_append_left _ (sub_trans h hy)
      · exact List.mem_append_right _ (sub_trans h hy)
theorem sub_sz : ∀ {a x : Bd}, x ∈ subN a → x.sz ≤ a.sz
  | .lf _, _, h => by cases h
  | .nd e w t, x, h => by
    show x.sz ≤ w.sz + t.sz + 1
    rcases List.mem_cons.mp h with rfl | h
    · exact Nat.le_refl _
    · rcases List.mem_append.mp h with h | h
      · have := sub_sz h; omega
      · have := sub_sz h; omega
theorem sub_nd : ∀ {a x : Bd}, x ∈ subN a → ∃ e w t, x = .nd e w t
  | .lf _, _, h => by cases h
  | .nd e w t, x, h => by
    rcases List.mem_cons.mp h with rfl | h
    · exact ⟨_, _, _, rfl⟩
    · rcases List.mem_append.mp h with h | h
      · exact sub_nd h
      · exact sub_nd h
/-- the node, then all of one side, then all of the other: what is found already is passed over -/
def pre : List Bd → Bd → List Bd
  | fs, .lf _ => fs
  | fs, .nd e w t => if Bd.nd e w t ∈ fs then fs else pre (pre (fs ++ [.nd e w t]) t) w
theorem pre_nodup : ∀ (a : Bd) (fs : List Bd), fs.Nodup → (pre fs a).Nodup
  | .lf _, _, h => h
  | .nd e w t, fs, h => by
    unfold pre
    split
    · exact h
    · rename_i hn
      refine pre_nodup w _ (pre_nodup t _ ?_)
      rw [List.nodup_append]
      refine ⟨h, List.nodup_cons.mpr ⟨List.not_mem_nil, List.nodup_nil⟩, fun x hx y hy z => ?_⟩
      rw [List.mem_singleton] at hy
      subst z hy
      exact hn hx
def ClB (fs : List Bd) (n : Nat) : Prop := ∀ b ∈ fs, b.sz ≤ n → ∀ x ∈ subN b, x ∈ fs
theorem pre_iff : ∀ (a : Bd) (fs : List Bd), ClB fs a.sz → ∀ x, x ∈ pre fs a ↔ x ∈ fs ∨ x ∈ subN a
  | .lf _, fs, _, x => ⟨.inl, fun h => h.elim id (fun z => by cases z)⟩
  | .nd e w t, fs, hc, x => by
    have hsz : (Bd.nd e w t).sz = w.sz + t.sz + 1 := rfl
    by_cases hm : Bd.nd e w t ∈ fs
    · rw [pre, if_pos hm]
      exact ⟨.inl, fun h => h.elim id (hc _ hm (Nat.le_refl _) x)⟩
    · have c1 : ClB (fs ++ [.nd e w t]) t.sz := fun b hb hs y hy => by
        rcases List.mem_append.mp hb with hb | hb
        · exact List.mem_append_left _ (hc b hb (by omega) y hy)
        · rw [List.mem_singleton] at hb
          subst hb
          omega
      have i1 := pre_iff t (fs ++ [.nd e w t]) c1
      have c2 : ClB (pre (fs ++ [.nd e w t]) t) w.sz := fun b hb hs y hy => by
        rw [i1] at hb ⊢
        rcases hb with hb | hb
        · rcases List.mem_append.mp hb with hb | hb
          · exact .inl (List.mem_append_left _ (hc b hb (by omega) y hy))
          · rw [List.mem_singleton] at hb
            subst hb
            omega
        · exact .inr (sub_trans hb hy)
      rw [pre, if_neg hm, pre_iff w _ c2, i1, List.mem_append, List.mem_singleton]
      constructor
      · rintro (((h | h) | h) | h)
        · exact .inl h
        · subst h; exact .inr List.mem_cons_self
        · exact .inr (List.mem_cons_of_mem _ (List.mem_append_right _ h))
        · exact .inr (List.mem_cons_of_mem _ (List.mem_append_left _ h))
      · rintro (h | h)
        · exact .inl (.inl (.inl h))
        · rcases List.mem_cons.mp h with h | h
          · exact .inl (.inl (.inr h))
          · rcases List.mem_append.mp h with h | h
            · exact .inr h
            · exact .inl (.inr h)
theorem pres_iff : ∀ (as fs : List Bd), (∀ n, ClB fs n) → ∀ x, x ∈ as.foldl pre fs ↔ x ∈ fs ∨ ∃ a ∈ as, x ∈ subN a
  | [], fs, _, x => ⟨.inl, fun h => h.elim id (fun ⟨a, h, _⟩ => by cases h)⟩
  | a :: as, fs, hc, x => by
    have i1 := pre_iff a fs (hc _)
    rw [List.foldl_cons, pres_iff as _ (fun n b hb hs y hy => by
      rw [i1] at hb ⊢
      rcases hb with hb | hb
      · exact .inl (hc b.sz b hb (Nat.le_refl _) y hy)
      · exact .inr (sub_trans hb hy)), i1]
    constructor
    · rintro ((h | h) | ⟨b, hb, h⟩)
      · exact .inl h
      · exact .inr ⟨a, List.mem_cons_self, h⟩
      · exact .inr ⟨b, List.mem_cons_of_mem _ hb, h⟩
    · rintro (h | ⟨b, hb, h⟩)
      · exact .inl (.inl h)
      · rcases List.mem_cons.mp hb with rfl | hb
        · exact .inl (.inr h)
        · exact .inr ⟨b, hb, h⟩
theorem pres_nodup : ∀ (as fs : List Bd), fs.Nodup → (as.foldl pre fs).Nodup
  | [], _, h => h
  | a :: as, fs, h => pres_nodup as _ (pre_nodup a fs h)
theorem pre_pre : ∀ (a : Bd) (fs : List Bd), fs <+: pre fs a
  | .lf _, fs => List.prefix_refl fs
  | .nd e w t, fs => by
    unfold pre
    split
    · exact List.prefix_refl fs
    · exact ((List.prefix_append _ _).trans (pre_pre t _)).trans (pre_pre w _)
theorem pres_pre : ∀ (as fs : List Bd), fs <+: as.foldl pre fs
  | [], fs => List.prefix_refl fs
  | a :: as, fs => (pre_pre a fs).trans (pres_pre as _)
theorem pre_len : ∀ (a : Bd) (fs : List Bd), (pre fs a).length ≤ fs.length + a.sz
  | .lf _, _ => Nat.le_refl _
  | .nd e w t, fs => by
    have h1 := pre_len t (fs ++ [.nd e w t])
    have h2 := pre_len w (pre (fs ++ [.nd e w t]) t)
    rw [List.length_append] at h1
    have h3 : ([Bd.nd e w t] : List Bd).length = 1 := rfl
    unfold pre
    show _ ≤ fs.length + (w.sz + t.sz + 1)
    split <;> omega
theorem pres_len : ∀ (as fs : List Bd), (as.foldl pre fs).length ≤ fs.length + pile as
  | [], fs => by simp [pile]
  | a :: as, fs => by
    have h1 := pre_len a fs
    have h2 := pres_len as (pre fs a)
    rw [List.foldl_cons]
    show _ ≤ fs.length + (2 * a.sz + 1 + pile as)
    omega
def LdW (K : PySem.W.Frag) (H : Hp) (es : List Int) (p fl wl : Addr) (fin : List Bd) (M0 : Nat) (m : Nat) (σ : L2.St) (Hi : Hp) : Prop :=
  ∃ fs ws z4 z5, m = pile ws ∧ pile ws ≤ M0 ∧ σ = [some (.ref p), some (.int ((es.length : Nat) : Int)), some (.ref fl), some (.ref wl), z4, z5] ∧ Same H Hi ∧ TtL K Hi fl es fs ∧ TtL K Hi wl es ws.reverse ∧ (∀ a ∈ fs, Wf es a) ∧ (∀ a ∈ ws, Wf es a) ∧ ws.foldl pre fs = fin
theorem TtL.away {K : PySem.W.Frag} {H : Hp} {p D : Addr} {es : List Int} {as : List Bd} {zs : List V} {o : HO} (h : TtL K H p es as) (hD : H D = some (.lst zs)) (n : p ≠ D) : TtL K (upd H D o) p es as := by
  obtain ⟨vs, h1, h2⟩ := h
  exact ⟨vs, by rw [upd_ne n]; exact h1, DpAll.away hD _ _ (bDt_only es as) h2⟩
theorem DpAll.last {K : PySem.W.Frag} {H : Hp} : ∀ {ds : List PyData} {vs : List V} {d : PyData}, DpAll K H vs (ds ++ [d]) → ∃ us v, vs = us ++ [v] ∧ DpAll K H us ds ∧ Dp K H v d
  | [], _, _, h => by
    cases h with
    | cons h1 h2 =>
      cases h2
      exact ⟨[], _, rfl, .nil, h1⟩
  | x :: ds, _, d, h => by
    cases h with
    | cons h1 h2 =>
      obtain ⟨us, v, rfl, g1, g2⟩ := DpAll.last h2
      exact ⟨_ :: us, v, rfl, .cons h1 g1, g2⟩
theorem tt_seq {K : PySem.W.Frag} {H : Hp} {v : V} {es : List Int} {a : Bd} (h : Dp K H v (bDt es a)) : ∃ q, v = .ref q ∧ SqT K H q ((tt es a).map V.bl) := by
  obtain ⟨q, xs, rfl, hs, hx⟩ := dp_tup h
  refine ⟨q, rfl, ?_⟩
  have : xs = (tt es a).map V.bl := by
    generalize tt es a = l at hx
    clear hs h
    induction l generalizing xs with
    | nil => cases hx; rfl
    | cons b l ih =>
      rw [List.map_cons] at hx
      cases hx with
      | cons h1 h2 =>
        cases h1
        rw [List.map_cons, ih _ h2]
  rw [this] at hs
  exact hs
section
variable {P : Program} {w : World} {K : PySem.W.Frag} {mg : Str → Option Value} {base : Heap}
theorem ok_ldia {f : Addr} {fd : FuncData} (F : Fun K "_law_diagrams" "_law_diagrams" s__law_diagrams f fd) (M : Mg mg) (c__law_fixed : Cl P w K mg base 1 "_law_fixed" (sp_fixed K)) (c__law_top : Cl P w K mg base 2 "_law_top" (sp_ltop K)) : FnOk P w K mg base CX0 3 f fd ["truths", "count"] (sp_ldia K) := by
  refine F.ok sc__law_diagrams (fun vs H Q E h => ?_) (fun cdv A outer s H vs Q E hr h => ?_)
  · obtain ⟨p, es, as, rfl, _⟩ := h
    rfl
  · obtain ⟨p, es, as, rfl, tl, hn, hl, hwf, hal, hsz, q⟩ := h
    have hpl : pile as.reverse ≤ 300000 := by
      have h1 := pile_le as.reverse 1000 fun b hb => hsz b (List.mem_reverse.mp hb)
      rw [List.length_reverse] at h1
      have h3 := Nat.mul_le_mul_right (2 * 1000 + 1) hal
      omega
    generalize hfin : as.reverse.foldl pre [] = fin
    have hq : ∀ H' q', Same H H' → TtL K H' q' es fin → Q (.ref q') H' := fun H' q' s' t' => by
      refine q H' q' fin s' t' (by rw [← hfin]; exact pres_nodup _ _ List.nodup_nil) fun x => ?_
      rw [← hfin, pres_iff _ _ (fun n b hb => by cases hb)]
      constructor
      · rintro (h | ⟨a, ha, h⟩)
        · cases h
        · exact ⟨a, List.mem_reverse.mp ha, h⟩
      · rintro ⟨a, ha, h⟩
        exact .inr ⟨a, List.mem_reverse.mpr ha, h⟩
    have sl : (1000000 : Nat) < sizeLine := by decide
    refine ⟨_, (pss_cons (ps_set (i := 2) sc__law_diagrams.nd rfl (.inl rfl) (pe_lst pa_nil))
      (pss_cons (ps_set (i := 3) sc__law_diagrams.nd rfl (.inl rfl) (pe_callTy (listK K) (by rfl) M.list (by decide +kernel) (pa_cons (pv 0) pa_nil)))
      (pss_cons (ps_while PassesOwn.never (pt_truthK K (pv 3) (by intro _; rfl)) (pss_cons (ps_set (i := 4) sc__law_diagrams.nd rfl (.inl rfl) (pe_bm0 PySem.F.plainAttrs_list PySem.F.slot_list_pop PySem.F.type_list_pop mt_pop (pv 3)))
      (pss_cons (ps_set (i := 5) sc__law_diagrams.nd rfl (.inl rfl) (pe_u c__law_top hr (by first | decide | omega) (by rfl) (pa_cons (pv 4) (pa_cons (pv 1) pa_nil))))
      (pss_one (ps_if (PW.pt (pw_and (pt_cmpR op_notN (pv 5) pe_non (nomark _)) (pw_and1 (pt_cmpR (notInDK K (hu65 hr)) (pv 4) (pv 2) (by rfl))))) (pss_cons (ps_expr (pe_bmK K PySem.F.plainAttrs_list PySem.F.slot_list_append PySem.F.type_list_append mt_append (pv 2) (pa_cons (pv 4) pa_nil)))
      (pss_cons (ps_expr (pe_bmK K PySem.F.plainAttrs_list PySem.F.slot_list_append PySem.F.type_list_append mt_append (pv 3) (pa_cons (pe_u c__law_fixed hr (by first | decide | omega) (by rfl) (pa_cons (pv 4) (pa_cons (pv 5) (pa_cons pe_int pa_nil)))) pa_nil)))
      (pss_one (ps_expr (pe_bmK K PySem.F.plainAttrs_list PySem.F.slot_list_append PySem.F.type_list_append mt_append (pv 3) (pa_cons (pe_u c__law_fixed hr (by first | decide | omega) (by rfl) (pa_cons (pv 4) (pa_cons (pv 5) (pa_cons pe_int pa_nil)))) pa_nil)))))) pss_nil)))))
      (pss_one (ps_ret (pv 2)))))), ?_⟩
    refine ⟨by show 0 ≤ sizeLine; decide, fun fl nfl => ?_⟩
    have s1 := same_upd nfl (o := .lst [])
    have e1 : (upd H fl (.lst [])) fl = some (.lst []) := upd_same
    generalize upd H fl (.lst []) = H1 at s1 e1
    obtain ⟨vs0, ep0, dp0⟩ := id tl
    refine ⟨_, rfl, p, _, rfl, .inl (.of (s1 _ _ ep0)), fun wl nwl => ?_⟩
    have s2 := same_upd nwl (o := .lst vs0)
    have e2 : (upd H1 wl (.lst vs0)) wl = some (.lst vs0) := upd_same
    have nwfl : wl ≠ fl := (ne_of_none e1 nwl).symm
    generalize upd H1 wl (.lst vs0) = H2 at s2 e2
    have nwl0 := s1.free nwl
    have fresh : ∀ {Hi : Hp} {p : Addr} {o : HO}, Same H Hi → H p = none → Same H (upd Hi p o) := fun sm np b o e => by
      rw [upd_ne (ne_of_none e np)]
      exact sm b o e
    refine ⟨LdW K H es p fl wl fin 300000, ⟨_, [], as.reverse, none, none, rfl, hpl, rfl, s1.trans s2, ⟨[], s2 _ _ e1, .nil⟩, ⟨vs0, e2, by rw [List.reverse_reverse]; exact DpAll.ext (s1.trans s2) _ _ dp0⟩, (by intro _ h; cases h), fun a ha => hwf a (List.mem_reverse.mp ha), hfin⟩, ?_⟩
    rintro m σ Hi ⟨fs, ws, z4, z5, rfl, hm, rfl, si, tf, tw, hfs, hws, hf⟩
    obtain ⟨vs, ew, dw⟩ := id tw
    refine ⟨_, rfl, _, .inl ⟨_, .of ew, rfl⟩, ?_⟩
    cases ws with
    | nil =>
      have hv : vs = [] := by
        have := DpAll.len dw
        exact List.eq_nil_of_length_eq_zero (by rw [this]; rfl)
      subst hv
      refine iteF ⟨_, rfl, ?_⟩
      have hf : fs = fin := hf
      subst hf
      exact hq Hi fl si tf
    | cons a ws =>
      rw [List.reverse_cons, List.map_append] at dw
      obtain ⟨us, v, rfl, dus, dv⟩ := DpAll.last dw
      obtain ⟨ap, rfl, hap⟩ := tt_seq dv
      have wa := hws a List.mem_cons_self
      have hws' : ∀ b ∈ ws, Wf es b := fun b hb => hws b (List.mem_cons_of_mem _ hb)
      have hne : (us ++ [V.ref ap]).isEmpty = false := by cases us <;> rfl
      rw [hne]
      refine iteT ⟨fun σ' H' => ∃ m', m' < pile (a :: ws) ∧ LdW K H es p fl wl fin 300000 m' σ' H', fun _ _ h => h, ?_⟩
      refine ⟨_, rfl, .inl ⟨rfl, _, .inl (.inl ew)⟩, wl, _, .ref ap, rfl, rfl, ew, ?_, ?_⟩
      · rw [List.length_append]
        show (us ++ [V.ref ap])[us.length + 1 - 1]? = _
        rw [Nat.add_sub_cancel, List.getElem?_append_right (Nat.le_refl _), Nat.sub_self]
        rfl
      rw [List.dropLast_concat]
      have ew1 : (upd Hi wl (.lst us)) wl = some (.lst us) := upd_same
      have tw1 : TtL K (upd Hi wl (.lst us)) wl es ws.reverse := ⟨us, upd_same, DpAll.away ew _ _ (bDt_only es _) dus⟩
      have tf1 : TtL K (upd Hi wl (.lst us)) fl es fs := tf.away ew nwfl.symm
      have hap1 : SqT K (upd Hi wl (.lst us)) ap ((tt es a).map V.bl) := (tt_seq (Dp.away ew _ _ (bDt_1 es a) dv)).elim fun q hq => by
        obtain ⟨e, h⟩ := hq
        cases e
        exact h
      have sw1 := fresh (o := .lst us) si nwl0
      generalize upd Hi wl (.lst us) = H3 at ew1 tw1 tf1 hap1 sw1
      refine ⟨_, rfl, _, rfl, ap, es, a, rfl, hap1, wa, hn, hl, fun H4 s4 => ?_⟩
      have tw4 := tw1.ext s4
      have tf4 := tf1.ext s4
      have hap4 := SqT.ext s4 hap1
      have s04 := sw1.trans s4
      have hf : ws.foldl pre (pre fs a) = fin := hf
      have hpw : pile ws < pile (a :: ws) := by show _ < 2 * a.sz + 1 + pile ws; omega
      cases a with
      | lf v => exact ⟨_, rfl, rfl, _, rfl, iteF ⟨pile ws, hpw, fs, ws, _, _, rfl, by omega, rfl, s04, tf4, tw4, hfs, hws', hf⟩⟩
      | nd e w t =>
        obtain ⟨w1, w2⟩ := wf_kids wa
        obtain ⟨t1, t2, t3, t4, t5, t6⟩ := fix_top hn wa
        refine ⟨_, rfl, rfl, _, rfl, ?_⟩
        rw [show decide (topV es (.nd e w t) = V.non) = false from decide_eq_false (fun z => nomatch z)]
        refine iteT ⟨_, rfl, _, rfl, bDt es (.nd e w t), _, dp_tt hap4, tf4.dp, tup_shaped _, bDts_shaped es fs, _, rfl, ?_⟩
        rw [any_eqv hn wa hfs]
        by_cases hm2 : Bd.nd e w t ∈ fs
        · rw [decide_eq_true hm2]
          refine iteF ⟨pile ws, hpw, fs, ws, _, _, rfl, by omega, rfl, s04, tf4, tw4, hfs, hws', ?_⟩
          rw [pre, if_pos hm2] at hf
          exact hf
        · rw [decide_eq_false hm2]
          refine iteT ?_
          rw [pre, if_neg hm2] at hf
          obtain ⟨fv, ef, lf, _⟩ := tf4.get
          have lfs : fs.length ≤ 300000 := by
            have h1 := (pres_pre ws (pre (pre (fs ++ [.nd e w t]) t) w)).length_le
            have h2 := (((List.prefix_append fs [.nd e w t]).trans (pre_pre t _)).trans (pre_pre w _)).length_le
            have h3 := pres_len as.reverse []
            rw [hfin] at h3
            rw [hf] at h1
            have h4 : ([] : List Bd).length = 0 := rfl
            omega
          refine ⟨_, rfl, .inl ⟨rfl, _, .inl (.inl ef)⟩, _, rfl, fl, _, _, rfl, rfl, ef, by omega, ?_⟩
          have tf5 := tf4.snoc ef hap4
          obtain ⟨wv, ewv, lwv, _⟩ := tw4.get
          have tw5 : TtL K (upd H4 fl (.lst (fv ++ [.ref ap]))) wl es ws.reverse := tw4.away ef nwfl
          have hap5 : SqT K (upd H4 fl (.lst (fv ++ [.ref ap]))) ap ((tt es (.nd e w t)).map V.bl) := (tt_seq (Dp.away ef _ _ (bDt_1 es _) (dp_tt hap4))).elim fun q hq => by
            obtain ⟨e, h⟩ := hq
            cases e
            exact h
          have s05 := fresh (o := .lst (fv ++ [.ref ap])) s04 nfl
          generalize upd H4 fl (.lst (fv ++ [.ref ap])) = H5 at tf5 tw5 hap5 s05
          obtain ⟨w5v, ew5, lw5, _⟩ := tw5.get
          have lws : ws.length ≤ 300000 := by
            have := pile_len ws
            omega
          refine ⟨_, rfl, .inl ⟨rfl, _, .inl (.inl ew5)⟩, ?_⟩
          refine ⟨_, rfl, _, rfl, ap, _, es.idxOf e, false, es.length, rfl, hap5, tt_len es _, t4, hl, fun H6 q6 s6 e6 => ?_⟩
          rw [t1] at e6
          have ew6 := s6 _ _ ew5
          refine ⟨wl, _, _, rfl, rfl, ew6, by rw [lw5, List.length_reverse]; omega, ?_⟩
          have tw7 := (tw5.ext s6).snoc ew6 (.of e6)
          have ef6 : ∃ zs, H6 fl = some (.lst zs) := by
            obtain ⟨zs, h, _⟩ := tf5.ext s6
            exact ⟨zs, h⟩
          have tf7 : TtL K (upd H6 wl (.lst (w5v ++ [.ref q6]))) fl es (fs ++ [.nd e w t]) := (tf5.ext s6).away ew6 nwfl.symm
          have hap7 : SqT K (upd H6 wl (.lst (w5v ++ [.ref q6]))) ap ((tt es (.nd e w t)).map V.bl) := (tt_seq (Dp.away ew6 _ _ (bDt_1 es _) (dp_tt (SqT.ext s6 hap5)))).elim fun q hq => by
            obtain ⟨e, h⟩ := hq
            cases e
            exact h
          have s07 := fresh (o := .lst (w5v ++ [.ref q6])) (s05.trans s6) nwl0
          generalize upd H6 wl (.lst (w5v ++ [.ref q6])) = H7 at tw7 tf7 hap7 s07
          obtain ⟨w7v, ew7, lw7, _⟩ := tw7.get
          refine ⟨_, rfl, .inl ⟨rfl, _, .inl (.inl ew7)⟩, ?_⟩
          refine ⟨_, rfl, _, rfl, ap, _, es.idxOf e, true, es.length, rfl, hap7, tt_len es _, t4, hl, fun H8 q8 s8 e8 => ?_⟩
          rw [t2] at e8
          have ew8 := s8 _ _ ew7
          refine ⟨wl, _, _, rfl, rfl, ew8, by rw [lw7, List.length_append, List.length_reverse]; show _ + 1 < _; omega, ?_⟩
          have tw9 := (tw7.ext s8).snoc ew8 (.of e8)
          have tf9 : TtL K (upd H8 wl (.lst (w7v ++ [.ref q8]))) fl es (fs ++ [.nd e w t]) := (tf7.ext s8).away ew8 nwfl.symm
          have hpp : pile (t :: w :: ws) + 1 = pile (.nd e w t :: ws) := by
            show 2 * t.sz + 1 + (2 * w.sz + 1 + pile ws) + 1 = 2 * (w.sz + t.sz + 1) + 1 + pile ws
            omega
          refine ⟨pile (t :: w :: ws), by omega, fs ++ [.nd e w t], t :: w :: ws, _, _, rfl, by omega, rfl, fresh (s07.trans s8) nwl0, tf9, ?_, fun b hb => ?_, fun b hb => ?_, hf⟩
          · rw [List.reverse_cons, List.reverse_cons]
            exact tw9
          · rcases List.mem_append.mp hb with hb | hb
            · exact hfs b hb
            · rw [List.mem_singleton.mp hb]; exact wa
          · rcases List.mem_cons.mp hb with rfl | hb
            · exact w2
            · rcases List.mem_cons.mp hb with rfl | hb
              · exact w1
              · exact hws' b hb
end

def sp_law (K : PySem.W.Frag) : Sp := fun vs H Q _ => ∃ (a : Addr) (ns : List Int), vs = [.ref a] ∧ SqL K H a (ns.map V.int) ∧ ns.length ≤ 63 ∧ ∀ H', Q (.bl true) H'
theorem cut_take (xs : List V) (k : Nat) : cutV xs none (some ((k : Nat) : Int)) = xs.take k := by
  unfold cutV
  rw [HT.sIx_none, HT.sIx_nat, List.drop_zero, Nat.sub_zero]
  by_cases h : k ≤ xs.length
  · rw [Nat.min_eq_left h]
  · rw [Nat.min_eq_right (by omega), List.take_of_length_le (Nat.le_refl _), List.take_of_length_le (by omega)]
theorem Blt.trees {N : Nds} {es : List Int} : ∀ {ts : List Tr} {cs : List Nat}, Blt N es ts cs → ∃ Ts, Rel2 N cs Ts ∧ Ts.map (tt es) = ts.map (tru es) ∧ ∀ T ∈ Ts, Wf es T
  | [], [], _ => ⟨[], trivial, rfl, fun _ h => nomatch h⟩
  | [], _ :: _, h => by have := h.1; cases this
  | _ :: _, [], h => by have := h.1; cases this
  | t :: ts, c :: cs, h => by
    obtain ⟨T, a, b, v⟩ := h.2 0 t c rfl rfl
    obtain ⟨Ts, h1, h2, h3⟩ := Blt.trees (ts := ts) (cs := cs) ⟨by have := h.1; rw [List.length_cons, List.length_cons] at this; omega, fun i t' c' g1 g2 => h.2 (i + 1) t' c' (by simpa using g1) (by simpa using g2)⟩
    refine ⟨T :: Ts, ⟨a, h1⟩, ?_, fun X hX => ?_⟩
    · rw [List.map_cons, List.map_cons, h2]
      exact congrArg (· :: _) (List.map_congr_left fun p _ => v _)
    · rcases List.mem_cons.mp hX with rfl | hX
      · exact b
      · exact h3 X hX
/-- the heap without the store's list and dicts -/
def offS (s : SA) (H : Hp) : Hp := fun a => if a = s.k ∨ a = s.u ∨ a = s.m then none else H a
theorem offS_same (s : SA) (H : Hp) : Same (offS s H) H := fun b o e => by
  unfold offS at e
  split at e
  · cases e
  · exact e
theorem offS_at {s : SA} {H : Hp} {b : Addr} {o : HO} (h1 : b ≠ s.k) (h2 : b ≠ s.u) (h3 : b ≠ s.m) (e : H b = some o) : offS s H b = some o := by
  unfold offS
  rw [if_neg (by rintro (h | h | h); exact h1 h; exact h2 h; exact h3 h)]
  exact e
theorem Rel2.take {N : Nds} : ∀ {cs : List Nat} {as : List Bd} (k : Nat), Rel2 N cs as → Rel2 N (cs.take k) (as.take k)
  | [], [], _, _ => by simp [Rel2]
  | [], _ :: _, _, h => h.elim
  | _ :: _, [], _, h => h.elim
  | _ :: _, _ :: _, 0, _ => trivial
  | c :: cs, a :: as, k + 1, h => ⟨h.1, Rel2.take k h.2⟩
theorem Rel2.get {N : Nds} : ∀ {cs : List Nat} {as : List Bd} {i : Nat} {c : Nat} {a : Bd}, Rel2 N cs as → cs[i]? = some c → as[i]? = some a → At N c a
  | [], _, _, _, _, _, h, _ => by simp at h
  | _ :: _, [], _, _, _, h, _, _ => h.elim
  | c :: cs, a :: as, 0, c', a', h, h1, h2 => by
    have e1 : c = c' := Option.some.inj h1
    have e2 : a = a' := Option.some.inj h2
    subst e1 e2
    exact h.1
  | c :: cs, a :: as, i + 1, c', a', h, h1, h2 => Rel2.get h.2 (by simpa using h1) (by simpa using h2)
theorem DpAll.take {K : PySem.W.Frag} {H : Hp} : ∀ {ds : List PyData} {vs : List V} (k : Nat), DpAll K H vs ds → DpAll K H (vs.take k) (ds.take k)
  | [], _, k, h => by cases h; simp; exact .nil
  | d :: ds, _, 0, h => by simp; exact .nil
  | d :: ds, _, k + 1, h => by
    cases h with
    | cons h1 h2 => exact .cons h1 (DpAll.take k h2)
theorem DpAll.app {K : PySem.W.Frag} {H : Hp} : ∀ {ds es : List PyData} {vs ws : List V}, DpAll K H vs ds → DpAll K H ws es → DpAll K H (vs ++ ws) (ds ++ es)
  | [], _, _, _, h, g => by cases h; exact g
  | d :: ds, _, _, _, h, g => by
    cases h with
    | cons h1 h2 => exact .cons h1 (DpAll.app h2 g)
section
variable {P : Program} {w : World} {K : PySem.W.Frag} {mg : Str → Option Value} {base : Heap}
set_option maxHeartbeats 8000000 in
theorem ok_law {f C : Addr} {fd : FuncData} (F : Fun K "law" "law" s_law f fd) (M : Mg mg) (c__law_draw : Cl P w K mg base 1 "_law_draw" (sp_draw K)) (c__law_next : Cl P w K mg base 1 "_law_next" sp_next) (c__law_entries : Cl P w K mg base 2 "_law_entries" (sp_ents 5)) (c__law_tree : Cl P w K mg base 7 "_law_tree" (sp_ltr K 6)) (c_Diagrams___init__ : ClC P w K mg base 1 "Diagrams" C (sp_dinit C K))
    (c__law_build : Cl P w K mg base 19 "_law_build" (sp_build C K 6 9)) (c__law_truth : Cl P w K mg base 11 "_law_truth" (sp_truth K 9)) (c__law_fixed : Cl P w K mg base 1 "_law_fixed" (sp_fixed K)) (c__law_top : Cl P w K mg base 2 "_law_top" (sp_ltop K)) (c__law_listed : Cl P w K mg base 8 "_law_listed" (sp_llis K 6)) (c__law_number : Cl P w K mg base 1 "_law_number" (sp_lnum K)) (c__law_diagrams : Cl P w K mg base 3 "_law_diagrams" (sp_ldia K))
    (c__law_same : Cl P w K mg base 6 "_law_same" (sp_same K 5)) (c_Diagrams_table : ClM P w K mg base 3 C "table" (sp_table C K)) (c_Diagrams_size : ClM P w K mg base 3 C "size" (sp_size C K)) : FnOk P w K mg base CX0 20 f fd ["script"] (sp_law K) := by
  refine F.ok sc_law (fun vs H Q E h => ?_) (fun cdv A outer s H vs Q E hr h => ?_)
  · obtain ⟨a, ns, rfl, _⟩ := h
    rfl
  · obtain ⟨a, ns, rfl, hS, _, q⟩ := h
    refine ⟨_, (pss_cons (ps_set (i := 1) sc_law.nd rfl (.inr rfl) (pe_u c__law_draw hr (by first | decide | omega) (by rfl) (pa_cons (pv 0) pa_nil)))
      (pss_cons (ps_set (i := 2) sc_law.nd rfl (.inr rfl) (pe_u c__law_entries hr (by first | decide | omega) (by rfl) (pa_cons (pv 1) (pa_cons pe_int pa_nil))))
      (pss_cons (ps_set (i := 3) sc_law.nd rfl (.inr rfl) (pe_mk0 c_Diagrams___init__ hr (by first | decide | omega) (by rfl)))
      (pss_cons (ps_setLc (i := 5) (own := [("k", 4)]) (g := gName 4) (tt := tYes) rfl sc_law.nd rfl rfl (sw_true rfl rfl rfl (by decide +kernel)) (pi_range1 (by rfl) M.range (pa_cons pe_int pa_nil)) (blkOk_by (N := N_law) (sc := defScope s_law) (by decide +kernel)) (fun _ _ _ _ _ => (pg_name (i := 4) sc_law.nd rfl (.inl rfl))) (fun _ _ _ _ _ => pts_nil) (fun _ _ _ _ _ => (pe_u c__law_tree hr (by first | decide | omega) (by rfl) (pa_cons (pv 1) (pa_cons (pv 2) (pa_cons (pe_op op_add pe_int (pe_u c__law_next hr (by first | decide | omega) (by rfl) (pa_cons (pv 1) (pa_cons pe_int pa_nil)))) pa_nil))))))
      (pss_cons (ps_setLc (i := 6) (own := [("tree", 17)]) (g := gName 17) (tt := tYes) rfl sc_law.nd rfl rfl (sw_true rfl rfl rfl (by decide +kernel)) (pi_list (pv 5)) (blkOk_by (N := N_law) (sc := defScope s_law) (by decide +kernel)) (fun _ _ _ _ _ => (pg_name (i := 17) sc_law.nd rfl (.inl rfl))) (fun _ _ _ _ _ => pts_nil) (fun _ _ _ _ _ => (pe_u c__law_build hr (by first | decide | omega) (by rfl) (pa_cons (pv 3) (pa_cons (pv 17) pa_nil)))))
      (pss_cons (ps_setLc (i := 7) (own := [("tree", 17)]) (g := gName 17) (tt := tYes) rfl sc_law.nd rfl rfl (sw_true rfl rfl rfl (by decide +kernel)) (pi_list (pv 5)) (blkOk_by (N := N_law) (sc := defScope s_law) (by decide +kernel)) (fun _ _ _ _ _ => (pg_name (i := 17) sc_law.nd rfl (.inl rfl))) (fun _ _ _ _ _ => pts_nil) (fun _ _ _ _ _ => (pe_u c__law_truth hr (by first | decide | omega) (by rfl) (pa_cons (pv 17) (pa_cons (pv 2) pa_nil)))))
      (pss_cons (ps_for PassesOwn.never rfl (pi_range1 (by rfl) M.range (pa_cons pe_int pa_nil)) (pg_name (i := 4) sc_law.nd rfl (.inl rfl)) (pss_cons (ps_set (i := 8) sc_law.nd rfl (.inr rfl) (pe_u c__law_listed hr (by first | decide | omega) (by rfl) (pa_cons (pe_ix (ix_listK K) (pv 7) (pv 4) (fun _ _ => rfl)) (pa_cons (pv 2) (pa_cons (pe_lst pa_nil) pa_nil)))))
      (pss_cons (ps_set (i := 9) sc_law.nd rfl (.inl rfl) (pe_lst pa_nil))
      (pss_cons (ps_for PassesOwn.never rfl (pi_list (pv 8)) (pg_name (i := 10) sc_law.nd rfl (.inr rfl)) (pss_cons (ps_set (i := 11) sc_law.nd rfl (.inr rfl) (pe_u c__law_top hr (by first | decide | omega) (by rfl) (pa_cons (pv 10) (pa_cons (pe_callB (len_seqK K) (by rfl) M.len PySem.boot_len (pa_cons (pv 2) pa_nil)) pa_nil))))
      (pss_cons (ps_setLc (i := 12) (own := [("side", 18)]) (g := gName 18) (tt := tYes) rfl sc_law.nd rfl rfl (sw_true rfl rfl rfl (by decide +kernel)) (pi_tup (pe_tup (pa_cons pe_int (pa_cons pe_int pa_nil)))) (blkOk_by (N := N_law) (sc := defScope s_law) (by decide +kernel)) (fun _ _ _ _ _ => (pg_name (i := 18) sc_law.nd rfl (.inl rfl))) (fun _ _ _ _ _ => pts_nil) (fun _ _ _ _ _ => (pe_u c__law_number hr (by first | decide | omega) (by rfl) (pa_cons (pe_u c__law_fixed hr (by first | decide | omega) (by rfl) (pa_cons (pv 10) (pa_cons (pv 11) (pa_cons (pv 18) pa_nil)))) (pa_cons (pv 8) pa_nil)))))
      (pss_one (ps_expr (pe_bmK K PySem.F.plainAttrs_list PySem.F.slot_list_append PySem.F.type_list_append mt_append (pv 9) (pa_cons (pe_tup (pa_cons (pe_ix (ix_listK K) (pv 2) (pv 11) (fun _ _ => rfl)) (pa_cons (pe_ix (ix_listK K) (pv 12) pe_int (fun _ _ => rfl)) (pa_cons (pe_ix (ix_listK K) (pv 12) pe_int (fun _ _ => rfl)) pa_nil)))) pa_nil)))))))
      (pss_one (ps_if (pt_not (pt_val (pe_u c__law_same hr (by first | decide | omega) (by rfl) (pa_cons (pe_mt c_Diagrams_table hr (by first | decide | omega) (pv 3) (pa_cons (pe_ix (ix_listK K) (pv 6) (pv 4) (fun _ _ => rfl)) pa_nil)) (pa_cons (pe_tup (pa_cons (pv 9) (pa_cons (pe_u c__law_number hr (by first | decide | omega) (by rfl) (pa_cons (pe_ix (ix_listK K) (pv 7) (pv 4) (fun _ _ => rfl)) (pa_cons (pv 8) pa_nil))) pa_nil))) pa_nil))))) (pss_one (ps_ret pe_bl)) pss_nil))))))
      (pss_cons (ps_set (i := 13) sc_law.nd rfl (.inl rfl) (pe_u c__law_next hr (by first | decide | omega) (by rfl) (pa_cons (pv 1) (pa_cons pe_int pa_nil))))
      (pss_cons (ps_set (i := 14) sc_law.nd rfl (.inl rfl) (pe_op op_cat (pe_slice sl_list (pv 6) po_none (po_some (pv 13))) (pe_slice sl_list (pv 6) po_none (po_some (pe_u c__law_next hr (by first | decide | omega) (by rfl) (pa_cons (pv 1) (pa_cons pe_int pa_nil)))))))
      (pss_cons (ps_set (i := 15) sc_law.nd rfl (.inl rfl) (pe_callTy (listK K) (by rfl) M.list (by decide +kernel) (pa_cons (pv 14) pa_nil)))
      (pss_cons (ps_set (i := 16) sc_law.nd rfl (.inl rfl) (pe_callB (len_seqK K) (by rfl) M.len PySem.boot_len (pa_cons (pe_u c__law_diagrams hr (by first | decide | omega) (by rfl) (pa_cons (pe_op op_cat (pe_slice sl_list (pv 7) po_none (po_some (pv 13))) (pe_slice sl_list (pv 7) po_none (po_some (pe_op op_sub (pe_callB (len_seqK K) (by rfl) M.len PySem.boot_len (pa_cons (pv 14) pa_nil)) (pv 13))))) (pa_cons (pe_callB (len_seqK K) (by rfl) M.len PySem.boot_len (pa_cons (pv 2) pa_nil)) pa_nil))) pa_nil)))
      (pss_one (ps_ret (pe_and (pe_u c__law_same hr (by first | decide | omega) (by rfl) (pa_cons (pe_mt c_Diagrams_size hr (by first | decide | omega) (pv 3) (pa_cons (pv 14) pa_nil)) (pa_cons (pv 16) pa_nil))) (pe_one (pe_cmpR (eqDK K hr.units) (pv 14) (pv 15) (nomark _))))))))))))))))), ?_⟩
    refine ⟨_, rfl, a, ns, rfl, hS, fun H1 d c s1 nd dr => ?_⟩
    refine ⟨_, rfl, d, c, rfl, by decide, by decide, dr, fun H2 ea es f2 dr2 na en => ?_⟩
    -- the store
    refine fun x dx nx ndx nex => ⟨x, dx, rfl, upd_same, fun H3 sa hsp f3 hk hu hm stm => ⟨rfl, ?_⟩⟩
    subst hsp
    have s3 := made_same nx ndx f3
    have hk := made_free hk
    have hu := made_free hu
    have hm := made_free hm
    have st3 := stm es en.2.2.2.1
    have hl5 : es.length ≤ 5 := en.2.2.2.2.2.1
    have dr3 := dr2.ext s3
    have en3 : EnA H3 ea d c es 5 := en.fd (Fd.of s3)
    have dk : d ≠ sa.k ∧ d ≠ sa.u ∧ d ≠ sa.m := by
      obtain ⟨zs, hz⟩ := dr2.lst
      exact ⟨ne_of_none hz hk, ne_of_none hz hu, ne_of_none hz hm⟩
    have ek : ea ≠ sa.k ∧ ea ≠ sa.u ∧ ea ≠ sa.m := ⟨ne_of_none en.2.2.1 hk, ne_of_none en.2.2.1 hu, ne_of_none en.2.2.1 hm⟩
    -- three trees
    refine ⟨_, rfl, by decide, by decide, fun D nD => ?_⟩
    have nDd := dr3.nd nD
    have nDs := bu_ne st3 nD
    refine lc_range (lo := 0) (n := (3 : Int).toNat) (fun i Hi => Fd d H3 Hi ∧ Dr Hi d c ∧ ∃ ts : List Tr, TrL K Hi D ts ∧ ts.length = i ∧ ∀ t ∈ ts, t.ok es ∧ t.ht ≤ 5) ⟨Fd.new nD, dr3.ext (same_upd nD), [], ⟨[], upd_same, .nil⟩, rfl, fun _ h => nomatch h⟩ (fun i Hi hi hp => ?_) (fun H4 hp => ?_)
    · obtain ⟨fi, di, ts, tl, lt, ok⟩ := hp
      refine ⟨rfl, ?_⟩
      refine ⟨_, rfl, _, rfl, _, rfl, d, c, 5, rfl, di, by decide, by decide, fun H4 r f4 _ dr4 r0 r1 => ?_⟩
      obtain ⟨k, rfl⟩ := Int.eq_ofNat_of_zero_le r0
      have en4 := en3.fd (fi.trans f4)
      refine ⟨_, _, rfl, rfl, d, c, ea, es, 5, 1 + k, rfl, by omega, dr4, en4, by decide, fun H5 p t f5 dr5 ok5 ht5 dp5 => ?_⟩
      have tl5 := (tl.fd di.lst nDd f4).fd dr4.lst nDd f5
      obtain ⟨vs, eD5, _⟩ := id tl5
      have lvs : vs.length = i := by
        obtain ⟨vs', g1, g2, _⟩ := tl5.get
        rw [eD5] at g1
        have := HO.lst.inj (Option.some.inj g1)
        rw [this, g2, lt]
      have hi : i < 3 := hi
      refine ⟨vs, eD5, by rw [lvs]; exact Nat.lt_of_lt_of_le (m := 100) (by omega) (by decide), ?_, dr5.upd nDd (dr3.nc nD), ts ++ [t], tl5.snoc eD5 dp5, by rw [List.length_append, lt]; rfl, fun u hu => ?_⟩
      · intro b o nb e
        rw [upd_ne (ne_of_none e nD)]
        exact f5 _ _ nb (f4 _ _ nb (fi _ _ nb e))
      · rcases List.mem_append.mp hu with hu | hu
        · exact ok u hu
        · rw [List.mem_singleton.mp hu]
          exact ⟨ok5, by omega⟩
    obtain ⟨f4, dr4, TS, tlF, lF, okF⟩ := hp
    have lF : TS.length = 3 := lF
    have st4 := st3.fd dr3.lst dk.1 f4
    have en4 := en3.fd f4
    -- the conditions
    obtain ⟨ws0, eD4, lws0, gws0⟩ := tlF.get
    have kind : ∀ b o, (∃ ys, o = HO.tup ys) ∨ (∃ q u, o = HO.frz q u) → H4 b = some o → offS sa H4 b = some o := fun b o ho e => by
      obtain ⟨_, ⟨_, g1, _⟩, ⟨_, g2, _⟩, ⟨_, g3, _⟩, _⟩ := st4
      refine offS_at ?_ ?_ ?_ e
      · rcases ho with ⟨ys, rfl⟩ | ⟨q, u, rfl⟩ <;> exact ne_of e g1 (fun z => nomatch z)
      · rcases ho with ⟨ys, rfl⟩ | ⟨q, u, rfl⟩ <;> exact ne_of e g2 (fun z => nomatch z)
      · rcases ho with ⟨ys, rfl⟩ | ⟨q, u, rfl⟩ <;> exact ne_of e g3 (fun z => nomatch z)
    have one : ∀ (i : Nat) x, ws0[i]? = some x → ∃ t, TS[i]? = some t ∧ t.ok es ∧ t.ht < 9 ∧ Dp K (offS sa H4) x t.d := fun i x hx => by
      have hi : i < TS.length := by rw [← lws0]; exact (List.getElem?_eq_some_iff.mp hx).1
      obtain ⟨v, hv, dp⟩ := gws0 i TS[i] (List.getElem?_eq_getElem hi)
      obtain rfl : v = x := Option.some.inj (hv.symm.trans hx)
      obtain ⟨o1, o2⟩ := okF TS[i] (List.getElem_mem hi)
      exact ⟨_, List.getElem?_eq_getElem hi, o1, by omega, Dp.tsn kind _ _ (tr_only _) dp⟩
    have hbud : 0 + TS.length * 33000 ≤ 400000 := by rw [lF]; decide
    have k1 : offS sa H4 sa.k = none := by unfold offS; rw [if_pos (.inl rfl)]
    have k2 : offS sa H4 sa.u = none := by unfold offS; rw [if_pos (.inr (.inl rfl))]
    have k3 : offS sa H4 sa.m = none := by unfold offS; rw [if_pos (.inr (.inr rfl))]
    have eD4' := offS_at nDs.1 nDs.2.1 nDs.2.2 eD4
    refine ⟨_, rfl, D, rfl, ⟨_, .of eD4⟩, fun B nB => ?_⟩
    have nBs := bu_ne st4 nB
    refine lc_list (K := K) (a := D) (xs := ws0) (BuP C K sa [] es 0 TS (offS sa H4) H4 B) (bu_0 (offS_same sa H4) st4 ⟨Nat.le_refl _, Nat.le_refl _⟩ nB) (fun i Hi _ hp => .of (hp.1 _ _ eD4')) (fun i x Hi hx hp => ?_) (fun H5 hp => ?_)
    · obtain ⟨t, ht, o1, o2, dp⟩ := one i x hx
      exact ⟨rfl, bu_step (offS_same sa H4) st4 k1 k2 k3 hl5 hbud nB hp ht o1 o2 dp rfl rfl⟩
    obtain ⟨s5, fr5, N, cs, st5, eB5, bl, ln5⟩ := hp
    rw [lws0] at st5 bl ln5
    rw [List.take_of_length_le (Nat.le_refl _)] at bl
    rw [List.nil_append] at st5 bl ln5
    have hnd := st5.nd
    have hen := st5.es_nd
    have tl5 : TrL K H5 D TS := by
      obtain ⟨vs, g1, g2⟩ := tlF
      exact ⟨vs, fr5 _ _ g1 nDs.1 nDs.2.1 nDs.2.2, DpAll.tsn (fun b o ho e => s5 _ _ (kind b o ho e)) _ _ (trs_only TS) g2⟩
    have dr5 : Dr H5 d c := by
      obtain ⟨n1, ns', pos, rest, seed, h1, h2, h3⟩ := dr4
      have hc : c ≠ sa.k ∧ c ≠ sa.u ∧ c ≠ sa.m := by
        obtain ⟨_, _, _, _, _, _, g2, _⟩ := dr2
        exact ⟨ne_of_none g2 hk, ne_of_none g2 hu, ne_of_none g2 hm⟩
      exact ⟨n1, ns', pos, rest, seed, fr5 _ _ h1 dk.1 dk.2.1 dk.2.2, fr5 _ _ h2 hc.1 hc.2.1 hc.2.2, h3⟩
    have ee5 := fr5 _ _ en4.2.2.1 ek.1 ek.2.1 ek.2.2
    obtain ⟨Ts, rel, eTs, wTs⟩ := bl.trees
    have lTs : Ts.length = 3 := by rw [← rel.len, bl.1, lF]
    have szTs : ∀ T ∈ Ts, T.sz ≤ 1000 := fun T hT => by
      have h1 := wf_sz (wTs T hT)
      have h2 : 2 ^ es.length ≤ 2 ^ 5 := Nat.pow_le_pow_right (by decide) hl5
      omega
    -- the truths
    obtain ⟨ws, eD5, lws, gws⟩ := tl5.get
    refine ⟨_, rfl, D, rfl, ⟨_, .of eD5⟩, fun T nT => ?_⟩
    refine lc_list (K := K) (a := D) (xs := ws) (fun i Hi => Same H5 Hi ∧ TtL K Hi T es (Ts.take i)) ⟨same_upd nT, [], upd_same, .nil⟩ (fun i Hi _ hp => .of (hp.1 _ _ eD5)) (fun i x Hi hx hp => ?_) (fun H6 hp => ?_)
    · obtain ⟨si, tl⟩ := hp
      have hi : i < TS.length := by rw [← lws]; exact (List.getElem?_eq_some_iff.mp hx).1
      obtain ⟨v, hv, dp⟩ := gws i TS[i] (List.getElem?_eq_getElem hi)
      obtain rfl : v = x := Option.some.inj (hv.symm.trans hx)
      have hti := (okF TS[i] (List.getElem_mem hi)).2
      have hiT : i < Ts.length := by omega
      have ett : tt es Ts[i] = tru es TS[i] := by
        have := congrArg (fun l : List (List Bool) => l[i]?) eTs
        rw [List.getElem?_map, List.getElem?_map, List.getElem?_eq_getElem hi, List.getElem?_eq_getElem hiT] at this
        exact Option.some.inj this
      refine ⟨rfl, ?_⟩
      refine ⟨_, rfl, _, rfl, v, ea, es, TS[i], rfl, Dp.ext si _ _ dp, si _ _ ee5, by omega, by omega, fun Hj p sj ep => ?_⟩
      rw [← ett] at ep
      obtain ⟨vs, ev, lv, _⟩ := (tl.ext sj).get
      refine ⟨vs, ev, ?_, ?_, ?_⟩
      · rw [lv, List.length_take]
        exact Nat.lt_of_le_of_lt (m := 100) (by omega) (by decide)
      · intro z o e
        rw [upd_ne (ne_of_none e nT)]
        exact sj _ _ (si _ _ e)
      · rw [List.take_add_one, List.getElem?_eq_getElem hiT]
        exact (tl.ext sj).snoc ev (.of ep)
    obtain ⟨s6, tT⟩ := hp
    rw [lws, List.take_of_length_le (by omega)] at tT
    have st6 := st5.ext s6
    have dr6 := dr5.ext s6
    have ee6 := s6 _ _ ee5
    have eB6 := s6 _ _ eB5
    obtain ⟨tv, eT6, ltv, gtv⟩ := tT.get
    have lcs : cs.length = 3 := by rw [bl.1, lF]
    -- three tables
    refine ⟨_, rfl, by decide, by decide, ?_⟩
    have key : ∀ i, i < 3 → ∃ (Tk : Bd) (ck : Nat) (q : Addr), Tk ∈ Ts ∧ (natsV cs)[i]? = some (.int ((ck : Nat) : Int)) ∧ tv[i]? = some (.ref q) ∧ SqT K H6 q ((tt es Tk).map V.bl) ∧ At N ck Tk := fun i hi => by
      have h1 : i < Ts.length := by omega
      have h2 : i < cs.length := by omega
      have h3 : i < tv.length := by omega
      obtain ⟨q, a', e1, e2, e3⟩ := gtv i _ (List.getElem?_eq_getElem h3)
      have e4 : Ts[i] = a' := Option.some.inj ((List.getElem?_eq_getElem h1).symm.trans e2)
      subst e4
      exact ⟨Ts[i], cs[i], q, List.getElem_mem h1, by unfold natsV; rw [List.getElem?_map, List.getElem?_eq_getElem h2]; rfl, by rw [List.getElem?_eq_getElem h3, e1], e3, rel.get (List.getElem?_eq_getElem h2) (List.getElem?_eq_getElem h1)⟩
    have eB6 : H6 B = some (.lst (natsV cs)) := eB6
    refine for_range (lo := 0) (n := (3 : Int).toNat) (fun i σ Hi => Same H6 Hi ∧ ∃ z4 z8 z9 z10 z11 z12 z13 z14 z15 z16 z17 z18, σ = [some (.ref a), some (.ref d), some (.ref ea), some (.ref sa.p), z4, some (.ref D), some (.ref B), some (.ref T), z8, z9, z10, z11, z12, z13, z14, z15, z16, z17, z18]) ⟨fun _ _ h => h, _, _, _, _, _, _, _, _, _, _, _, _, rfl⟩ (fun i σ Hi hi hp => ?_) (fun σ Hn hp => ?_)
    · obtain ⟨si, z4, z8, z9, z10, z11, z12, z13, z14, z15, z16, z17, z18, rfl⟩ := hp
      have hi : i < 3 := hi
      obtain ⟨Tk, ck, tq, hTk, hck, htq, eq, ak⟩ := key i hi
      have wk := wTs Tk hTk
      have zk := szTs Tk hTk
      rw [Int.zero_add]
      refine ⟨_, rfl, _, rfl, T, _, _, _, rfl, rfl, .of (si _ _ eT6), atI_nat htq, _, rfl, by show 0 ≤ sizeLine; decide, fun kp0 nkp0 => ?_⟩
      have s0 := same_upd nkp0 (o := .lst [])
      refine ⟨tq, ea, kp0, es, [], Tk, rfl, SqT.ext (si.trans s0) eq, (si.trans s0) _ _ ee6, ⟨[], upd_same, .nil⟩, hen, by omega, wk, by have := ht_le wk; omega, (by intro _ h; cases h), by show 0 + Tk.sz ≤ _; omega, fun H7 kp s7 tk => ?_⟩
      have s67 := (si.trans s0).trans s7
      have hwa := post_wf Tk [] wk (by intro _ h; cases h)
      have hnds := post_nds Tk [] (by intro _ h; cases h)
      have hclo : Clo (post [] Tk) := post_clo Tk [] (by intro _ _ _ h; cases h)
      have hself := post_self Tk []
      have hlen := post_len Tk []
      generalize hacc0 : post [] Tk = acc at tk hwa hnds hclo hself hlen
      have hlen : acc.length ≤ 1000 := by
        have h2 : ([] : List Bd).length = 0 := rfl
        omega
      have hacc : ∀ b ∈ acc, Wf es b ∧ ∃ e w t, b = .nd e w t := fun b hb => ⟨hwa b hb, hnds b hb⟩
      obtain ⟨kv, ekv, lkv, gkv⟩ := tk.get
      refine ⟨by show 0 ≤ sizeLine; decide, fun nl nnl => ?_⟩
      have sn := same_upd nnl (o := .lst [])
      refine ⟨_, rfl, kp, rfl, ⟨_, .of (sn _ _ ekv)⟩, ?_⟩
      refine for_list (K := K) (a := kp) (xs := kv) (fun j σ Hj => Same H7 Hj ∧ (∃ z10 z11 z12 z18, σ = [some (.ref a), some (.ref d), some (.ref ea), some (.ref sa.p), some (.int ((i : Nat) : Int)), some (.ref D), some (.ref B), some (.ref T), some (.ref kp), some (.ref nl), z10, z11, z12, z13, z14, z15, z16, z17, z18]) ∧ ∃ xs, Hj nl = some (.lst xs) ∧ DpAll K Hj xs ((acc.take j).map (rowD acc))) ⟨sn, ⟨_, _, _, _, rfl⟩, [], upd_same, .nil⟩ (fun j σ Hj _ hp => .of (hp.1 _ _ ekv)) (fun j x σ Hj hx hp => ?_) (fun σ Hm hp => ?_)
      · obtain ⟨sj, ⟨z10, z11, z12, z18, rfl⟩, xs, exs, dxs⟩ := hp
        obtain ⟨q1, b1, rfl, hb1, eq1⟩ := gkv j x hx
        have hj : j < acc.length := (List.getElem?_eq_some_iff.mp hb1).1
        have hbm := List.mem_of_getElem? hb1
        obtain ⟨e, w, t, rfl⟩ := hnds b1 hbm
        have wb := hwa _ hbm
        obtain ⟨w1, w2⟩ := wf_kids wb
        obtain ⟨c1, c2⟩ := hclo e w t hbm
        obtain ⟨t1, t2, t3, t4, t5, t6⟩ := fix_top hen wb
        have s6j := s67.trans sj
        refine ⟨_, rfl, _, rfl, ea, _, rfl, .inl (.of (s6j _ _ ee6)), ?_⟩
        rw [List.length_map]
        refine ⟨q1, es, _, rfl, SqT.ext sj eq1, wb, hen, by omega, fun H8 s8 => ?_⟩
        have sj8 := sj.trans s8
        -- both sides' numbers
        refine ⟨by show 2 ≤ sizeLine; decide, fun sq nsq => ?_⟩
        have s9 := same_upd nsq (o := .tup [.int 0, .int 1])
        have e9 : (upd H8 sq (.tup [.int 0, .int 1])) sq = some (.tup (([false, true] : List Bool).map fun b => .int (bI b))) := upd_same
        generalize upd H8 sq (.tup [.int 0, .int 1]) = H9 at s9 e9
        refine ⟨sq, rfl, ⟨_, .of e9⟩, fun PD nPD => ?_⟩
        refine lc_tup (K := K) (a := sq) (xs := ([false, true] : List Bool).map fun b => .int (bI b)) (fun m Hm => Same H9 Hm ∧ Hm PD = some (.lst ((([false, true] : List Bool).take m).map fun b => .int ((nmb acc (if b = true then t else w) : Nat) : Int)))) ⟨same_upd nPD, upd_same⟩ (fun m Hm _ hp => .of (hp.1 _ _ e9)) (fun m y Hm hy hp => ?_) (fun Hm hp => ?_)
        · obtain ⟨sm, ePD⟩ := hp
          rw [List.getElem?_map] at hy
          obtain ⟨b, hb, rfl⟩ := Option.map_eq_some_iff.mp hy
          have hm2 : m < 2 := (List.getElem?_eq_some_iff.mp hb).1
          refine ⟨rfl, ?_⟩
          refine ⟨_, rfl, _, rfl, _, rfl, q1, _, es.idxOf e, b, es.length, rfl, SqT.ext ((sj8.trans s9).trans sm) eq1, tt_len es _, t4, by omega, fun Hx qx sx ex => ?_⟩
          have efx : fixL (tt es (.nd e w t)) (es.idxOf e) b = tt es (if b = true then t else w) := by
            cases b
            · exact t1
            · exact t2
          rw [efx] at ex
          refine ⟨_, rfl, qx, kp, es, acc, _, rfl, .of ex, tk.ext (((sj8.trans s9).trans sm).trans sx), hen, ?_, hacc, ?_, fun Hy sy => ?_⟩
          · cases b
            · exact w1
            · exact w2
          · cases b
            · exact c1
            · exact c2
          · have sxy := sx.trans sy
            refine ⟨_, sxy _ _ ePD, ?_, ?_, ?_⟩
            · rw [List.length_map, List.length_take]
              exact Nat.lt_of_le_of_lt (m := 100) (by omega) (by decide)
            · intro z o hz
              rw [upd_ne (ne_of_none hz nPD)]
              exact sxy _ _ (sm _ _ hz)
            · rw [upd_same, List.take_add_one, hb, List.map_append]
              rfl
        · obtain ⟨sm, ePD⟩ := hp
          have ePD : Hm PD = some (.lst [.int ((nmb acc w : Nat) : Int), .int ((nmb acc t : Nat) : Int)]) := ePD
          have s89 := (s8.trans s9).trans sm
          have exs' := s89 _ _ exs
          have hat : atI (es.map V.int) ((es.idxOf e : Nat) : Int) = some (.int e) := atI_nat (by rw [List.getElem?_map, t5]; rfl)
          refine ⟨_, rfl, .inl ⟨rfl, _, .inl (.inl exs')⟩, ?_⟩
          refine ⟨_, rfl, _, rfl, ea, _, _, _, rfl, rfl, .of ((s6j.trans s89) _ _ ee6), hat, _, rfl, PD, _, 0, _, rfl, rfl, .of ePD, atI_nat (j := 0) rfl, _, rfl, PD, _, 1, _, rfl, rfl, .of ePD, atI_nat (j := 1) rfl, by show 3 ≤ sizeLine; decide, fun rq nrq => ?_⟩
          have sr := same_upd nrq (o := .tup [.int e, .int ((nmb acc w : Nat) : Int), .int ((nmb acc t : Nat) : Int)])
          have dr : Dp K (upd Hm rq (.tup [.int e, .int ((nmb acc w : Nat) : Int), .int ((nmb acc t : Nat) : Int)])) (.ref rq) (rowD acc (.nd e w t)) := .tup (.of upd_same) (.cons (.int _) (.cons (.int _) (.cons (.int _) .nil)))
          generalize upd Hm rq (.tup [.int e, .int ((nmb acc w : Nat) : Int), .int ((nmb acc t : Nat) : Int)]) = Hr at sr dr
          have exr := sr _ _ exs'
          have lxs : xs.length = j := by
            rw [DpAll.len dxs, List.length_map, List.length_take]
            omega
          refine ⟨nl, _, _, rfl, rfl, exr, by rw [lxs]; exact Nat.lt_of_le_of_lt (m := 1000) (by omega) (by decide), ?_, ⟨_, _, _, _, rfl⟩, xs ++ [.ref rq], upd_same, ?_⟩
          · intro z o hz
            rw [upd_ne (ne_of_none hz nnl)]
            exact sr _ _ (s89 _ _ (sj _ _ hz))
          · rw [List.take_add_one, hb1, List.map_append]
            exact DpAll.snoc (DpAll.away exr _ _ (rows_only acc _) (DpAll.ext (s89.trans sr) _ _ dxs)) (Dp.away exr _ _ rfl dr)
      · obtain ⟨sm, ⟨z10, z11, z12, z18, rfl⟩, xs, exs, dxs⟩ := hp
        rw [lkv, List.take_of_length_le (Nat.le_refl _)] at dxs
        have s6m := s67.trans sm
        have stm2 := st6.ext s6m
        refine ⟨_, rfl, stm2.go (by decide +kernel) (by decide +kernel) (by decide +kernel) ⟨_, rfl, _, rfl, B, _, _, _, rfl, rfl, .of (s6m _ _ eB6), atI_nat hck, ?_⟩⟩
        refine ⟨sa, N, es, _, ck, Tk, rfl, stm2, ak, zk, fun H9 q9 nl9 xs9 s9 e9 nnl9 enl9 dxs9 => ?_⟩
        rw [hacc0] at e9 dxs9
        have s69 := s6m.trans s9
        refine ⟨_, rfl, _, rfl, _, rfl, T, _, _, _, rfl, rfl, .of (s69 _ _ eT6), atI_nat htq, _, rfl, ?_⟩
        refine ⟨tq, kp, es, acc, Tk, rfl, SqT.ext s69 eq, tk.ext (sm.trans s9), hen, wk, hacc, hself, fun H10 s10 => ?_⟩
        refine ⟨by show 2 ≤ sizeLine; decide, fun pq npq => ?_⟩
        have s11 := s10.trans (same_upd npq (o := .tup [.ref nl, .int ((nmb acc Tk : Nat) : Int)]))
        refine ⟨.ref q9, .ref pq, .tuple [.list (acc.map (rowD acc)), .int ((nmb acc Tk : Nat) : Int)], 4, rfl, rfl, ?_, .tup (.of (s11 _ _ e9)) (.cons (.lst (.of (s11 _ _ enl9)) (DpAll.ext s11 _ _ dxs9)) (.cons (.int _) .nil)), .tup (.of upd_same) (.cons (.lst (.of ((s9.trans s11) _ _ exs)) (DpAll.ext (s9.trans s11) _ _ dxs)) (.cons (.int _) .nil)), fun Hs ss => ?_⟩
        · refine .tup (by show 2 ≤ 100000; decide) fun x hx => ?_
          rcases List.mem_cons.mp hx with rfl | hx
          · refine .lst (by rw [List.length_map]; omega) fun y hy => ?_
            obtain ⟨b, _, rfl⟩ := List.mem_map.mp hy
            cases b with
            | lf v => exact .non
            | nd e w t =>
              refine .tup (by show 3 ≤ 100000; decide) fun z hz => ?_
              simp only [List.mem_cons, List.not_mem_nil, or_false] at hz
              rcases hz with rfl | rfl | rfl <;> exact .int _
          · rw [List.mem_singleton.mp hx]
            exact .int _
        · refine ⟨_, rfl, ?_⟩
          show if (!true) = true then _ else _
          exact iteF ⟨(s69.trans s11).trans ss, _, _, _, _, _, _, _, _, _, _, _, _, rfl⟩
    · obtain ⟨sn, z4, z8, z9, z10, z11, z12, z13, z14, z15, z16, z17, z18, rfl⟩ := hp
      have drn := dr6.ext sn
      have eBn := sn _ _ eB6
      refine ⟨_, rfl, d, c, 4, rfl, drn, by decide, by decide, fun H7 r f7 _ dr7 r0 r1 => ?_⟩
      obtain ⟨many, rfl⟩ := Int.eq_ofNat_of_zero_le r0
      have nBd : B ≠ d := by
        obtain ⟨zs, hz⟩ := dr4.lst
        exact (ne_of_none hz nB).symm
      have eB7 := f7 _ _ nBd eBn
      refine ⟨_, rfl, _, rfl, _, rfl, B, _, rfl, .of eB7, fun p1 np1 => ?_⟩
      rw [cut_take]
      have s1' := same_upd np1 (o := .lst ((natsV cs).take many))
      have e1' : (upd H7 p1 (.lst ((natsV cs).take many))) p1 = some (.lst ((natsV cs).take many)) := upd_same
      have dr8 := dr7.ext s1'
      have np1d := dr7.nd np1
      generalize upd H7 p1 (.lst ((natsV cs).take many)) = H8 at s1' e1' dr8
      refine ⟨_, rfl, _, rfl, d, c, 2, rfl, dr8, by decide, by decide, fun H9 r2 f9 _ dr9 r20 r21 => ?_⟩
      obtain ⟨m2, rfl⟩ := Int.eq_ofNat_of_zero_le r20
      have eB9 := f9 _ _ nBd (s1' _ _ eB7)
      have e19 := f9 _ _ np1d e1'
      refine ⟨_, rfl, B, _, rfl, .of eB9, fun p2 np2 => ?_⟩
      rw [cut_take]
      have s2' := same_upd np2 (o := .lst ((natsV cs).take m2))
      have e2' : (upd H9 p2 (.lst ((natsV cs).take m2))) p2 = some (.lst ((natsV cs).take m2)) := upd_same
      generalize upd H9 p2 (.lst ((natsV cs).take m2)) = H10 at s2' e2'
      have f610 : Fd d H6 H10 := ((((Fd.of sn).trans f7).trans (Fd.of s1')).trans f9).trans (Fd.of s2')
      have hm4 : many < 4 := by omega
      have hm2 : m2 < 2 := by omega
      have lnat : (natsV cs).length = 3 := by unfold natsV; rw [List.length_map, lcs]
      have e19' := s2' _ _ e19
      have szz : ∀ {n : Nat}, n ≤ 100 → n ≤ sizeLine := fun h => Nat.le_trans h (by decide)
      refine ⟨p1, p2, _, _, rfl, rfl, e19', e2', szz (by rw [List.length_take, List.length_take]; omega), fun hq nhq => ?_⟩
      have ent : (natsV cs).take many ++ (natsV cs).take m2 = natsV (cs.take many ++ cs.take m2) := by unfold natsV; rw [List.map_append, List.map_take, List.map_take]
      rw [ent]
      have sh := same_upd nhq (o := .lst (natsV (cs.take many ++ cs.take m2)))
      have eh : (upd H10 hq (.lst (natsV (cs.take many ++ cs.take m2)))) hq = some (.lst (natsV (cs.take many ++ cs.take m2))) := upd_same
      generalize upd H10 hq (.lst (natsV (cs.take many ++ cs.take m2))) = H11 at sh eh
      refine ⟨_, rfl, hq, _, rfl, .inl (.of eh), fun kq nkq => ?_⟩
      have sk := same_upd nkq (o := .lst (natsV (cs.take many ++ cs.take m2)))
      have ekq : (upd H11 kq (.lst (natsV (cs.take many ++ cs.take m2)))) kq = some (.lst (natsV (cs.take many ++ cs.take m2))) := upd_same
      generalize upd H11 kq (.lst (natsV (cs.take many ++ cs.take m2))) = H12 at sk ekq
      have eh12 := sk _ _ eh
      have nTd : T ≠ d := by
        obtain ⟨zs, hz⟩ := dr5.lst
        exact (ne_of_none hz nT).symm
      have f612 : Fd d H6 H12 := (f610.trans (Fd.of sh)).trans (Fd.of sk)
      have eT12 := f612 _ _ nTd eT6
      have tT12 : TtL K H12 T es Ts := by
        obtain ⟨vs, g1, g2⟩ := tT
        exact ⟨vs, f612 _ _ nTd g1, DpAll.fd dr6.lst f612 _ _ (bDt_only es Ts) g2⟩
      have ee12 := f612 _ _ en4.1 ee6
      have st12 := st6.fd dr6.lst dk.1 f612
      obtain ⟨tv', g1', dT12⟩ := id tT12
      have etv : tv' = tv := by rw [eT12] at g1'; exact (HO.lst.inj (Option.some.inj g1')).symm
      subst etv
      -- all their diagrams
      refine ⟨_, rfl, _, rfl, _, rfl, T, _, rfl, .of eT12, fun p3 np3 => ?_⟩
      rw [cut_take]
      have s3' := same_upd np3 (o := .lst (tv'.take many))
      have e3' : (upd H12 p3 (.lst (tv'.take many))) p3 = some (.lst (tv'.take many)) := upd_same
      generalize upd H12 p3 (.lst (tv'.take many)) = H13 at s3' e3'
      refine ⟨_, rfl, _, rfl, hq, _, rfl, .inl (.of (s3' _ _ eh12)), ?_⟩
      have elen : (natsV (cs.take many ++ cs.take m2)).length = many + m2 := by
        rw [← ent, List.length_append, List.length_take, List.length_take]
        omega
      rw [elen]
      refine ⟨_, rfl, _, _, rfl, rfl, _, rfl, ?_⟩
      rw [show ((many + m2 : Nat) : Int) - (many : Int) = ((m2 : Nat) : Int) by omega]
      refine ⟨T, _, rfl, .of (s3' _ _ eT12), fun p4 np4 => ?_⟩
      rw [cut_take]
      have s4' := same_upd np4 (o := .lst (tv'.take m2))
      have e4' : (upd H13 p4 (.lst (tv'.take m2))) p4 = some (.lst (tv'.take m2)) := upd_same
      generalize upd H13 p4 (.lst (tv'.take m2)) = H14 at s4' e4'
      refine ⟨p3, p4, _, _, rfl, rfl, s4' _ _ e3', e4', szz (by rw [List.length_take, List.length_take]; omega), fun p5 np5 => ?_⟩
      have s5' := same_upd np5 (o := .lst (tv'.take many ++ tv'.take m2))
      have e5' : (upd H14 p5 (.lst (tv'.take many ++ tv'.take m2))) p5 = some (.lst (tv'.take many ++ tv'.take m2)) := upd_same
      generalize upd H14 p5 (.lst (tv'.take many ++ tv'.take m2)) = H15 at s5' e5'
      have s1215 := (s3'.trans s4').trans s5'
      refine ⟨_, rfl, ea, _, rfl, .inl (.of (s1215 _ _ ee12)), ?_⟩
      rw [List.length_map]
      have mTs : ∀ X ∈ Ts.take many ++ Ts.take m2, X ∈ Ts := fun X hX => by
        rcases List.mem_append.mp hX with hX | hX
        · exact List.mem_of_mem_take hX
        · exact List.mem_of_mem_take hX
      refine ⟨p5, es, Ts.take many ++ Ts.take m2, rfl, ⟨_, e5', ?_⟩, hen, by omega, fun X hX => wTs X (mTs X hX), by rw [List.length_append, List.length_take, List.length_take]; omega, fun X hX => szTs X (mTs X hX), fun H16 dq fs s16 td nfs mfs => ?_⟩
      · rw [List.map_append, List.map_take, List.map_take]
        exact DpAll.ext s1215 _ _ (DpAll.app (DpAll.take many dT12) (DpAll.take m2 dT12))
      obtain ⟨dv, edq, ldv, _⟩ := td.get
      refine ⟨dq, _, rfl, .inl (.of edq), ?_⟩
      rw [ldv]
      have s1216 := s1215.trans s16
      have st16 := st12.ext s1216
      have eh16 := s1216 _ _ eh12
      have ek16 := s1216 _ _ ekq
      refine ⟨_, rfl, st16.go (by decide +kernel) (by decide +kernel) (by decide +kernel) ⟨_, rfl, ?_⟩⟩
      refine ⟨sa, N, es, _, hq, cs.take many ++ cs.take m2, Ts.take many ++ Ts.take m2, rfl, st16, .of eh16, (Rel2.take many rel).app (Rel2.take m2 rel), by rw [List.length_append, List.length_take, List.length_take]; omega, fun X hX => szTs X (mTs X hX), fun H17 s17 => ?_⟩
      have esz : ((Ts.take many ++ Ts.take m2).reverse.foldl post []).length = fs.length := by
        refine same_len (posts_nodup _ _ List.nodup_nil) nfs fun x => ?_
        rw [posts_iff (by intro _ _ _ h; cases h), mfs]
        constructor
        · rintro (h | ⟨b, hb, h⟩)
          · cases h
          · exact ⟨b, List.mem_reverse.mp hb, h⟩
        · rintro ⟨b, hb, h⟩
          exact .inr ⟨b, List.mem_reverse.mpr hb, h⟩
      rw [esz]
      refine ⟨_, rfl, _, _, .int ((fs.length : Nat) : Int), 4, rfl, rfl, .int _, .int _, .int _, fun H18 s18 => ?_⟩
      refine ⟨_, rfl, iteT ?_⟩
      have eni : natsV (cs.take many ++ cs.take m2) = ((cs.take many ++ cs.take m2).map fun c : Nat => (c : Int)).map V.int := by unfold natsV; rw [List.map_map]; rfl
      rw [eni] at eh16 ek16
      refine ⟨_, rfl, _, rfl, _, _, dp_ints (.of ((s17.trans s18) _ _ eh16)), dp_ints (.of ((s17.trans s18) _ _ ek16)), ints_shaped _, ints_shaped _, ?_⟩
      rw [ints_eqv]
      exact q _
end

set_option maxHeartbeats 0 in
theorem all_mk {l : PySem.W.OpenLaw} {w : World} {K : PySem.W.Frag} {h : Heap} {mg : Str → Option Value} {fa : Addr} (X : K.In h) (G : h.Ns mainGlobals mg) (hfa : mg "law" = some (.ref fa))
    {od0 an0 : Option Addr} {sl0 : Array (Option Value)} {oc0 kV0 dc0 pm0 cd0 ct0 : Value} {f0 : Addr}
    {od1 an1 : Option Addr} {sl1 : Array (Option Value)} {oc1 kV1 dc1 pm1 cd1 ct1 : Value} {f1 : Addr}
    {od2 an2 : Option Addr} {sl2 : Array (Option Value)} {oc2 kV2 dc2 pm2 cd2 ct2 : Value} {f2 : Addr}
    {od3 an3 : Option Addr} {sl3 : Array (Option Value)} {oc3 kV3 dc3 pm3 cd3 ct3 : Value} {f3 : Addr}
    {od4 an4 : Option Addr} {sl4 : Array (Option Value)} {oc4 kV4 dc4 pm4 cd4 ct4 : Value} {f4 : Addr}
    {od5 an5 : Option Addr} {sl5 : Array (Option Value)} {oc5 kV5 dc5 pm5 cd5 ct5 : Value} {f5 : Addr}
    {od6 an6 : Option Addr} {sl6 : Array (Option Value)} {oc6 kV6 dc6 pm6 cd6 ct6 : Value} {f6 : Addr}
    {od7 an7 : Option Addr} {sl7 : Array (Option Value)} {oc7 kV7 dc7 pm7 cd7 ct7 : Value} {f7 : Addr}
    {od8 an8 : Option Addr} {sl8 : Array (Option Value)} {oc8 kV8 dc8 pm8 cd8 ct8 : Value} {f8 : Addr}
    {od9 an9 : Option Addr} {sl9 : Array (Option Value)} {oc9 kV9 dc9 pm9 cd9 ct9 : Value} {f9 : Addr}
    {od10 an10 : Option Addr} {sl10 : Array (Option Value)} {oc10 kV10 dc10 pm10 cd10 ct10 : Value} {f10 : Addr}
    {od11 an11 : Option Addr} {sl11 : Array (Option Value)} {oc11 kV11 dc11 pm11 cd11 ct11 : Value} {f11 : Addr}
    {od12 an12 : Option Addr} {sl12 : Array (Option Value)} {oc12 kV12 dc12 pm12 cd12 ct12 : Value} {f12 : Addr}
    {od13 an13 : Option Addr} {sl13 : Array (Option Value)} {oc13 kV13 dc13 pm13 cd13 ct13 : Value} {f13 : Addr}
    {od14 an14 : Option Addr} {sl14 : Array (Option Value)} {oc14 kV14 dc14 pm14 cd14 ct14 : Value} {f14 : Addr}
    {od15 an15 : Option Addr} {sl15 : Array (Option Value)} {oc15 kV15 dc15 pm15 cd15 ct15 : Value} {f15 : Addr}
    {od16 an16 : Option Addr} {sl16 : Array (Option Value)} {oc16 kV16 dc16 pm16 cd16 ct16 : Value} {f16 : Addr}
    {od17 an17 : Option Addr} {sl17 : Array (Option Value)} {oc17 kV17 dc17 pm17 cd17 ct17 : Value} {f17 : Addr}
    {od18 an18 : Option Addr} {sl18 : Array (Option Value)} {oc18 kV18 dc18 pm18 cd18 ct18 : Value} {f18 : Addr}
    {od19 an19 : Option Addr} {sl19 : Array (Option Value)} {oc19 kV19 dc19 pm19 cd19 ct19 : Value} {f19 : Addr}
    {od20 an20 : Option Addr} {sl20 : Array (Option Value)} {oc20 kV20 dc20 pm20 cd20 ct20 : Value} {f20 : Addr}
    {od21 an21 : Option Addr} {sl21 : Array (Option Value)} {oc21 kV21 dc21 pm21 cd21 ct21 : Value} {f21 : Addr}
    {od22 an22 : Option Addr} {sl22 : Array (Option Value)} {oc22 kV22 dc22 pm22 cd22 ct22 : Value} {f22 : Addr}
    {od23 an23 : Option Addr} {sl23 : Array (Option Value)} {oc23 kV23 dc23 pm23 cd23 ct23 : Value} {f23 : Addr}
    {od24 an24 : Option Addr} {sl24 : Array (Option Value)} {oc24 kV24 dc24 pm24 cd24 ct24 : Value} {f24 : Addr}
    {od25 an25 : Option Addr} {sl25 : Array (Option Value)} {oc25 kV25 dc25 pm25 cd25 ct25 : Value} {f25 : Addr}
    {od26 an26 : Option Addr} {sl26 : Array (Option Value)} {oc26 kV26 dc26 pm26 cd26 ct26 : Value} {f26 : Addr}
    {od27 an27 : Option Addr} {sl27 : Array (Option Value)} {oc27 kV27 dc27 pm27 cd27 ct27 : Value} {f27 : Addr}
    {od28 an28 : Option Addr} {sl28 : Array (Option Value)} {oc28 kV28 dc28 pm28 cd28 ct28 : Value} {f28 : Addr}
    {C_Diagrams : Addr}
    (a0 : PySem.W.findIn K (.ref C_Diagrams) "__init__" = some (some (.ref f0))) (i0 : PySem.W.isFn K (.ref f0) = true) (l0 : K.lookup f0 = some ⟨oc0, od0, .func (PySem.W.fnOf "__init__" "Diagrams.__init__" (defArgs s_Diagrams___init__) (defBody s_Diagrams___init__) (defScope s_Diagrams___init__) .none kV0 dc0 pm0 an0 cd0 ct0), sl0⟩) (c0 : PySem.W.codeIn K cd0 "Diagrams.__init__" = true) (k0 : PySem.W.keepIn K (.ref f0) = true)
    (a1 : PySem.W.findIn K (.ref C_Diagrams) "there" = some (some (.ref f1))) (i1 : PySem.W.isFn K (.ref f1) = true) (l1 : K.lookup f1 = some ⟨oc1, od1, .func (PySem.W.fnOf "there" "Diagrams.there" (defArgs s_Diagrams_there) (defBody s_Diagrams_there) (defScope s_Diagrams_there) .none kV1 dc1 pm1 an1 cd1 ct1), sl1⟩) (c1 : PySem.W.codeIn K cd1 "Diagrams.there" = true) (k1 : PySem.W.keepIn K (.ref f1) = true)
    (a2 : PySem.W.findIn K (.ref C_Diagrams) "conjunction" = some (some (.ref f2))) (i2 : PySem.W.isFn K (.ref f2) = true) (l2 : K.lookup f2 = some ⟨oc2, od2, .func (PySem.W.fnOf "conjunction" "Diagrams.conjunction" (defArgs s_Diagrams_conjunction) (defBody s_Diagrams_conjunction) (defScope s_Diagrams_conjunction) .none kV2 dc2 pm2 an2 cd2 ct2), sl2⟩) (c2 : PySem.W.codeIn K cd2 "Diagrams.conjunction" = true) (k2 : PySem.W.keepIn K (.ref f2) = true)
    (a3 : PySem.W.findIn K (.ref C_Diagrams) "disjunction" = some (some (.ref f3))) (i3 : PySem.W.isFn K (.ref f3) = true) (l3 : K.lookup f3 = some ⟨oc3, od3, .func (PySem.W.fnOf "disjunction" "Diagrams.disjunction" (defArgs s_Diagrams_disjunction) (defBody s_Diagrams_disjunction) (defScope s_Diagrams_disjunction) .none kV3 dc3 pm3 an3 cd3 ct3), sl3⟩) (c3 : PySem.W.codeIn K cd3 "Diagrams.disjunction" = true) (k3 : PySem.W.keepIn K (.ref f3) = true)
    (a4 : PySem.W.findIn K (.ref C_Diagrams) "negation" = some (some (.ref f4))) (i4 : PySem.W.isFn K (.ref f4) = true) (l4 : K.lookup f4 = some ⟨oc4, od4, .func (PySem.W.fnOf "negation" "Diagrams.negation" (defArgs s_Diagrams_negation) (defBody s_Diagrams_negation) (defScope s_Diagrams_negation) .none kV4 dc4 pm4 an4 cd4 ct4), sl4⟩) (c4 : PySem.W.codeIn K cd4 "Diagrams.negation" = true) (k4 : PySem.W.keepIn K (.ref f4) = true)
    (a5 : PySem.W.findIn K (.ref C_Diagrams) "differs" = some (some (.ref f5))) (i5 : PySem.W.isFn K (.ref f5) = true) (l5 : K.lookup f5 = some ⟨oc5, od5, .func (PySem.W.fnOf "differs" "Diagrams.differs" (defArgs s_Diagrams_differs) (defBody s_Diagrams_differs) (defScope s_Diagrams_differs) .none kV5 dc5 pm5 an5 cd5 ct5), sl5⟩) (c5 : PySem.W.codeIn K cd5 "Diagrams.differs" = true) (k5 : PySem.W.keepIn K (.ref f5) = true)
    (a6 : PySem.W.findIn K (.ref C_Diagrams) "size" = some (some (.ref f6))) (i6 : PySem.W.isFn K (.ref f6) = true) (l6 : K.lookup f6 = some ⟨oc6, od6, .func (PySem.W.fnOf "size" "Diagrams.size" (defArgs s_Diagrams_size) (defBody s_Diagrams_size) (defScope s_Diagrams_size) .none kV6 dc6 pm6 an6 cd6 ct6), sl6⟩) (c6 : PySem.W.codeIn K cd6 "Diagrams.size" = true) (k6 : PySem.W.keepIn K (.ref f6) = true)
    (a7 : PySem.W.findIn K (.ref C_Diagrams) "table" = some (some (.ref f7))) (i7 : PySem.W.isFn K (.ref f7) = true) (l7 : K.lookup f7 = some ⟨oc7, od7, .func (PySem.W.fnOf "table" "Diagrams.table" (defArgs s_Diagrams_table) (defBody s_Diagrams_table) (defScope s_Diagrams_table) .none kV7 dc7 pm7 an7 cd7 ct7), sl7⟩) (c7 : PySem.W.codeIn K cd7 "Diagrams.table" = true) (k7 : PySem.W.keepIn K (.ref f7) = true)
    (a8 : PySem.W.findIn K (.ref C_Diagrams) "listed" = some (some (.ref f8))) (i8 : PySem.W.isFn K (.ref f8) = true) (l8 : K.lookup f8 = some ⟨oc8, od8, .func (PySem.W.fnOf "listed" "Diagrams.listed" (defArgs s_Diagrams_listed) (defBody s_Diagrams_listed) (defScope s_Diagrams_listed) .none kV8 dc8 pm8 an8 cd8 ct8), sl8⟩) (c8 : PySem.W.codeIn K cd8 "Diagrams.listed" = true) (k8 : PySem.W.keepIn K (.ref f8) = true)
    (a9 : PySem.W.findIn K (.ref C_Diagrams) "top" = some (some (.ref f9))) (i9 : PySem.W.isFn K (.ref f9) = true) (l9 : K.lookup f9 = some ⟨oc9, od9, .func (PySem.W.fnOf "top" "Diagrams.top" (defArgs s_Diagrams_top) (defBody s_Diagrams_top) (defScope s_Diagrams_top) .none kV9 dc9 pm9 an9 cd9 ct9), sl9⟩) (c9 : PySem.W.codeIn K cd9 "Diagrams.top" = true) (k9 : PySem.W.keepIn K (.ref f9) = true)
    (a10 : PySem.W.findIn K (.ref C_Diagrams) "branches" = some (some (.ref f10))) (i10 : PySem.W.isFn K (.ref f10) = true) (l10 : K.lookup f10 = some ⟨oc10, od10, .func (PySem.W.fnOf "branches" "Diagrams.branches" (defArgs s_Diagrams_branches) (defBody s_Diagrams_branches) (defScope s_Diagrams_branches) .none kV10 dc10 pm10 an10 cd10 ct10), sl10⟩) (c10 : PySem.W.codeIn K cd10 "Diagrams.branches" = true) (k10 : PySem.W.keepIn K (.ref f10) = true)
    (a11 : PySem.W.findIn K (.ref C_Diagrams) "node_of" = some (some (.ref f11))) (i11 : PySem.W.isFn K (.ref f11) = true) (l11 : K.lookup f11 = some ⟨oc11, od11, .func (PySem.W.fnOf "node_of" "Diagrams.node_of" (defArgs s_Diagrams_node_of) (defBody s_Diagrams_node_of) (defScope s_Diagrams_node_of) .none kV11 dc11 pm11 an11 cd11 ct11), sl11⟩) (c11 : PySem.W.codeIn K cd11 "Diagrams.node_of" = true) (k11 : PySem.W.keepIn K (.ref f11) = true)
    (a12 : PySem.W.findIn K (.ref C_Diagrams) "node" = some (some (.ref f12))) (i12 : PySem.W.isFn K (.ref f12) = true) (l12 : K.lookup f12 = some ⟨oc12, od12, .func (PySem.W.fnOf "node" "Diagrams.node" (defArgs s_Diagrams_node) (defBody s_Diagrams_node) (defScope s_Diagrams_node) .none kV12 dc12 pm12 an12 cd12 ct12), sl12⟩) (c12 : PySem.W.codeIn K cd12 "Diagrams.node" = true) (k12 : PySem.W.keepIn K (.ref f12) = true)
    (a13 : PySem.W.findIn K (.ref C_Diagrams) "combine" = some (some (.ref f13))) (i13 : PySem.W.isFn K (.ref f13) = true) (l13 : K.lookup f13 = some ⟨oc13, od13, .func (PySem.W.fnOf "combine" "Diagrams.combine" (defArgs s_Diagrams_combine) (defBody s_Diagrams_combine) (defScope s_Diagrams_combine) .none kV13 dc13 pm13 an13 cd13 ct13), sl13⟩) (c13 : PySem.W.codeIn K cd13 "Diagrams.combine" = true) (k13 : PySem.W.keepIn K (.ref f13) = true)
    (a14 : PySem.W.nsIn K mainGlobals "_law_draw" = some (some (.ref f14))) (l14 : K.lookup f14 = some ⟨oc14, od14, .func (PySem.W.fnOf "_law_draw" "_law_draw" (defArgs s__law_draw) (defBody s__law_draw) (defScope s__law_draw) .none kV14 dc14 pm14 an14 cd14 ct14), sl14⟩) (c14 : PySem.W.codeIn K cd14 "_law_draw" = true) (k14 : PySem.W.keepIn K (.ref f14) = true)
    (a15 : PySem.W.nsIn K mainGlobals "_law_next" = some (some (.ref f15))) (l15 : K.lookup f15 = some ⟨oc15, od15, .func (PySem.W.fnOf "_law_next" "_law_next" (defArgs s__law_next) (defBody s__law_next) (defScope s__law_next) .none kV15 dc15 pm15 an15 cd15 ct15), sl15⟩) (c15 : PySem.W.codeIn K cd15 "_law_next" = true) (k15 : PySem.W.keepIn K (.ref f15) = true)
    (a16 : PySem.W.nsIn K mainGlobals "_law_same" = some (some (.ref f16))) (l16 : K.lookup f16 = some ⟨oc16, od16, .func (PySem.W.fnOf "_law_same" "_law_same" (defArgs s__law_same) (defBody s__law_same) (defScope s__law_same) .none kV16 dc16 pm16 an16 cd16 ct16), sl16⟩) (c16 : PySem.W.codeIn K cd16 "_law_same" = true) (k16 : PySem.W.keepIn K (.ref f16) = true)
    (a17 : PySem.W.nsIn K mainGlobals "_law_entries" = some (some (.ref f17))) (l17 : K.lookup f17 = some ⟨oc17, od17, .func (PySem.W.fnOf "_law_entries" "_law_entries" (defArgs s__law_entries) (defBody s__law_entries) (defScope s__law_entries) .none kV17 dc17 pm17 an17 cd17 ct17), sl17⟩) (c17 : PySem.W.codeIn K cd17 "_law_entries" = true) (k17 : PySem.W.keepIn K (.ref f17) = true)
    (a18 : PySem.W.nsIn K mainGlobals "_law_tree" = some (some (.ref f18))) (l18 : K.lookup f18 = some ⟨oc18, od18, .func (PySem.W.fnOf "_law_tree" "_law_tree" (defArgs s__law_tree) (defBody s__law_tree) (defScope s__law_tree) .none kV18 dc18 pm18 an18 cd18 ct18), sl18⟩) (c18 : PySem.W.codeIn K cd18 "_law_tree" = true) (k18 : PySem.W.keepIn K (.ref f18) = true)
    (a19 : PySem.W.nsIn K mainGlobals "_law_build" = some (some (.ref f19))) (l19 : K.lookup f19 = some ⟨oc19, od19, .func (PySem.W.fnOf "_law_build" "_law_build" (defArgs s__law_build) (defBody s__law_build) (defScope s__law_build) .none kV19 dc19 pm19 an19 cd19 ct19), sl19⟩) (c19 : PySem.W.codeIn K cd19 "_law_build" = true) (k19 : PySem.W.keepIn K (.ref f19) = true)
    (a20 : PySem.W.nsIn K mainGlobals "_law_true" = some (some (.ref f20))) (l20 : K.lookup f20 = some ⟨oc20, od20, .func (PySem.W.fnOf "_law_true" "_law_true" (defArgs s__law_true) (defBody s__law_true) (defScope s__law_true) .none kV20 dc20 pm20 an20 cd20 ct20), sl20⟩) (c20 : PySem.W.codeIn K cd20 "_law_true" = true) (k20 : PySem.W.keepIn K (.ref f20) = true)
    (a21 : PySem.W.nsIn K mainGlobals "_law_subsets" = some (some (.ref f21))) (l21 : K.lookup f21 = some ⟨oc21, od21, .func (PySem.W.fnOf "_law_subsets" "_law_subsets" (defArgs s__law_subsets) (defBody s__law_subsets) (defScope s__law_subsets) .none kV21 dc21 pm21 an21 cd21 ct21), sl21⟩) (c21 : PySem.W.codeIn K cd21 "_law_subsets" = true) (k21 : PySem.W.keepIn K (.ref f21) = true)
    (a22 : PySem.W.nsIn K mainGlobals "_law_truth" = some (some (.ref f22))) (l22 : K.lookup f22 = some ⟨oc22, od22, .func (PySem.W.fnOf "_law_truth" "_law_truth" (defArgs s__law_truth) (defBody s__law_truth) (defScope s__law_truth) .none kV22 dc22 pm22 an22 cd22 ct22), sl22⟩) (c22 : PySem.W.codeIn K cd22 "_law_truth" = true) (k22 : PySem.W.keepIn K (.ref f22) = true)
    (a23 : PySem.W.nsIn K mainGlobals "_law_fixed" = some (some (.ref f23))) (l23 : K.lookup f23 = some ⟨oc23, od23, .func (PySem.W.fnOf "_law_fixed" "_law_fixed" (defArgs s__law_fixed) (defBody s__law_fixed) (defScope s__law_fixed) .none kV23 dc23 pm23 an23 cd23 ct23), sl23⟩) (c23 : PySem.W.codeIn K cd23 "_law_fixed" = true) (k23 : PySem.W.keepIn K (.ref f23) = true)
    (a24 : PySem.W.nsIn K mainGlobals "_law_top" = some (some (.ref f24))) (l24 : K.lookup f24 = some ⟨oc24, od24, .func (PySem.W.fnOf "_law_top" "_law_top" (defArgs s__law_top) (defBody s__law_top) (defScope s__law_top) .none kV24 dc24 pm24 an24 cd24 ct24), sl24⟩) (c24 : PySem.W.codeIn K cd24 "_law_top" = true) (k24 : PySem.W.keepIn K (.ref f24) = true)
    (a25 : PySem.W.nsIn K mainGlobals "_law_diagrams" = some (some (.ref f25))) (l25 : K.lookup f25 = some ⟨oc25, od25, .func (PySem.W.fnOf "_law_diagrams" "_law_diagrams" (defArgs s__law_diagrams) (defBody s__law_diagrams) (defScope s__law_diagrams) .none kV25 dc25 pm25 an25 cd25 ct25), sl25⟩) (c25 : PySem.W.codeIn K cd25 "_law_diagrams" = true) (k25 : PySem.W.keepIn K (.ref f25) = true)
    (a26 : PySem.W.nsIn K mainGlobals "_law_listed" = some (some (.ref f26))) (l26 : K.lookup f26 = some ⟨oc26, od26, .func (PySem.W.fnOf "_law_listed" "_law_listed" (defArgs s__law_listed) (defBody s__law_listed) (defScope s__law_listed) .none kV26 dc26 pm26 an26 cd26 ct26), sl26⟩) (c26 : PySem.W.codeIn K cd26 "_law_listed" = true) (k26 : PySem.W.keepIn K (.ref f26) = true)
    (a27 : PySem.W.nsIn K mainGlobals "_law_number" = some (some (.ref f27))) (l27 : K.lookup f27 = some ⟨oc27, od27, .func (PySem.W.fnOf "_law_number" "_law_number" (defArgs s__law_number) (defBody s__law_number) (defScope s__law_number) .none kV27 dc27 pm27 an27 cd27 ct27), sl27⟩) (c27 : PySem.W.codeIn K cd27 "_law_number" = true) (k27 : PySem.W.keepIn K (.ref f27) = true)
    (a28 : PySem.W.nsIn K mainGlobals "law" = some (some (.ref f28))) (l28 : K.lookup f28 = some ⟨oc28, od28, .func (PySem.W.fnOf "law" "law" (defArgs s_law) (defBody s_law) (defScope s_law) .none kV28 dc28 pm28 an28 cd28 ct28), sl28⟩) (c28 : PySem.W.codeIn K cd28 "law" = true) (k28 : PySem.W.keepIn K (.ref f28) = true)
    {tk_NEVER : Tok} (w_NEVER : PySem.W.nsIn K mainGlobals "NEVER" = some (some (.int 0 tk_NEVER))) {tk_ALWAYS : Tok} (w_ALWAYS : PySem.W.nsIn K mainGlobals "ALWAYS" = some (some (.int 1 tk_ALWAYS))) {tk_FIRST_NODE : Tok} (w_FIRST_NODE : PySem.W.nsIn K mainGlobals "FIRST_NODE" = some (some (.int 2 tk_FIRST_NODE))) (aC_Diagrams : PySem.W.nsIn K mainGlobals "Diagrams" = some (some (.ref C_Diagrams))) (pg_Diagrams : PySem.W.plainGet K C_Diagrams Str.empty = true) (hd_Diagrams : PySem.W.hasDictIn K C_Diagrams = true) (po_Diagrams : PySem.W.plainOver K C_Diagrams = true) (sa_Diagrams : PySem.W.findIn K (.ref C_Diagrams) "__setattr__" = some (some (.builtin "object.__setattr__"))) (mk_Diagrams : PySem.W.makesIn K C_Diagrams = true) (kc_Diagrams : PySem.W.keepIn K (.ref C_Diagrams) = true) (nf_Diagrams_combined : PySem.W.findIn K (.ref C_Diagrams) "combined" = some none) (nf_Diagrams_kept : PySem.W.findIn K (.ref C_Diagrams) "kept" = some none) (nf_Diagrams_numbers : PySem.W.findIn K (.ref C_Diagrams) "numbers" = some none) (z_abs : PySem.W.nsIn K mainGlobals "abs" = some none) (z_all : PySem.W.nsIn K mainGlobals "all" = some none) (z_bool : PySem.W.nsIn K mainGlobals "bool" = some none) (z_int : PySem.W.nsIn K mainGlobals "int" = some none) (z_isinstance : PySem.W.nsIn K mainGlobals "isinstance" = some none) (z_len : PySem.W.nsIn K mainGlobals "len" = some none) (z_list : PySem.W.nsIn K mainGlobals "list" = some none) (z_min : PySem.W.nsIn K mainGlobals "min" = some none) (z_range : PySem.W.nsIn K mainGlobals "range" = some none) (z_str : PySem.W.nsIn K mainGlobals "str" = some none) (z_tuple : PySem.W.nsIn K mainGlobals "tuple" = some none) :
    ∃ fd : FuncData, (∀ (s : Shared) (v : Value), BindsTo s fd ⟨[v], []⟩ [("script", v)]) ∧ ∀ base : Heap, K.In base → base.Ns mainGlobals mg → FnOk l.prog w K mg base CX0 20 fa fd ["script"] (sp_law K) := by
  have e := hfa.symm.trans (PySem.W.mg_of X G a28)
  cases e
  have F_Diagrams___init__ := fun_mk (st := s_Diagrams___init__) l0 c0 k0
  have b_Diagrams___init__ := F_Diagrams___init__.binds (ps := ["self"]) fun _ _ _ _ _ _ us hl => match us, hl with | [_], _ => rfl
  have mk0_Diagrams : Mk K C_Diagrams f0 := ⟨mk_Diagrams, a0, i0, kc_Diagrams⟩
  have F_Diagrams_there := fun_mk (st := s_Diagrams_there) l1 c1 k1
  have b_Diagrams_there := F_Diagrams_there.binds (ps := ["self", "entry"]) fun _ _ _ _ _ _ us hl => match us, hl with | [_, _], _ => rfl
  have m_Diagrams_there : Meth K C_Diagrams "there" f1 := ⟨a1, i1, k1⟩
  have F_Diagrams_conjunction := fun_mk (st := s_Diagrams_conjunction) l2 c2 k2
  have b_Diagrams_conjunction := F_Diagrams_conjunction.binds (ps := ["self", "first", "second"]) fun _ _ _ _ _ _ us hl => match us, hl with | [_, _, _], _ => rfl
  have m_Diagrams_conjunction : Meth K C_Diagrams "conjunction" f2 := ⟨a2, i2, k2⟩
  have F_Diagrams_disjunction := fun_mk (st := s_Diagrams_disjunction) l3 c3 k3
  have b_Diagrams_disjunction := F_Diagrams_disjunction.binds (ps := ["self", "first", "second"]) fun _ _ _ _ _ _ us hl => match us, hl with | [_, _, _], _ => rfl
  have m_Diagrams_disjunction : Meth K C_Diagrams "disjunction" f3 := ⟨a3, i3, k3⟩
  have F_Diagrams_negation := fun_mk (st := s_Diagrams_negation) l4 c4 k4
  have b_Diagrams_negation := F_Diagrams_negation.binds (ps := ["self", "condition"]) fun _ _ _ _ _ _ us hl => match us, hl with | [_, _], _ => rfl
  have m_Diagrams_negation : Meth K C_Diagrams "negation" f4 := ⟨a4, i4, k4⟩
  have F_Diagrams_differs := fun_mk (st := s_Diagrams_differs) l5 c5 k5
  have b_Diagrams_differs := F_Diagrams_differs.binds (ps := ["self", "first", "second"]) fun _ _ _ _ _ _ us hl => match us, hl with | [_, _, _], _ => rfl
  have m_Diagrams_differs : Meth K C_Diagrams "differs" f5 := ⟨a5, i5, k5⟩
  have F_Diagrams_size := fun_mk (st := s_Diagrams_size) l6 c6 k6
  have b_Diagrams_size := F_Diagrams_size.binds (ps := ["self", "conditions"]) fun _ _ _ _ _ _ us hl => match us, hl with | [_, _], _ => rfl
  have m_Diagrams_size : Meth K C_Diagrams "size" f6 := ⟨a6, i6, k6⟩
  have F_Diagrams_table := fun_mk (st := s_Diagrams_table) l7 c7 k7
  have b_Diagrams_table := F_Diagrams_table.binds (ps := ["self", "condition"]) fun _ _ _ _ _ _ us hl => match us, hl with | [_, _], _ => rfl
  have m_Diagrams_table : Meth K C_Diagrams "table" f7 := ⟨a7, i7, k7⟩
  have F_Diagrams_listed := fun_mk (st := s_Diagrams_listed) l8 c8 k8
  have b_Diagrams_listed := F_Diagrams_listed.binds (ps := ["self", "conditions"]) fun _ _ _ _ _ _ us hl => match us, hl with | [_, _], _ => rfl
  have m_Diagrams_listed : Meth K C_Diagrams "listed" f8 := ⟨a8, i8, k8⟩
  have F_Diagrams_top := fun_mk (st := s_Diagrams_top) l9 c9 k9
  have b_Diagrams_top := F_Diagrams_top.binds (ps := ["self", "conditions"]) fun _ _ _ _ _ _ us hl => match us, hl with | [_, _], _ => rfl
  have m_Diagrams_top : Meth K C_Diagrams "top" f9 := ⟨a9, i9, k9⟩
  have F_Diagrams_branches := fun_mk (st := s_Diagrams_branches) l10 c10 k10
  have b_Diagrams_branches := F_Diagrams_branches.binds (ps := ["self", "condition", "entry"]) fun _ _ _ _ _ _ us hl => match us, hl with | [_, _, _], _ => rfl
  have m_Diagrams_branches : Meth K C_Diagrams "branches" f10 := ⟨a10, i10, k10⟩
  have F_Diagrams_node_of := fun_mk (st := s_Diagrams_node_of) l11 c11 k11
  have b_Diagrams_node_of := F_Diagrams_node_of.binds (ps := ["self", "condition"]) fun _ _ _ _ _ _ us hl => match us, hl with | [_, _], _ => rfl
  have m_Diagrams_node_of : Meth K C_Diagrams "node_of" f11 := ⟨a11, i11, k11⟩
  have F_Diagrams_node := fun_mk (st := s_Diagrams_node) l12 c12 k12
  have b_Diagrams_node := F_Diagrams_node.binds (ps := ["self", "entry", "without", "there"]) fun _ _ _ _ _ _ us hl => match us, hl with | [_, _, _, _], _ => rfl
  have m_Diagrams_node : Meth K C_Diagrams "node" f12 := ⟨a12, i12, k12⟩
  have F_Diagrams_combine := fun_mk (st := s_Diagrams_combine) l13 c13 k13
  have b_Diagrams_combine := F_Diagrams_combine.binds (ps := ["self", "condition", "first", "second"]) fun _ _ _ _ _ _ us hl => match us, hl with | [_, _, _, _], _ => rfl
  have m_Diagrams_combine : Meth K C_Diagrams "combine" f13 := ⟨a13, i13, k13⟩
  have F__law_draw := fun_mk (st := s__law_draw) l14 c14 k14
  have b__law_draw := F__law_draw.binds (ps := ["script"]) fun _ _ _ _ _ _ us hl => match us, hl with | [_], _ => rfl
  have g__law_draw := PySem.W.mg_of X G a14
  have F__law_next := fun_mk (st := s__law_next) l15 c15 k15
  have b__law_next := F__law_next.binds (ps := ["draw", "many"]) fun _ _ _ _ _ _ us hl => match us, hl with | [_, _], _ => rfl
  have g__law_next := PySem.W.mg_of X G a15
  have F__law_same := fun_mk (st := s__law_same) l16 c16 k16
  have b__law_same := F__law_same.binds (ps := ["actual", "due"]) fun _ _ _ _ _ _ us hl => match us, hl with | [_, _], _ => rfl
  have g__law_same := PySem.W.mg_of X G a16
  have F__law_entries := fun_mk (st := s__law_entries) l17 c17 k17
  have b__law_entries := F__law_entries.binds (ps := ["draw", "most"]) fun _ _ _ _ _ _ us hl => match us, hl with | [_, _], _ => rfl
  have g__law_entries := PySem.W.mg_of X G a17
  have F__law_tree := fun_mk (st := s__law_tree) l18 c18 k18
  have b__law_tree := F__law_tree.binds (ps := ["draw", "entries", "depth"]) fun _ _ _ _ _ _ us hl => match us, hl with | [_, _, _], _ => rfl
  have g__law_tree := PySem.W.mg_of X G a18
  have F__law_build := fun_mk (st := s__law_build) l19 c19 k19
  have b__law_build := F__law_build.binds (ps := ["store", "tree"]) fun _ _ _ _ _ _ us hl => match us, hl with | [_, _], _ => rfl
  have g__law_build := PySem.W.mg_of X G a19
  have F__law_true := fun_mk (st := s__law_true) l20 c20 k20
  have b__law_true := F__law_true.binds (ps := ["tree", "present"]) fun _ _ _ _ _ _ us hl => match us, hl with | [_, _], _ => rfl
  have g__law_true := PySem.W.mg_of X G a20
  have F__law_subsets := fun_mk (st := s__law_subsets) l21 c21 k21
  have b__law_subsets := F__law_subsets.binds (ps := ["entries"]) fun _ _ _ _ _ _ us hl => match us, hl with | [_], _ => rfl
  have g__law_subsets := PySem.W.mg_of X G a21
  have F__law_truth := fun_mk (st := s__law_truth) l22 c22 k22
  have b__law_truth := F__law_truth.binds (ps := ["tree", "entries"]) fun _ _ _ _ _ _ us hl => match us, hl with | [_, _], _ => rfl
  have g__law_truth := PySem.W.mg_of X G a22
  have F__law_fixed := fun_mk (st := s__law_fixed) l23 c23 k23
  have b__law_fixed := F__law_fixed.binds (ps := ["truth", "k", "there"]) fun _ _ _ _ _ _ us hl => match us, hl with | [_, _, _], _ => rfl
  have g__law_fixed := PySem.W.mg_of X G a23
  have F__law_top := fun_mk (st := s__law_top) l24 c24 k24
  have b__law_top := F__law_top.binds (ps := ["truth", "count"]) fun _ _ _ _ _ _ us hl => match us, hl with | [_, _], _ => rfl
  have g__law_top := PySem.W.mg_of X G a24
  have F__law_diagrams := fun_mk (st := s__law_diagrams) l25 c25 k25
  have b__law_diagrams := F__law_diagrams.binds (ps := ["truths", "count"]) fun _ _ _ _ _ _ us hl => match us, hl with | [_, _], _ => rfl
  have g__law_diagrams := PySem.W.mg_of X G a25
  have F__law_listed := fun_mk (st := s__law_listed) l26 c26 k26
  have b__law_listed := F__law_listed.binds (ps := ["truth", "entries", "known"]) fun _ _ _ _ _ _ us hl => match us, hl with | [_, _, _], _ => rfl
  have g__law_listed := PySem.W.mg_of X G a26
  have F__law_number := fun_mk (st := s__law_number) l27 c27 k27
  have b__law_number := F__law_number.binds (ps := ["truth", "known"]) fun _ _ _ _ _ _ us hl => match us, hl with | [_, _], _ => rfl
  have g__law_number := PySem.W.mg_of X G a27
  have F_law := fun_mk (st := s_law) l28 c28 k28
  have cl_Diagrams : Cls K C_Diagrams := ⟨pg_Diagrams, hd_Diagrams, po_Diagrams, sa_Diagrams⟩
  have g_Diagrams := PySem.W.mg_of X G aC_Diagrams
  have M : Mg mg := ⟨PySem.W.mg_none_of X G z_abs, PySem.W.mg_none_of X G z_all, PySem.W.mg_none_of X G z_bool, PySem.W.mg_none_of X G z_int, PySem.W.mg_none_of X G z_isinstance, PySem.W.mg_none_of X G z_len, PySem.W.mg_none_of X G z_list, PySem.W.mg_none_of X G z_min, PySem.W.mg_none_of X G z_range, PySem.W.mg_none_of X G z_str, PySem.W.mg_none_of X G z_tuple⟩
  exact ⟨PySem.W.fnOf "law" "law" (defArgs s_law) (defBody s_law) (defScope s_law) .none kV28 dc28 pm28 an28 cd28 ct28, fun s v => .of_eq rfl, fun base _ _ => by
  have GD : DgC K C_Diagrams mg := ⟨cl_Diagrams, nf_Diagrams_kept, nf_Diagrams_numbers, nf_Diagrams_combined, ⟨_, PySem.W.mg_of X G w_NEVER, _, rfl⟩, ⟨_, PySem.W.mg_of X G w_ALWAYS, _, rfl⟩, ⟨_, PySem.W.mg_of X G w_FIRST_NODE, _, rfl⟩⟩
  have NOF := FnOk.clm (P := l.prog) (w := w) (base := base) (ok_nof F_Diagrams_node_of M GD) m_Diagrams_node_of cl_Diagrams b_Diagrams_node_of
  have NDE := FnOk.clm (P := l.prog) (w := w) (base := base) (ok_node F_Diagrams_node M GD) m_Diagrams_node cl_Diagrams b_Diagrams_node
  have TOP := FnOk.clm (ok_top F_Diagrams_top M GD NOF) m_Diagrams_top cl_Diagrams b_Diagrams_top
  have BRA := FnOk.clm (ok_bra F_Diagrams_branches M GD NOF) m_Diagrams_branches cl_Diagrams b_Diagrams_branches
  have CMB := cl_comb F_Diagrams_combine M GD m_Diagrams_combine b_Diagrams_combine NDE TOP BRA 6
  have THE := FnOk.clm (ok_there F_Diagrams_there M GD NDE) m_Diagrams_there cl_Diagrams b_Diagrams_there
  have CON := FnOk.clm (ok_conj F_Diagrams_conjunction M GD CMB) m_Diagrams_conjunction cl_Diagrams b_Diagrams_conjunction
  have DIS := FnOk.clm (ok_disj F_Diagrams_disjunction M GD CMB) m_Diagrams_disjunction cl_Diagrams b_Diagrams_disjunction
  have NEG := FnOk.clm (ok_neg F_Diagrams_negation M GD CMB) m_Diagrams_negation cl_Diagrams b_Diagrams_negation
  have DIF := FnOk.clm (ok_diff F_Diagrams_differs M GD CMB NEG) m_Diagrams_differs cl_Diagrams b_Diagrams_differs
  have DIN : ClC l.prog w K mg base 1 "Diagrams" C_Diagrams (sp_dinit C_Diagrams K) := ⟨_, _, _, ok_dinit F_Diagrams___init__ GD, mk0_Diagrams, g_Diagrams, b_Diagrams___init__⟩
  have N := FnOk.cl (P := l.prog) (w := w) (base := base) (ok_next F__law_next M) F__law_next g__law_next b__law_next
  have DR := FnOk.cl (P := l.prog) (w := w) (base := base) (ok_draw F__law_draw M) F__law_draw g__law_draw b__law_draw
  have LTR := cl_ltr F__law_tree M g__law_tree b__law_tree N
  have LBU := cl_build 6 F__law_build M g__law_build b__law_build THE CON DIS NEG DIF
  have LTU := cl_true (P := l.prog) (w := w) (base := base) F__law_true M g__law_true b__law_true
  have LSU := FnOk.cl (P := l.prog) (w := w) (base := base) (ok_subs F__law_subsets M) F__law_subsets g__law_subsets b__law_subsets

  have LIS := FnOk.clm (ok_listed F_Diagrams_listed M GD NOF) m_Diagrams_listed cl_Diagrams b_Diagrams_listed
  have TAB := FnOk.clm (ok_table F_Diagrams_table M GD LIS) m_Diagrams_table cl_Diagrams b_Diagrams_table
  have SIZ := FnOk.clm (ok_size F_Diagrams_size M GD LIS) m_Diagrams_size cl_Diagrams b_Diagrams_size
  have SM := cl_same (P := l.prog) (w := w) (base := base) F__law_same M g__law_same b__law_same
  have LEN := FnOk.cl (ok_ents 5 F__law_entries M N) F__law_entries g__law_entries b__law_entries
  have LTT := FnOk.cl (ok_truth 9 F__law_truth M LSU (LTU 9)) F__law_truth g__law_truth b__law_truth
  have LFX := FnOk.cl (P := l.prog) (w := w) (base := base) (ok_fixed F__law_fixed M) F__law_fixed g__law_fixed b__law_fixed
  have LTP := FnOk.cl (ok_ltop F__law_top M LFX) F__law_top g__law_top b__law_top
  have LNU := FnOk.cl (P := l.prog) (w := w) (base := base) (ok_lnum F__law_number M) F__law_number g__law_number b__law_number
  have LLI := cl_llis F__law_listed M g__law_listed b__law_listed LFX LTP 6
  have LDI := FnOk.cl (ok_ldia F__law_diagrams M LFX LTP) F__law_diagrams g__law_diagrams b__law_diagrams
  exact ok_law F_law M DR N LEN (LTR 6) DIN (LBU 9) LTT LFX LTP LLI LNU LDI (SM 5) TAB SIZ⟩
end Lw
open PySem PySem.W PyProof.Rows
set_option maxHeartbeats 0 in
theorem PySem.Challenge.cw_lineworks_k59_tables_tell_conditions_holds : PySem.Challenge.rw_lineworks_k59_tables_tell_conditions.Holds := by
  w_on; o_law; k_head; (case hw => w_witness2)
  k_fill
  refine L2.walk_of (l := PySem.Challenge.rw_lineworks_k59_tables_tell_conditions) (n := 63) (k := 20) (x := "script") (CX := fun _ => L2.CX0) (sp := fun w => Lw.sp_law _) rfl (by decide) rfl ⟨rfl, by decide, by decide⟩ (fun w h Y => PySem.W.kIn_of Y) ?F (fun _ _ a ns hl _ hS => ⟨a, ns, rfl, hS, hl, fun _ => rfl⟩) (fun _ _ _ _ _ h => h)
  case F =>
    intro w mg fa h KX G hmg
    refine' Lw.all_mk KX G hmg ?a0 ?i0 ?l0 ?c0 ?k0 ?a1 ?i1 ?l1 ?c1 ?k1 ?a2 ?i2 ?l2 ?c2 ?k2 ?a3 ?i3 ?l3 ?c3 ?k3 ?a4 ?i4 ?l4 ?c4 ?k4 ?a5 ?i5 ?l5 ?c5 ?k5 ?a6 ?i6 ?l6 ?c6 ?k6 ?a7 ?i7 ?l7 ?c7 ?k7 ?a8 ?i8 ?l8 ?c8 ?k8 ?a9 ?i9 ?l9 ?c9 ?k9 ?a10 ?i10 ?l10 ?c10 ?k10 ?a11 ?i11 ?l11 ?c11 ?k11 ?a12 ?i12 ?l12 ?c12 ?k12 ?a13 ?i13 ?l13 ?c13 ?k13 ?a14 ?l14 ?c14 ?k14 ?a15 ?l15 ?c15 ?k15 ?a16 ?l16 ?c16 ?k16 ?a17 ?l17 ?c17 ?k17 ?a18 ?l18 ?c18 ?k18 ?a19 ?l19 ?c19 ?k19 ?a20 ?l20 ?c20 ?k20 ?a21 ?l21 ?c21 ?k21 ?a22 ?l22 ?c22 ?k22 ?a23 ?l23 ?c23 ?k23 ?a24 ?l24 ?c24 ?k24 ?a25 ?l25 ?c25 ?k25 ?a26 ?l26 ?c26 ?k26 ?a27 ?l27 ?c27 ?k27 ?a28 ?l28 ?c28 ?k28 ?w_NEVER ?w_ALWAYS ?w_FIRST_NODE ?aC_Diagrams ?pg_Diagrams ?hd_Diagrams ?po_Diagrams ?sa_Diagrams ?mk_Diagrams ?kc_Diagrams ?nf_Diagrams_combined ?nf_Diagrams_kept ?nf_Diagrams_numbers ?z_abs ?z_all ?z_bool ?z_int ?z_isinstance ?z_len ?z_list ?z_min ?z_range ?z_str ?z_tuple
    (case aC_Diagrams => k_is)
    (case pg_Diagrams => k_is)
    (case hd_Diagrams => k_is)
    (case po_Diagrams => k_is)
    (case sa_Diagrams => k_is)
    (case mk_Diagrams => k_is)
    (case kc_Diagrams => k_is)
    (case nf_Diagrams_combined => k_is)
    (case nf_Diagrams_kept => k_is)
    (case nf_Diagrams_numbers => k_is)
    (case a0 => k_is); (case i0 => k_is); (case l0 => k_is); (case c0 => k_is); (case k0 => k_is)
    (case a1 => k_is); (case i1 => k_is); (case l1 => k_is); (case c1 => k_is); (case k1 => k_is)
    (case a2 => k_is); (case i2 => k_is); (case l2 => k_is); (case c2 => k_is); (case k2 => k_is)
    (case a3 => k_is); (case i3 => k_is); (case l3 => k_is); (case c3 => k_is); (case k3 => k_is)
    (case a4 => k_is); (case i4 => k_is); (case l4 => k_is); (case c4 => k_is); (case k4 => k_is)
    (case a5 => k_is); (case i5 => k_is); (case l5 => k_is); (case c5 => k_is); (case k5 => k_is)
    (case a6 => k_is); (case i6 => k_is); (case l6 => k_is); (case c6 => k_is); (case k6 => k_is)
    (case a7 => k_is); (case i7 => k_is); (case l7 => k_is); (case c7 => k_is); (case k7 => k_is)
    (case a8 => k_is); (case i8 => k_is); (case l8 => k_is); (case c8 => k_is); (case k8 => k_is)
    (case a9 => k_is); (case i9 => k_is); (case l9 => k_is); (case c9 => k_is); (case k9 => k_is)
    (case a10 => k_is); (case i10 => k_is); (case l10 => k_is); (case c10 => k_is); (case k10 => k_is)
    (case a11 => k_is); (case i11 => k_is); (case l11 => k_is); (case c11 => k_is); (case k11 => k_is)
    (case a12 => k_is); (case i12 => k_is); (case l12 => k_is); (case c12 => k_is); (case k12 => k_is)
    (case a13 => k_is); (case i13 => k_is); (case l13 => k_is); (case c13 => k_is); (case k13 => k_is)
    (case a14 => k_is); (case l14 => k_is); (case c14 => k_is); (case k14 => k_is)
    (case a15 => k_is); (case l15 => k_is); (case c15 => k_is); (case k15 => k_is)
    (case a16 => k_is); (case l16 => k_is); (case c16 => k_is); (case k16 => k_is)
    (case a17 => k_is); (case l17 => k_is); (case c17 => k_is); (case k17 => k_is)
    (case a18 => k_is); (case l18 => k_is); (case c18 => k_is); (case k18 => k_is)
    (case a19 => k_is); (case l19 => k_is); (case c19 => k_is); (case k19 => k_is)
    (case a20 => k_is); (case l20 => k_is); (case c20 => k_is); (case k20 => k_is)
    (case a21 => k_is); (case l21 => k_is); (case c21 => k_is); (case k21 => k_is)
    (case a22 => k_is); (case l22 => k_is); (case c22 => k_is); (case k22 => k_is)
    (case a23 => k_is); (case l23 => k_is); (case c23 => k_is); (case k23 => k_is)
    (case a24 => k_is); (case l24 => k_is); (case c24 => k_is); (case k24 => k_is)
    (case a25 => k_is); (case l25 => k_is); (case c25 => k_is); (case k25 => k_is)
    (case a26 => k_is); (case l26 => k_is); (case c26 => k_is); (case k26 => k_is)
    (case a27 => k_is); (case l27 => k_is); (case c27 => k_is); (case k27 => k_is)
    (case a28 => k_is); (case l28 => k_is); (case c28 => k_is); (case k28 => k_is)
    (case w_NEVER => k_is)
    (case w_ALWAYS => k_is)
    (case w_FIRST_NODE => k_is)
    (case z_abs => k_is); (case z_all => k_is); (case z_bool => k_is); (case z_int => k_is); (case z_isinstance => k_is); (case z_len => k_is); (case z_list => k_is); (case z_min => k_is); (case z_range => k_is); (case z_str => k_is); (case z_tuple => k_is)

