import PyProof.Rows.All
import Wide.All
import OpenK.AllK
import Wide.FinOn
import HandS.ForMost
import HandS.Wide
import HandS.IsInst
import HandS.Codes
import HandS.More
import HandS.DictComp
import KE.LtData
import HandS.Iter
import HandS.SetBool
import HandS.Strs
import PySem.Challenge.RW_lineworks_k58_sets_are_counted
set_option Elab.async false
set_option linter.all false
set_option maxRecDepth 100000
namespace Lw
open PySem PySem.Spec PyProof.Rows L2
def topS (i : Nat) : Stmt := PySem.Challenge.pw_lineworks_k58_sets_are_counted.main.body.getD i (.Pass ⟨0, 0, 0, 0⟩)
abbrev s__wall : Stmt := topS 0
abbrev s_Diagrams___init__ : Stmt := inClass (topS 5) 0
abbrev N_Diagrams___init__ : List Str := ["self"]
theorem sc_Diagrams___init__ : FnScope N_Diagrams___init__ ["self"] (defScope s_Diagrams___init__) := ⟨rfl, rfl, rfl, by decide +kernel, rfl, by decide +kernel, by decide +kernel⟩
abbrev s_Diagrams_there : Stmt := inClass (topS 5) 1
abbrev N_Diagrams_there : List Str := ["self", "entry"]
theorem sc_Diagrams_there : FnScope N_Diagrams_there ["self", "entry"] (defScope s_Diagrams_there) := ⟨rfl, rfl, rfl, by decide +kernel, rfl, by decide +kernel, by decide +kernel⟩
abbrev s_Diagrams_conjunction : Stmt := inClass (topS 5) 2
abbrev N_Diagrams_conjunction : List Str := ["self", "first", "second"]
theorem sc_Diagrams_conjunction : FnScope N_Diagrams_conjunction ["self", "first", "second"] (defScope s_Diagrams_conjunction) := ⟨rfl, rfl, rfl, by decide +kernel, rfl, by decide +kernel, by decide +kernel⟩
abbrev s_Diagrams_disjunction : Stmt := inClass (topS 5) 3
abbrev N_Diagrams_disjunction : List Str := ["self", "first", "second"]
theorem sc_Diagrams_disjunction : FnScope N_Diagrams_disjunction ["self", "first", "second"] (defScope s_Diagrams_disjunction) := ⟨rfl, rfl, rfl, by decide +kernel, rfl, by decide +kernel, by decide +kernel⟩
abbrev s_Diagrams_negation : Stmt := inClass (topS 5) 4
abbrev N_Diagrams_negation : List Str := ["self", "condition"]
theorem sc_Diagrams_negation : FnScope N_Diagrams_negation ["self", "condition"] (defScope s_Diagrams_negation) := ⟨rfl, rfl, rfl, by decide +kernel, rfl, by decide +kernel, by decide +kernel⟩
abbrev s_Diagrams_differs : Stmt := inClass (topS 5) 5
abbrev N_Diagrams_differs : List Str := ["self", "first", "second"]
theorem sc_Diagrams_differs : FnScope N_Diagrams_differs ["self", "first", "second"] (defScope s_Diagrams_differs) := ⟨rfl, rfl, rfl, by decide +kernel, rfl, by decide +kernel, by decide +kernel⟩
abbrev s_Diagrams_restrict : Stmt := inClass (topS 5) 6
abbrev s_Diagrams_holds : Stmt := inClass (topS 5) 7
abbrev s_Diagrams_depends : Stmt := inClass (topS 5) 8
abbrev s_Diagrams_size : Stmt := inClass (topS 5) 9
abbrev s_Diagrams_implies : Stmt := inClass (topS 5) 10
abbrev s_Diagrams_helps : Stmt := inClass (topS 5) 11
abbrev s_Diagrams_hurts : Stmt := inClass (topS 5) 12
abbrev s_Diagrams_ways : Stmt := inClass (topS 5) 13
abbrev N_Diagrams_ways : List Str := ["self", "condition", "entries", "nodes", "root", "entry", "places", "known", "without", "there", "start", "parts", "place", "count", "at"]
theorem sc_Diagrams_ways : FnScope N_Diagrams_ways ["self", "condition", "entries"] (defScope s_Diagrams_ways) := ⟨rfl, rfl, rfl, by decide +kernel, rfl, by decide +kernel, by decide +kernel⟩
abbrev s_Diagrams_first_set : Stmt := inClass (topS 5) 14
abbrev N_Diagrams_first_set : List Str := ["self", "condition", "found", "left", "entry", "without", "there"]
theorem sc_Diagrams_first_set : FnScope N_Diagrams_first_set ["self", "condition"] (defScope s_Diagrams_first_set) := ⟨rfl, rfl, rfl, by decide +kernel, rfl, by decide +kernel, by decide +kernel⟩
abbrev s_Diagrams_table : Stmt := inClass (topS 5) 15
abbrev N_Diagrams_table : List Str := ["self", "condition", "nodes", "numbers"]
theorem sc_Diagrams_table : FnScope N_Diagrams_table ["self", "condition"] (defScope s_Diagrams_table) := ⟨rfl, rfl, rfl, by decide +kernel, rfl, by decide +kernel, by decide +kernel⟩
abbrev s_Diagrams_listed : Stmt := inClass (topS 5) 16
abbrev N_Diagrams_listed : List Str := ["self", "conditions", "nodes", "numbers", "left", "condition", "entry", "without", "there", "waiting", "part"]
theorem sc_Diagrams_listed : FnScope N_Diagrams_listed ["self", "conditions"] (defScope s_Diagrams_listed) := ⟨rfl, rfl, rfl, by decide +kernel, rfl, by decide +kernel, by decide +kernel⟩
abbrev s_Diagrams_top : Stmt := inClass (topS 5) 17
abbrev N_Diagrams_top : List Str := ["self", "conditions", "condition"]
theorem sc_Diagrams_top : FnScope N_Diagrams_top ["self", "conditions"] (defScope s_Diagrams_top) := ⟨rfl, rfl, rfl, by decide +kernel, rfl, by decide +kernel, by decide +kernel⟩
abbrev s_Diagrams_branches : Stmt := inClass (topS 5) 18
abbrev N_Diagrams_branches : List Str := ["self", "condition", "entry", "asked", "without", "there"]
theorem sc_Diagrams_branches : FnScope N_Diagrams_branches ["self", "condition", "entry"] (defScope s_Diagrams_branches) := ⟨rfl, rfl, rfl, by decide +kernel, rfl, by decide +kernel, by decide +kernel⟩
abbrev s_Diagrams_node_of : Stmt := inClass (topS 5) 19
abbrev N_Diagrams_node_of : List Str := ["self", "condition"]
theorem sc_Diagrams_node_of : FnScope N_Diagrams_node_of ["self", "condition"] (defScope s_Diagrams_node_of) := ⟨rfl, rfl, rfl, by decide +kernel, rfl, by decide +kernel, by decide +kernel⟩
abbrev s_Diagrams_node : Stmt := inClass (topS 5) 20
abbrev N_Diagrams_node : List Str := ["self", "entry", "without", "there", "made"]
theorem sc_Diagrams_node : FnScope N_Diagrams_node ["self", "entry", "without", "there"] (defScope s_Diagrams_node) := ⟨rfl, rfl, rfl, by decide +kernel, rfl, by decide +kernel, by decide +kernel⟩
abbrev s_Diagrams_combine : Stmt := inClass (topS 5) 21
abbrev N_Diagrams_combine : List Str := ["self", "condition", "first", "second", "asked", "entry", "without", "there", "first_without", "first_there", "second_without", "second_there"]
theorem sc_Diagrams_combine : FnScope N_Diagrams_combine ["self", "condition", "first", "second"] (defScope s_Diagrams_combine) := ⟨rfl, rfl, rfl, by decide +kernel, rfl, by decide +kernel, by decide +kernel⟩
abbrev s_ways_from : Stmt := topS 6
abbrev N_ways_from : List Str := ["start", "place", "count"]
theorem sc_ways_from : FnScope N_ways_from ["start", "place", "count"] (defScope s_ways_from) := ⟨rfl, rfl, rfl, by decide +kernel, rfl, by decide +kernel, by decide +kernel⟩
abbrev s__law_draw : Stmt := topS 8
abbrev N__law_draw : List Str := ["script"]
theorem sc__law_draw : FnScope N__law_draw ["script"] (defScope s__law_draw) := ⟨rfl, rfl, rfl, by decide +kernel, rfl, by decide +kernel, by decide +kernel⟩
abbrev s__law_next : Stmt := topS 9
abbrev N__law_next : List Str := ["draw", "many", "found", "cell"]
theorem sc__law_next : FnScope N__law_next ["draw", "many"] (defScope s__law_next) := ⟨rfl, rfl, rfl, by decide +kernel, rfl, by decide +kernel, by decide +kernel⟩
abbrev s__law_same : Stmt := topS 10
abbrev N__law_same : List Str := ["actual", "due", "k"]
theorem sc__law_same : FnScope N__law_same ["actual", "due"] (defScope s__law_same) := ⟨rfl, rfl, rfl, by decide +kernel, rfl, by decide +kernel, by decide +kernel⟩
abbrev s__law_entries : Stmt := topS 11
abbrev N__law_entries : List Str := ["draw", "most", "entries", "last", "k"]
theorem sc__law_entries : FnScope N__law_entries ["draw", "most"] (defScope s__law_entries) := ⟨rfl, rfl, rfl, by decide +kernel, rfl, by decide +kernel, by decide +kernel⟩
abbrev s__law_tree : Stmt := topS 12
abbrev N__law_tree : List Str := ["draw", "entries", "depth", "form", "first"]
theorem sc__law_tree : FnScope N__law_tree ["draw", "entries", "depth"] (defScope s__law_tree) := ⟨rfl, rfl, rfl, by decide +kernel, rfl, by decide +kernel, by decide +kernel⟩
abbrev s__law_build : Stmt := topS 13
abbrev N__law_build : List Str := ["store", "tree", "first", "second"]
theorem sc__law_build : FnScope N__law_build ["store", "tree"] (defScope s__law_build) := ⟨rfl, rfl, rfl, by decide +kernel, rfl, by decide +kernel, by decide +kernel⟩
abbrev s__law_true : Stmt := topS 14
abbrev N__law_true : List Str := ["tree", "present", "first", "second"]
theorem sc__law_true : FnScope N__law_true ["tree", "present"] (defScope s__law_true) := ⟨rfl, rfl, rfl, by decide +kernel, rfl, by decide +kernel, by decide +kernel⟩
abbrev s__law_subsets : Stmt := topS 15
abbrev N__law_subsets : List Str := ["entries", "found", "entry", "part"]
theorem sc__law_subsets : FnScope N__law_subsets ["entries"] (defScope s__law_subsets) := ⟨rfl, rfl, rfl, by decide +kernel, rfl, by decide +kernel, by decide +kernel⟩
abbrev s__law_marks : Stmt := topS 16
abbrev N__law_marks : List Str := ["entries", "part", "entry"]
theorem sc__law_marks : FnScope N__law_marks ["entries", "part"] (defScope s__law_marks) := ⟨rfl, rfl, rfl, by decide +kernel, rfl, by decide +kernel, by decide +kernel⟩
abbrev s_law : Stmt := topS 17
abbrev N_law : List Str := ["script", "draw", "entries", "tree", "store", "condition", "part", "held", "entry", "more", "wider", "due", "handed", "found", "best"]
theorem sc_law : FnScope N_law ["script"] (defScope s_law) := ⟨rfl, rfl, rfl, by decide +kernel, rfl, by decide +kernel, by decide +kernel⟩
/-! ### heaps and calls -/
theorem same_upd {H : Hp} {p : Addr} {o : HO} (h : H p = none) : Same H (upd H p o) := fun b x e => by
  rw [upd_ne (ne_of_none e h)]
  exact e
/-- what stood stands, but for the object at d -/
def Fd (d : Addr) (H H' : Hp) : Prop := ∀ b o, b ≠ d → H b = some o → H' b = some o
theorem Fd.refl (d : Addr) (H : Hp) : Fd d H H := fun _ _ _ e => e
theorem Fd.trans {d : Addr} {H H1 H2 : Hp} (a : Fd d H H1) (b : Fd d H1 H2) : Fd d H H2 := fun c o n e => b c o n (a c o n e)
theorem Fd.of {d : Addr} {H H' : Hp} (a : Same H H') : Fd d H H' := fun b o _ e => a b o e
theorem Fd.new {d : Addr} {H : Hp} {p : Addr} {o : HO} (h : H p = none) : Fd d H (upd H p o) := Fd.of (same_upd h)
theorem Fd.at {d : Addr} {H : Hp} {o : HO} : Fd d H (upd H d o) := fun b x n e => by
  rw [upd_ne n]
  exact e
/-- a def that may be called by its name -/
structure Cl (P : Program) (w : World) (K : PySem.W.Frag) (mg : Str → Option Value) (base : Heap) (k : Nat) (x : Str) (sp : Sp) : Prop where
  ex : ∃ (f : Addr) (fd : FuncData) (ps : List Str), FnOk P w K mg base CX0 k f fd ps sp ∧ mg x = some (.ref f) ∧ PySem.W.keepIn K (.ref f) = true ∧ Binds K fd ps []
section
variable {X : Cx} {k j : Nat} {x : Str} {sp : Sp} {p pos : Pos} {e : Expr} {es : List Expr} {t : TA}
theorem pe_u (c : Cl X.prog X.w X.K X.mg X.base k x sp) (hr : Room j X.A) (hk : k ≤ j) (hg : Gl X x) (ha : PA X (e :: es) t)
    (hdb : (x == ("__debug__" : Str)) = false := by decide) (he : starEach (e :: es) X.env = (false, eval e X.env) :: starEach es X.env := by rfl) (hpl : (backTo pos (starEach es X.env)).any (·.1) = false := by rfl) :
    PE X (.Call (.Name x p) (e :: es) [] pos) (tCall sp [] E0 t) := by
  obtain ⟨f, fd, ps, F, hm, kp, b⟩ := c.ex
  exact pe_call F (hr.mono hk) hg hm kp b .nil pass0 ha hdb he hpl
theorem pe_u0 (c : Cl X.prog X.w X.K X.mg X.base k x sp) (hr : Room j X.A) (hk : k ≤ j) (hg : Gl X x) (hdb : (x == ("__debug__" : Str)) = false := by decide) : PE X (.Call (.Name x p) [] [] pos) (tCall sp [] E0 tNil) := by
  obtain ⟨f, fd, ps, F, hm, kp, b⟩ := c.ex
  exact pe_call0 F (hr.mono hk) hg hm kp b .nil pass0 hdb
end
theorem FnOk.cl {P : Program} {w : World} {K : PySem.W.Frag} {mg : Str → Option Value} {base : Heap} {k : Nat} {x q : Str} {st : Stmt} {f : Addr} {fd : FuncData} {ps : List Str} {sp : Sp} (h : FnOk P w K mg base CX0 k f fd ps sp) (F : Fun K x q st f fd) (g : mg x = some (.ref f)) (b : Binds K fd ps []) : Cl P w K mg base k x sp := ⟨f, fd, ps, h, g, F.kp, b⟩
/-! ### rules with the written part named (within a comprehension) -/
section
variable {X : Cx} (K : PySem.W.Frag)
theorem ix_listK (h : X.K = K := by rfl) : IxR X (rIxL K) := by subst h; exact ix_list
theorem ix_tupK (h : X.K = K := by rfl) : IxR X (rIxT K) := by subst h; exact ix_tup
theorem ix_seqK (h : X.K = K := by rfl) : IxR X (rIx K) := by subst h; exact ix_seq
theorem len_seqK (h : X.K = K := by rfl) : CallR X (.builtin "len") (fun xs H Q => ∃ p ys, xs = [.ref p] ∧ (SqL K H p ys ∨ SqT K H p ys) ∧ Q (.int ys.length) H) := by subst h; exact call_len_seq
theorem isiK (h : X.K = K := by rfl) : CallR X (.builtin "isinstance") (rIsi K) := by subst h; exact call_isi
theorem isiTK (h : X.K = K := by rfl) : CallR X (.builtin "isinstance") (rIsiT K) := by subst h; exact call_isiT
theorem allK (hc : X.calm = true) (h : X.K = K := by rfl) : CallR X (.builtin "all") (rAll K) := by subst h; exact cr_all hc
theorem listK (h : X.K = K := by rfl) : CallR X (.type "list") (fun xs H Q => ∃ p ys, xs = [.ref p] ∧ (SqL K H p ys ∨ SqT K H p ys) ∧ ∀ l, H l = none → Q (.ref l) (upd H l (.lst ys))) := by subst h; exact call_list_of
theorem tupleK (h : X.K = K := by rfl) : CallR X (.type "tuple") (fun xs H Q => ∃ p ys, xs = [.ref p] ∧ ((SqL K H p ys ∧ ∀ l, H l = none → Q (.ref l) (upd H l (.tup ys))) ∨ (SqT K H p ys ∧ Q (.ref p) H))) := by subst h; exact call_tuple_of
theorem inK (h : X.K = K := by rfl) : OpR X (compareOp .In) (rIn K false) := by subst h; exact op_in_seq
theorem notInK (h : X.K = K := by rfl) : OpR X (compareOp .NotIn) (rIn K true) := by subst h; exact op_notIn_seq
theorem pe_bmK {T : String} {name : Str} {id : String} {r : V → List V → Hp → VK → Prop} {o e : Expr} {es : List Expr} {to : TE} {t : TA} {apos cpos : Pos} (pa : PlainAttrs T) (slot : Slot T name id) (hty : typeOf (.builtin id) = pure (.type "method_descriptor")) (hm : MtR X id r) (ho : PE X o to) (ha : PA X (e :: es) t) (hK : X.K = K := by rfl)
    (hbase : attributeBase o name X.env (eval o X.env) = eval o X.env := by rfl)
    (hfew : ((backTo cpos (starEach (e :: es) X.env)).all (fun x => !x.1) && (backToKw cpos (keywordEach [] X.env)).all (fun x => x.1.isSome)
      && decide ((e :: es).length + ([] : List Keyword).length + (if ([] : List Keyword).isEmpty then 0 else 1) < 30)) = true := by rfl)
    (hline : (apos.endLine == cpos.line) = true := by rfl) (hs : starEach (e :: es) X.env = (false, eval e X.env) :: starEach es X.env := by rfl) (hplain : (backTo cpos (starEach es X.env)).any (·.1) = false := by rfl) :
    PE X (.Call (.Attribute o name apos) (e :: es) [] cpos) (tBM K T r to t) := by subst hK; exact pe_bm pa slot hty hm ho ha hbase hfew hline hs hplain
theorem pt_truthK {a : Expr} {ta : TE} (ha : PE X a ta) (he : ∀ whole, isTrue a X.env whole = (do let v ← whole; standAt a.pos; holding [v] (truthy v))) (h : X.K = K := by rfl) : PT X a (fun σ H Q => ta σ H fun x H' => ∃ k, TruV K x H' k ∧ Q k H') := by subst h; exact pt_truth ha he
theorem eqDK (hu : X.A.units + 64 < cLine) (h : X.K = K := by rfl) : OpR X (compareOp .Eq) (rEqD K) := by subst h; exact op_eqD hu
theorem neDK (hu : X.A.units + 64 < cLine) (h : X.K = K := by rfl) : OpR X (compareOp .NotEq) (rNeD K) := by subst h; exact op_neD hu
end
/-- over the signs of a text -/
theorem for_strs {x : Str} {g : TG} {tb : TS} {D : Ends} {σ : L2.St} {H : Hp} (Pv : Nat → L2.St → Hp → Prop) (h0 : Pv 0 σ H)
    (hs : ∀ i c σ H, x.cps.toList[i]? = some c → Pv i σ H → g (.str ⟨#[c]⟩) σ H fun σ2 H2 => tb { D with nx := Pv (i + 1), ct := Pv (i + 1), bk := D.nx } σ2 H2) (hd : ∀ σ H, Pv x.cps.toList.length σ H → D.nx σ H) :
    ∃ W : Nat → Nat → L2.St → Hp → Prop, (∃ m, W 0 m σ H) ∧ ∀ i m σ H, W i m σ H →
      ((Its x).stop i H ∧ D.nx σ H) ∨ ((Its x).go i H ∧ ∃ N : L2.St → Hp → Prop, (∀ σ' H', N σ' H' → ∃ m', m' < m ∧ W (i + 1) m' σ' H') ∧ ∀ v H', (Its x).yld i H v H' → g v σ H' fun σ2 H2 => tb { D with nx := N, ct := N, bk := D.nx } σ2 H2) := by
  have es : x.cps.toList.length = x.cps.size := by simp
  refine ⟨fun i m σ H => m = x.cps.size - i ∧ i ≤ x.cps.size ∧ Pv i σ H, ⟨x.cps.size, by simp, Nat.zero_le _, h0⟩, ?_⟩
  rintro i m σ H ⟨rfl, hi, p⟩
  by_cases hlt : i < x.cps.size
  · refine .inr ⟨hlt, Pv (i + 1), fun σ' H' p' => ⟨x.cps.size - (i + 1), by omega, rfl, hlt, p'⟩, fun v H' y => ?_⟩
    obtain ⟨e, c, hc, rfl⟩ := y
    subst e
    exact hs i c σ _ (by rw [Array.getElem?_toList]; exact hc) p
  · have e : i = x.cps.size := by omega
    subst e
    exact .inl ⟨Nat.le_refl _, hd σ H (by rw [es]; exact p)⟩
theorem joinL0 : ∀ ps : List (List Nat), TL.joinL [] ps = ps.flatten
  | [] => rfl
  | [p] => by
    show p = p ++ []
    rw [List.append_nil]
  | p :: q :: r => by
    show p ++ ([] ++ TL.joinL [] (q :: r)) = p ++ (q :: r).flatten
    rw [joinL0 (q :: r), List.nil_append]
theorem join0 (ys : List Str) : Txt.join ⟨#[]⟩ ys = ⟨((ys.map TL.tl).flatten).toArray⟩ := by
  refine TL.ext_tl ?_
  rw [TL.join_eq, TL.tl_join]
  show TL.joinL [] _ = _
  rw [joinL0]
theorem flat_len : ∀ ys : List Str, ((ys.map TL.tl).flatten).length = (ys.map (·.length)).sum
  | [] => rfl
  | y :: ys => by
    rw [List.map_cons, List.flatten_cons, List.length_append, flat_len ys, List.map_cons, List.sum_cons]
    show y.cps.toList.length + _ = _
    rw [Array.length_toList]
    rfl
theorem S_len' (l : List Nat) : (⟨l.toArray⟩ : Str).length = l.length := by simp [Str.length]
theorem cut_to (l : List Nat) {o : Nat} (h : o ≤ l.length) : cutS ⟨l.toArray⟩ none (some (o : Int)) = ⟨(l.take o).toArray⟩ := by
  unfold cutS
  rw [HT.sIx_none, HT.sIx_nat, S_len', Nat.sub_zero, Nat.min_eq_left h]
  show (⟨((l.drop 0).take o).toArray⟩ : Str) = _
  rw [List.drop_zero]
theorem str1 (c : Nat) (d : Nat) : decide (V.str ⟨#[c]⟩ = V.str ⟨#[d]⟩) = decide (c = d) := by
  by_cases h : c = d
  · subst h
    rw [decide_eq_true rfl, decide_eq_true rfl]
  · rw [decide_eq_false h, decide_eq_false]
    intro e
    have e1 := V.str.inj e
    have e2 := Array.toList_inj.mpr (Str.mk.inj e1)
    exact h (by simpa using e2)
def tx (l : List Nat) : V := .str ⟨l.toArray⟩
/-- a comprehension's scope within another scope -/
def relS (scope sc : Scope) : Scope := { scope with names := scope.names.map fun (n, k) => if (k == .free && sc.kind == .function && sc.names.lookup n == some .cell) then (n, .cell) else (n, k) }
theorem anyK {X : Cx} (K : PySem.W.Frag) (hc : X.calm = true) (h : X.K = K := by rfl) : CallR X (.builtin "any") (rAny K) := by subst h; exact cr_any hc
theorem pi_listK {X : Cx} (K : PySem.W.Frag) {l tg : Expr} {tl : TE} (hl : PE X l tl) (h : X.K = K := by rfl) : PI X tg l (iList K tl) := by subst h; exact pi_list hl
theorem pi_tupK {X : Cx} (K : PySem.W.Frag) {l tg : Expr} {tl : TE} (hl : PE X l tl) (h : X.K = K := by rfl) : PI X tg l (iTup K tl) := by subst h; exact pi_tup hl

structure Mg (mg : Str → Option Value) : Prop where
  abs : mg "abs" = none
  all : mg "all" = none
  bool : mg "bool" = none
  enumerate : mg "enumerate" = none
  int : mg "int" = none
  isinstance : mg "isinstance" = none
  len : mg "len" = none
  list : mg "list" = none
  min : mg "min" = none
  range : mg "range" = none
  sorted : mg "sorted" = none
  str : mg "str" = none
  sum : mg "sum" = none
  tuple : mg "tuple" = none
/-! ### the law's draws: a list of the script's copy, a place in it, what is left of a great number, a seed -/
def Dr (H : Hp) (d c : Addr) : Prop := c ≠ d ∧ ∃ (ns : List Int) (pos rest seed : Int), H d = some (.lst [.ref c, .int pos, .int rest, .int seed]) ∧ H c = some (.lst (ns.map V.int)) ∧ 0 ≤ pos ∧ 0 ≤ rest ∧ 0 ≤ seed ∧ seed < 2147483647
theorem Dr.ext {H H' : Hp} {d c : Addr} (h : Dr H d c) (e : Same H H') : Dr H' d c := by
  obtain ⟨n, ns, pos, rest, seed, h1, h2, r⟩ := h
  exact ⟨n, ns, pos, rest, seed, e _ _ h1, e _ _ h2, r⟩
theorem Dr.upd {H : Hp} {d c p : Addr} {o : HO} (h : Dr H d c) (n1 : p ≠ d) (n2 : p ≠ c) : Dr (upd H p o) d c := by
  obtain ⟨n, ns, pos, rest, seed, h1, h2, r⟩ := h
  exact ⟨n, ns, pos, rest, seed, by rw [upd_ne n1.symm]; exact h1, by rw [upd_ne n2.symm]; exact h2, r⟩
theorem Dr.nd {H : Hp} {d c p : Addr} (h : Dr H d c) (n : H p = none) : p ≠ d := by
  obtain ⟨_, ns, pos, rest, seed, h1, _⟩ := h
  exact (ne_of_none h1 n).symm
theorem Dr.nc {H : Hp} {d c p : Addr} (h : Dr H d c) (n : H p = none) : p ≠ c := by
  obtain ⟨_, ns, pos, rest, seed, _, h2, _⟩ := h
  exact (ne_of_none h2 n).symm
theorem Dr.lst {H : Hp} {d c : Addr} (h : Dr H d c) : ∃ zs, H d = some (.lst zs) := by
  obtain ⟨_, ns, pos, rest, seed, h1, _⟩ := h
  exact ⟨_, h1⟩
theorem Dr.lift {H H' : Hp} {d c d' c' : Addr} (_h : Dr H d c) (h' : Dr H' d' c') : Dr H' d' c' := h'
def sp_draw (K : PySem.W.Frag) : Sp := fun vs H Q _ => ∃ (a : Addr) (ns : List Int), vs = [.ref a] ∧ SqL K H a (ns.map V.int) ∧ ∀ H' d c, Same H H' → H d = none → Dr H' d c → Q (.ref d) H'
/-- a draw: some number below many -/
def sp_next : Sp := fun vs H Q _ => ∃ (d c : Addr) (many : Int), vs = [.ref d, .int many] ∧ Dr H d c ∧ 1 ≤ many ∧ many < 2 ^ 64 ∧ ∀ H' r, Fd d H H' → (∀ p, p ≠ d → H' p = H p) → Dr H' d c → 0 ≤ r → r < many → Q (.int r) H'
section
variable {P : Program} {w : World} {K : PySem.W.Frag} {mg : Str → Option Value} {base : Heap}
theorem ok_draw {f : Addr} {fd : FuncData} (F : Fun K "_law_draw" "_law_draw" s__law_draw f fd) (M : Mg mg) : FnOk P w K mg base CX0 1 f fd ["script"] (sp_draw K) := by
  refine F.ok sc__law_draw (fun vs H Q E h => ?_) (fun cdv A outer s H vs Q E hr h => ?_)
  · obtain ⟨a, ns, rfl, _⟩ := h
    rfl
  · obtain ⟨a, ns, rfl, hS, q⟩ := h
    refine ⟨_, (pss_one (ps_ret (pe_lst (pa_cons (pe_callTy (listK K) (by rfl) M.list (by decide +kernel) (pa_cons (pv 0) pa_nil)) (pa_cons pe_int (pa_cons pe_int (pa_cons pe_int pa_nil))))))), ?_⟩
    refine ⟨_, rfl, a, _, rfl, .inl hS, fun c nc => ?_⟩
    refine ⟨by show 4 ≤ sizeLine; decide, fun d nd => ?_⟩
    have hc : (upd H c (.lst (ns.map V.int))) c = some (.lst (ns.map V.int)) := upd_same
    have ncd : c ≠ d := ne_of_none hc nd
    have s1 := (same_upd nc (o := .lst (ns.map V.int))).trans (same_upd nd (o := .lst [.ref c, .int 0, .int 0, .int 17]))
    refine q _ d c s1 ((same_upd nc).free nd) ⟨ncd, ns, 0, 0, 17, upd_same, ?_, by decide, by decide, by decide, by decide⟩
    rw [upd_ne ncd]
    exact hc
theorem next_aux {H : Hp} {d c : Addr} {xs' : List V} {pos rest seed : Int} {ns : List Int} (hn : c ≠ d) (h2 : H c = some (.lst (ns.map V.int))) (hx : xs' = [.ref c, .int pos, .int rest, .int seed]) (h0 : 0 ≤ pos) (h1 : 0 ≤ rest) (h3 : 0 ≤ seed) (h4 : seed < 2147483647) : Dr (upd H d (.lst xs')) d c := by
  subst hx
  refine ⟨hn, ns, pos, rest, seed, upd_same, ?_, h0, h1, h3, h4⟩
  rw [upd_ne hn]
  exact h2
theorem ok_next {f : Addr} {fd : FuncData} (F : Fun K "_law_next" "_law_next" s__law_next f fd) (M : Mg mg) : FnOk P w K mg base CX0 1 f fd ["draw", "many"] sp_next := by
  refine F.ok sc__law_next (fun vs H Q E h => ?_) (fun cdv A outer s H vs Q E hr h => ?_)
  · obtain ⟨d, c, many, rfl, _⟩ := h
    rfl
  · obtain ⟨d, c, many, rfl, ⟨ncd, ns, pos, rest, seed, h1, h2, h0, h3, h4, h5⟩, hm1, hm2, q⟩ := h
    have hdv : ∀ x : Int, CDivW x many := fun x => wide_div (b := 64) (by omega) (by omega) (by decide) (by decide)
    have hcd : d ≠ c := ncd.symm
    have L0 : SqL K H d [.ref c, .int pos, .int rest, .int seed] := .of h1
    have at0 : ∀ (a b e g : V), atI [a, b, e, g] (0 : Int) = some a := fun a b e g => atI_nat (j := 0) rfl
    have at1 : ∀ (a b e g : V), atI [a, b, e, g] (1 : Int) = some b := fun a b e g => atI_nat (j := 1) rfl
    have at2 : ∀ (a b e g : V), atI [a, b, e, g] (2 : Int) = some e := fun a b e g => atI_nat (j := 2) rfl
    have at3 : ∀ (a b e g : V), atI [a, b, e, g] (3 : Int) = some g := fun a b e g => atI_nat (j := 3) rfl
    have fr : ∀ (H0 : Hp) (o : HO), (∀ p, p ≠ d → H0 p = H p) → (∀ p, p ≠ d → (upd H0 d o) p = H p) := fun H0 o e p n => by rw [upd_ne n]; exact e p n
    have fF : ∀ (H0 : Hp), (∀ p, p ≠ d → H0 p = H p) → Fd d H H0 := fun H0 e b o n h => by rw [e b n]; exact h
    -- the last row's value
    have last : ∀ (seed' : Int), 0 ≤ seed' → seed' < 2147483647 → ∀ H0 : Hp, (∀ p, p ≠ d → H0 p = H p) → (∃ pos rest, H0 d = some (.lst [.ref c, .int pos, .int rest, .int seed']) ∧ 0 ≤ pos ∧ 0 ≤ rest) → Q (.int ((seed' * 69621 % 2147483629 / 7) % many)) H0 := by
      intro seed' g0 g1 H0 e ⟨pos', rest', g2, g3, g4⟩
      exact q H0 _ (fF _ e) e ⟨ncd, ns, pos', rest', seed', g2, by rw [e c ncd]; exact h2, g3, g4, g0, g1⟩ (Int.emod_nonneg _ (by omega)) (Int.emod_lt_of_pos _ (by omega))
    refine ⟨_, (pss_cons (ps_if (pt_cmpR op_gt (pe_ix (ix_listK K) (pv 0) pe_int (fun _ _ => rfl)) pe_int (nomark _)) (pss_cons (ps_set (i := 2) sc__law_next.nd rfl (.inl rfl) (pe_op op_mod (pe_callTy call_int1 (by rfl) M.int (by decide +kernel) (pa_cons (pe_ix (ix_listK K) (pv 0) pe_int (fun _ _ => rfl)) pa_nil)) (pv 1)))
      (pss_cons (ps_asg (pe_op op_fdivW (pe_ix (ix_listK K) (pv 0) pe_int (fun _ _ => rfl)) (pv 1)) (pg_sub (pv 0) pe_int set_list))
      (pss_one (ps_ret (pv 2))))) pss_nil)
      (pss_cons (ps_if (pt_cmpR op_lt (pe_ix (ix_listK K) (pv 0) pe_int (fun _ _ => rfl)) (pe_callB (len_seqK K) (by rfl) M.len PySem.boot_len (pa_cons (pe_ix (ix_listK K) (pv 0) pe_int (fun _ _ => rfl)) pa_nil)) (nomark _)) (pss_cons (ps_set (i := 3) sc__law_next.nd rfl (.inl rfl) (pe_callB call_abs (by rfl) M.abs (by decide +kernel) (pa_cons (pe_ix (ix_listK K) (pe_ix (ix_listK K) (pv 0) pe_int (fun _ _ => rfl)) (pe_ix (ix_listK K) (pv 0) pe_int (fun _ _ => rfl)) (fun _ _ => rfl)) pa_nil)))
      (pss_cons (ps_asg (pe_op op_add (pe_ix (ix_listK K) (pv 0) pe_int (fun _ _ => rfl)) pe_int) (pg_sub (pv 0) pe_int set_list))
      (pss_cons (ps_if (pt_cmpR op_ge (pv 3) (pe_op op_pow pe_int pe_int) (nomark _)) (pss_cons (ps_asg (pe_op op_fdivW (pv 3) (pv 1)) (pg_sub (pv 0) pe_int set_list))
      (pss_one (ps_ret (pe_op op_mod (pe_callTy call_int1 (by rfl) M.int (by decide +kernel) (pa_cons (pv 3) pa_nil)) (pv 1))))) pss_nil)
      (pss_one (ps_asg (pe_op op_mod (pe_callTy call_int1 (by rfl) M.int (by decide +kernel) (pa_cons (pe_op op_add (pe_op op_add (pe_op op_mul (pe_ix (ix_listK K) (pv 0) pe_int (fun _ _ => rfl)) pe_int) (pv 3)) pe_int) pa_nil)) pe_int) (pg_sub (pv 0) pe_int set_list)))))) (pss_one (ps_asg (pe_op op_mod (pe_callTy call_int1 (by rfl) M.int (by decide +kernel) (pa_cons (pe_op op_add (pe_op op_mul (pe_ix (ix_listK K) (pv 0) pe_int (fun _ _ => rfl)) pe_int) pe_int) pa_nil)) pe_int) (pg_sub (pv 0) pe_int set_list))))
      (pss_one (ps_ret (pe_op op_mod (pe_op op_fdivW (pe_callTy call_int1 (by rfl) M.int (by decide +kernel) (pa_cons (pe_op op_mod (pe_op op_mul (pe_ix (ix_listK K) (pv 0) pe_int (fun _ _ => rfl)) pe_int) pe_int) pa_nil)) pe_int) (pv 1)))))), ?_⟩
    refine ⟨_, rfl, d, _, 2, .int rest, rfl, rfl, L0, at2 .., ?_⟩
    refine ⟨_, _, rfl, rfl, _, rfl, ite2 (fun e => ?_) (fun e => ?_)⟩
    · -- draw[2] > 0
      have hr0 : 0 < rest := of_decide_eq_true e
      refine ⟨_, rfl, d, _, 2, .int rest, rfl, rfl, L0, at2 .., .inl ⟨_, rfl, ?_⟩⟩
      refine ⟨_, rfl, _, _, rfl, rfl, by omega, ?_⟩
      refine ⟨_, rfl, d, _, 2, .int rest, rfl, rfl, L0, at2 .., ?_⟩
      refine ⟨_, rfl, _, _, rfl, rfl, hdv _, ?_⟩
      refine ⟨_, rfl, d, _, 2, 2, rfl, rfl, h1, rfl, ?_⟩
      refine ⟨_, rfl, ?_⟩
      have e1 := fr H (.lst ([.ref c, .int pos, .int rest, .int seed].set 2 (.int (rest / many)))) (fun _ _ => rfl)
      exact q _ _ (fF _ e1) e1 (next_aux ncd h2 rfl h0 (Int.ediv_nonneg h3 (by omega)) h4 h5) (Int.emod_nonneg _ (by omega)) (Int.emod_lt_of_pos _ (by omega))
    · refine ⟨_, rfl, d, _, 1, .int pos, rfl, rfl, L0, at1 .., ?_⟩
      refine ⟨_, rfl, d, _, 0, .ref c, rfl, rfl, L0, at0 .., ?_⟩
      refine ⟨c, _, rfl, .inl (.of h2), ?_⟩
      refine ⟨_, _, rfl, rfl, _, rfl, ite2 (fun e2 => ?_) (fun e2 => ?_)⟩
      · have hp : pos < ((ns.map V.int).length : Int) := of_decide_eq_true e2
        rw [List.length_map] at hp
        obtain ⟨i, rfl⟩ := Int.eq_ofNat_of_zero_le h0
        have hi : i < ns.length := by omega
        have hat : atI (ns.map V.int) ((i : Nat) : Int) = some (.int ns[i]) := atI_nat (by rw [List.getElem?_map, List.getElem?_eq_getElem hi]; rfl)
        -- cell = abs(..)
        refine ⟨_, rfl, d, _, 0, .ref c, rfl, rfl, L0, at0 .., ?_⟩
        refine ⟨_, rfl, d, _, 1, _, rfl, rfl, L0, at1 .., ?_⟩
        refine ⟨c, _, _, _, rfl, rfl, .of h2, hat, ?_⟩
        refine ⟨_, rfl, ?_⟩
        have hcell : (0 : Int) ≤ (if ns[i] < 0 then -ns[i] else ns[i]) := by split <;> omega
        generalize (if ns[i] < 0 then -ns[i] else ns[i]) = cell at hcell
        -- draw[1] = draw[1] + 1
        refine ⟨_, rfl, d, _, 1, _, rfl, rfl, L0, at1 .., ?_⟩
        refine ⟨_, _, rfl, rfl, ?_⟩
        refine ⟨_, rfl, d, _, 1, 1, rfl, rfl, h1, rfl, ?_⟩
        have hd1 : (upd H d (.lst ([.ref c, .int ((i : Nat) : Int), .int rest, .int seed].set 1 (.int ((i : Nat) + 1))))) d = some (.lst [.ref c, .int ((i : Nat) + 1), .int rest, .int seed]) := upd_same
        have e1 := fr H (.lst ([.ref c, .int ((i : Nat) : Int), .int rest, .int seed].set 1 (.int ((i : Nat) + 1)))) (fun _ _ => rfl)
        generalize upd H d (.lst ([.ref c, .int ((i : Nat) : Int), .int rest, .int seed].set 1 (.int ((i : Nat) + 1)))) = H1 at hd1 e1
        have h2' : H1 c = some (.lst (ns.map V.int)) := by rw [e1 c ncd]; exact h2
        -- cell >= 10 ** 18
        refine ⟨_, rfl, _, _, rfl, rfl, ⟨by decide, by decide, by decide⟩, ?_⟩
        refine ⟨_, _, rfl, rfl, _, rfl, ite2 (fun e3 => ?_) (fun e3 => ?_)⟩
        · refine ⟨_, rfl, _, rfl, _, _, rfl, rfl, hdv _, ?_⟩
          refine ⟨_, rfl, d, _, 2, 2, rfl, rfl, hd1, rfl, ?_⟩
          refine ⟨_, rfl, .inl ⟨_, rfl, ?_⟩⟩
          refine ⟨_, rfl, _, _, rfl, rfl, by omega, ?_⟩
          have e5 := fr H1 (.lst ([.ref c, .int ((i : Nat) + 1), .int rest, .int seed].set 2 (.int (cell / many)))) e1
          exact q _ _ (fF _ e5) e5 (next_aux ncd h2' rfl (by omega) (Int.ediv_nonneg hcell (by omega)) h4 h5) (Int.emod_nonneg _ (by omega)) (Int.emod_lt_of_pos _ (by omega))
        · -- draw[3] = ..
          refine ⟨_, rfl, d, _, 3, .int seed, rfl, rfl, .of hd1, at3 .., ?_⟩
          refine ⟨_, _, rfl, rfl, .inl ⟨by omega, by omega⟩, ?_⟩
          refine ⟨_, rfl, _, _, rfl, rfl, ?_⟩
          refine ⟨_, _, rfl, rfl, .inl ⟨_, rfl, ?_⟩⟩
          refine ⟨_, _, rfl, rfl, by show (0 : Int) < 2147483647; decide, ?_⟩
          refine ⟨_, rfl, d, _, 3, 3, rfl, rfl, hd1, rfl, ?_⟩
          have hs0 : 0 ≤ (seed * 48271 + cell + 11) % 2147483647 := Int.emod_nonneg _ (by decide)
          have hs1 : (seed * 48271 + cell + 11) % 2147483647 < 2147483647 := Int.emod_lt_of_pos _ (by decide)
          have e5 := fr H1 (.lst ([.ref c, .int ((i : Nat) + 1), .int rest, .int seed].set 3 (.int ((seed * 48271 + cell + 11) % 2147483647)))) e1
          have hd5 : (upd H1 d (.lst ([.ref c, .int ((i : Nat) + 1), .int rest, .int seed].set 3 (.int ((seed * 48271 + cell + 11) % 2147483647))))) d = some (.lst [.ref c, .int ((i : Nat) + 1), .int rest, .int ((seed * 48271 + cell + 11) % 2147483647)]) := upd_same
          dsimp only
          generalize (seed * 48271 + cell + 11) % 2147483647 = seed' at hs0 hs1 e5 hd5 ⊢
          refine ⟨_, rfl, d, _, 3, .int seed', rfl, rfl, .of hd5, at3 .., ?_⟩
          refine ⟨_, _, rfl, rfl, .inl ⟨by omega, by omega⟩, ?_⟩
          refine ⟨_, _, rfl, rfl, by show (0 : Int) < 2147483629; decide, .inl ⟨_, rfl, ?_⟩⟩
          refine ⟨_, _, rfl, rfl, ⟨by decide, by decide⟩, ?_⟩
          refine ⟨_, rfl, _, _, rfl, rfl, by omega, ?_⟩
          exact last seed' hs0 hs1 _ e5 ⟨_, _, hd5, by omega, h3⟩
      · -- draw[3] = ..
        refine ⟨_, rfl, d, _, 3, .int seed, rfl, rfl, L0, at3 .., ?_⟩
        refine ⟨_, _, rfl, rfl, .inl ⟨by omega, by omega⟩, ?_⟩
        refine ⟨_, _, rfl, rfl, .inl ⟨_, rfl, ?_⟩⟩
        refine ⟨_, _, rfl, rfl, by show (0 : Int) < 2147483647; decide, ?_⟩
        refine ⟨_, rfl, d, _, 3, 3, rfl, rfl, h1, rfl, ?_⟩
        have hs0 : 0 ≤ (seed * 48271 + 12345) % 2147483647 := Int.emod_nonneg _ (by decide)
        have hs1 : (seed * 48271 + 12345) % 2147483647 < 2147483647 := Int.emod_lt_of_pos _ (by decide)
        have e5 := fr H (.lst ([.ref c, .int pos, .int rest, .int seed].set 3 (.int ((seed * 48271 + 12345) % 2147483647)))) (fun _ _ => rfl)
        have hd5 : (upd H d (.lst ([.ref c, .int pos, .int rest, .int seed].set 3 (.int ((seed * 48271 + 12345) % 2147483647))))) d = some (.lst [.ref c, .int pos, .int rest, .int ((seed * 48271 + 12345) % 2147483647)]) := upd_same
        dsimp only
        generalize (seed * 48271 + 12345) % 2147483647 = seed' at hs0 hs1 e5 hd5 ⊢
        refine ⟨_, rfl, d, _, 3, .int seed', rfl, rfl, .of hd5, at3 .., ?_⟩
        refine ⟨_, _, rfl, rfl, .inl ⟨by omega, by omega⟩, ?_⟩
        refine ⟨_, _, rfl, rfl, by show (0 : Int) < 2147483629; decide, .inl ⟨_, rfl, ?_⟩⟩
        refine ⟨_, _, rfl, rfl, ⟨by decide, by decide⟩, ?_⟩
        refine ⟨_, rfl, _, _, rfl, rfl, by omega, ?_⟩
        exact last seed' hs0 hs1 _ e5 ⟨_, _, hd5, h0, h3⟩
end

/-! ### data in the heap -/
theorem SqT.ext {K : PySem.W.Frag} {H H' : Hp} {a : Addr} {xs : List V} (e : Same H H') (h : SqT K H a xs) : SqT K H' a xs := by
  rcases h with (h | ⟨o, h⟩) | h
  · exact .inl (.inl (e _ _ h))
  · exact .inl (.inr ⟨o, e _ _ h⟩)
  · exact .inr h
mutual
theorem Dp.ext {K : PySem.W.Frag} {H H' : Hp} (e : Same H H') : ∀ (d : PyData) (v : V), Dp K H v d → Dp K H' v d
  | .none, _, h => by cases h; exact .non
  | .bool b, _, h => by cases h; exact .bl b
  | .int i, _, h => by cases h; exact .int i
  | .str x, _, h => by cases h; exact .str x
  | .list ds, _, h => by
    cases h with
    | lst hs ha => exact .lst (e.seq hs) (DpAll.ext e ds _ ha)
  | .tuple ds, _, h => by
    cases h with
    | tup hs ha => exact .tup (SqT.ext e hs) (DpAll.ext e ds _ ha)
  | .dict _, _, h => by cases h
theorem DpAll.ext {K : PySem.W.Frag} {H H' : Hp} (e : Same H H') : ∀ (ds : List PyData) (vs : List V), DpAll K H vs ds → DpAll K H' vs ds
  | [], _, h => by cases h; exact .nil
  | d :: ds, _, h => by
    cases h with
    | cons h1 h2 => exact .cons (Dp.ext e d _ h1) (DpAll.ext e ds _ h2)
end
theorem DpAll.len {K : PySem.W.Frag} {H : Hp} : ∀ {ds : List PyData} {vs : List V}, DpAll K H vs ds → vs.length = ds.length
  | [], _, h => by cases h; rfl
  | d :: ds, _, h => by
    cases h with
    | cons h1 h2 => exact congrArg (· + 1) (DpAll.len h2)
theorem DpAll.get {K : PySem.W.Frag} {H : Hp} : ∀ {ds : List PyData} {vs : List V} {i : Nat} {d : PyData}, DpAll K H vs ds → ds[i]? = some d → ∃ v, vs[i]? = some v ∧ Dp K H v d
  | [], _, _, _, _, e => by simp at e
  | x :: ds, _, 0, d, h, e => by
    cases h with
    | cons h1 h2 =>
      have e1 : x = d := Option.some.inj e
      subst e1
      exact ⟨_, rfl, h1⟩
  | x :: ds, _, i + 1, d, h, e => by
    cases h with
    | cons h1 h2 =>
      obtain ⟨v, hv, hd⟩ := DpAll.get (i := i) h2 (by simpa using e)
      exact ⟨v, by simpa using hv, hd⟩
theorem tyL {K : PySem.W.Frag} {H : Hp} {a : Addr} {xs : List V} (h : SqL K H a xs) : TyX K H (.ref a) (.type "list") := by
  rcases h with (h | ⟨o, h⟩) | ⟨o, its, n, h, c, _⟩
  · exact .base (.lst h)
  · exact .base (.frz h)
  · exact .kList h c
theorem tyT {K : PySem.W.Frag} {H : Hp} {a : Addr} {xs : List V} (h : SqT K H a xs) : TyX K H (.ref a) (.type "tuple") := by
  rcases h with (h | ⟨o, h⟩) | ⟨o, its, n, h, c, _⟩
  · exact .base (.tup h)
  · exact .fTuple h
  · exact .kTuple h c
mutual
/-- no list within -/
def tupOnly : PyData → Bool
  | .list _ => false
  | .dict _ => false
  | .tuple ds => tupOnlys ds
  | _ => true
def tupOnlys : List PyData → Bool
  | [] => true
  | d :: ds => tupOnly d && tupOnlys ds
end
mutual
theorem Dp.away {K : PySem.W.Frag} {H : Hp} {D : Addr} {zs : List V} {o : HO} (hD : H D = some (.lst zs)) : ∀ (d : PyData) (v : V), tupOnly d = true → Dp K H v d → Dp K (upd H D o) v d
  | .none, _, _, h => by cases h; exact .non
  | .bool b, _, _, h => by cases h; exact .bl b
  | .int i, _, _, h => by cases h; exact .int i
  | .str x, _, _, h => by cases h; exact .str x
  | .list ds, _, e, _ => by unfold tupOnly at e; cases e
  | .tuple ds, _, e, h => by
    unfold tupOnly at e
    cases h with
    | @tup a _ _ hs ha =>
      refine .tup ?_ (DpAll.away hD ds _ e ha)
      rcases hs with (hs | ⟨o', hs⟩) | hs
      · exact .inl (.inl (by rw [upd_ne (ne_of hs hD (fun z => nomatch z))]; exact hs))
      · exact .inl (.inr ⟨o', by rw [upd_ne (ne_of hs hD (fun z => nomatch z))]; exact hs⟩)
      · exact .inr hs
  | .dict _, _, _, h => by cases h
theorem DpAll.away {K : PySem.W.Frag} {H : Hp} {D : Addr} {zs : List V} {o : HO} (hD : H D = some (.lst zs)) : ∀ (ds : List PyData) (vs : List V), tupOnlys ds = true → DpAll K H vs ds → DpAll K (upd H D o) vs ds
  | [], _, _, h => by cases h; exact .nil
  | d :: ds, _, e, h => by
    unfold tupOnlys at e
    rw [Bool.and_eq_true] at e
    cases h with
    | cons h1 h2 => exact .cons (Dp.away hD d _ e.1 h1) (DpAll.away hD ds _ e.2 h2)
end
theorem DpAll.snoc {K : PySem.W.Frag} {H : Hp} : ∀ {ds : List PyData} {xs : List V} {v : V} {d : PyData}, DpAll K H xs ds → Dp K H v d → DpAll K H (xs ++ [v]) (ds ++ [d])
  | [], _, _, _, h, h2 => by cases h; exact .cons h2 .nil
  | _ :: ds, _, _, _, h, h2 => by
    cases h with
    | cons a b => exact .cons a (DpAll.snoc b h2)
theorem at_0 {α : Type} {xs : List α} {i : Nat} {v : α} (h : xs[i]? = some v) : atI xs (0 + (i : Int)) = some v := by
  rw [Int.zero_add]
  exact atI_nat h
mutual
/-- what is made of tuples stands when another list is changed -/
theorem Dp.fd {K : PySem.W.Frag} {H H' : Hp} {D : Addr} (hD : ∃ zs, H D = some (.lst zs)) (e : Fd D H H') : ∀ (d : PyData) (v : V), tupOnly d = true → Dp K H v d → Dp K H' v d
  | .none, _, _, h => by cases h; exact .non
  | .bool b, _, _, h => by cases h; exact .bl b
  | .int i, _, _, h => by cases h; exact .int i
  | .str x, _, _, h => by cases h; exact .str x
  | .list ds, _, e, _ => by unfold tupOnly at e; cases e
  | .tuple ds, _, e', h => by
    unfold tupOnly at e'
    obtain ⟨zs, hz⟩ := hD
    cases h with
    | @tup a _ _ hs ha =>
      refine .tup ?_ (DpAll.fd ⟨zs, hz⟩ e ds _ e' ha)
      rcases hs with (hs | ⟨o', hs⟩) | hs
      · exact .inl (.inl (e _ _ (ne_of hs hz (fun z => nomatch z)) hs))
      · exact .inl (.inr ⟨o', e _ _ (ne_of hs hz (fun z => nomatch z)) hs⟩)
      · exact .inr hs
  | .dict _, _, _, h => by cases h
theorem DpAll.fd {K : PySem.W.Frag} {H H' : Hp} {D : Addr} (hD : ∃ zs, H D = some (.lst zs)) (e : Fd D H H') : ∀ (ds : List PyData) (vs : List V), tupOnlys ds = true → DpAll K H vs ds → DpAll K H' vs ds
  | [], _, _, h => by cases h; exact .nil
  | d :: ds, _, e', h => by
    unfold tupOnlys at e'
    rw [Bool.and_eq_true] at e'
    cases h with
    | cons h1 h2 => exact .cons (Dp.fd hD e d _ e'.1 h1) (DpAll.fd hD e ds _ e'.2 h2)
end

/-! ### diagrams as trees -/
inductive Bd where
  | lf (b : Bool)
  | nd (e : Int) (w t : Bd)
deriving DecidableEq
def Bd.ev : Bd → (Int → Bool) → Bool
  | .lf b, _ => b
  | .nd e w t, r => if r e = true then t.ev r else w.ev r
/-- its questions ascend, they are all of the list; both sides of a node differ -/
inductive Wf : List Int → Bd → Prop
  | lf {es b} : Wf es (.lf b)
  | here {x es w t} : Wf es w → Wf es t → w ≠ t → Wf (x :: es) (.nd x w t)
  | skip {x es a} : Wf es a → Wf (x :: es) a
def setR (r : Int → Bool) (x : Int) (b : Bool) : Int → Bool := fun y => if y = x then b else r y
theorem setR_same (r : Int → Bool) (x : Int) (b : Bool) : setR r x b x = b := if_pos rfl
theorem setR_ne {r : Int → Bool} {x y : Int} {b : Bool} (h : y ≠ x) : setR r x b y = r y := if_neg h
theorem Wf.away {es : List Int} {a : Bd} (h : Wf es a) : ∀ {x : Int} {b : Bool} {r : Int → Bool}, x ∉ es → a.ev (setR r x b) = a.ev r := by
  induction h with
  | lf => intros; rfl
  | @here y es w t _ _ _ iw it =>
    intro x b r hx
    rw [List.mem_cons, not_or] at hx
    show (if setR r x b y = true then t.ev (setR r x b) else w.ev (setR r x b)) = if r y = true then t.ev r else w.ev r
    rw [setR_ne (Ne.symm hx.1), iw hx.2, it hx.2]
  | @skip y es a _ ih =>
    intro x b r hx
    rw [List.mem_cons, not_or] at hx
    exact ih hx.2
/-- both sides at the question x, which no other one comes ahead of -/
def Bd.cw (x : Int) : Bd → Bd
  | .nd e w t => if e = x then w else .nd e w t
  | a => a
def Bd.ct (x : Int) : Bd → Bd
  | .nd e w t => if e = x then t else .nd e w t
  | a => a
theorem Wf.none_of {es : List Int} {x : Int} {w t : Bd} (h : Wf es (.nd x w t)) : x ∈ es := by
  generalize e : Bd.nd x w t = a at h
  induction h with
  | lf => cases e
  | here _ _ _ => cases e; exact List.mem_cons_self
  | skip _ ih => exact List.mem_cons_of_mem _ (ih e)
theorem Wf.cw {x : Int} {es : List Int} {a : Bd} (hx : x ∉ es) (h : Wf (x :: es) a) : Wf es (a.cw x) ∧ ∀ r, (a.cw x).ev r = a.ev (setR r x false) := by
  cases h with
  | lf => exact ⟨.lf, fun _ => rfl⟩
  | @here _ _ w t hw ht hn =>
    have e1 : (Bd.nd x w t).cw x = w := if_pos rfl
    rw [e1]
    refine ⟨hw, fun r => ?_⟩
    show _ = if setR r x false x = true then _ else _
    rw [setR_same, if_neg Bool.false_ne_true, hw.away hx]
  | skip h =>
    have e : a.cw x = a := by
      cases a with
      | lf b => rfl
      | nd y w t =>
        have hy := h.none_of
        exact if_neg (fun (z : y = x) => hx (z ▸ hy))
    rw [e]
    exact ⟨h, fun r => (h.away hx).symm⟩
theorem Wf.ct {x : Int} {es : List Int} {a : Bd} (hx : x ∉ es) (h : Wf (x :: es) a) : Wf es (a.ct x) ∧ ∀ r, (a.ct x).ev r = a.ev (setR r x true) := by
  cases h with
  | lf => exact ⟨.lf, fun _ => rfl⟩
  | @here _ _ w t hw ht hn =>
    have e1 : (Bd.nd x w t).ct x = t := if_pos rfl
    rw [e1]
    refine ⟨ht, fun r => ?_⟩
    show _ = if setR r x true x = true then _ else _
    rw [setR_same, if_pos rfl, ht.away hx]
  | skip h =>
    have e : a.ct x = a := by
      cases a with
      | lf b => rfl
      | nd y w t =>
        have hy := h.none_of
        exact if_neg (fun (z : y = x) => hx (z ▸ hy))
    rw [e]
    exact ⟨h, fun r => (h.away hx).symm⟩
theorem Wf.cwt_eq {x : Int} {es : List Int} {a : Bd} (hx : x ∉ es) (h : Wf (x :: es) a) : (a.cw x = a.ct x ↔ Wf es a) ∧ (a.cw x = a.ct x → a.cw x = a) ∧ (a.cw x ≠ a.ct x → a = .nd x (a.cw x) (a.ct x)) := by
  have key : ∀ {a : Bd}, Wf es a → a.cw x = a ∧ a.ct x = a := fun {a} h => by
    cases a with
    | lf b => exact ⟨rfl, rfl⟩
    | nd y w t =>
      have hy := h.none_of
      exact ⟨if_neg (fun (z : y = x) => hx (z ▸ hy)), if_neg (fun (z : y = x) => hx (z ▸ hy))⟩
  cases h with
  | lf => exact ⟨⟨fun _ => .lf, fun _ => rfl⟩, fun _ => rfl, fun n => absurd rfl n⟩
  | @here _ _ w t hw ht hn =>
    have e1 : (Bd.nd x w t).cw x = w := if_pos rfl
    have e2 : (Bd.nd x w t).ct x = t := if_pos rfl
    rw [e1, e2]
    exact ⟨⟨fun e => absurd e hn, fun h => absurd h.none_of hx⟩, fun e => absurd e hn, fun _ => rfl⟩
  | skip h =>
    obtain ⟨e1, e2⟩ := key h
    rw [e1, e2]
    exact ⟨⟨fun _ => h, fun _ => rfl⟩, fun _ => rfl, fun n => absurd rfl n⟩
/-- just one diagram for each condition -/
theorem canon : ∀ {es : List Int} {a b : Bd}, es.Nodup → Wf es a → Wf es b → (∀ r, a.ev r = b.ev r) → a = b
  | [], a, b, _, ha, hb, h => by
    cases ha
    cases hb
    exact congrArg Bd.lf (h fun _ => false)
  | x :: es, a, b, hn, ha, hb, h => by
    rw [List.nodup_cons] at hn
    have w := canon hn.2 (ha.cw hn.1).1 (hb.cw hn.1).1 fun r => by rw [(ha.cw hn.1).2, (hb.cw hn.1).2, h]
    have t := canon hn.2 (ha.ct hn.1).1 (hb.ct hn.1).1 fun r => by rw [(ha.ct hn.1).2, (hb.ct hn.1).2, h]
    obtain ⟨_, ea, na⟩ := ha.cwt_eq hn.1
    obtain ⟨_, eb, nb⟩ := hb.cwt_eq hn.1
    by_cases e : a.cw x = a.ct x
    · rw [← ea e, ← eb (by rw [← w, ← t, e]), w]
    · rw [na e, nb (by rw [← w, ← t]; exact e), w, t]
/-- a node, or what both sides are -/
def mkB (x : Int) (w t : Bd) : Bd := if w = t then w else .nd x w t
theorem mkB_wf {x : Int} {es : List Int} {w t : Bd} (hw : Wf es w) (ht : Wf es t) : Wf (x :: es) (mkB x w t) := by
  unfold mkB
  split
  · exact .skip hw
  · exact .here hw ht ‹_›
theorem mkB_ev {x : Int} {w t : Bd} (r : Int → Bool) : (mkB x w t).ev r = if r x = true then t.ev r else w.ev r := by
  unfold mkB
  split
  · rename_i h
    subst h
    split <;> rfl
  · rfl
/-! ### diagrams in a store: its nodes by their places -/
abbrev Nds := List (Int × Nat × Nat)
inductive At (N : Nds) : Nat → Bd → Prop
  | f : At N 0 (.lf false)
  | t : At N 1 (.lf true)
  | nd {k : Nat} {e : Int} {w t : Nat} {a b : Bd} : N[k]? = some (e, w, t) → At N w a → At N t b → At N (k + 2) (.nd e a b)
theorem At.mono {N M : Nds} {c : Nat} {a : Bd} (h : At N c a) : At (N ++ M) c a := by
  induction h with
  | f => exact .f
  | t => exact .t
  | nd hk _ _ ia ib => exact .nd (by rw [List.getElem?_append_left (List.getElem?_eq_some_iff.mp hk).1]; exact hk) ia ib
theorem At.fn {N : Nds} {c : Nat} {a : Bd} (h : At N c a) : ∀ {b : Bd}, At N c b → a = b := by
  induction h with
  | f => intro b hb; cases hb; rfl
  | t => intro b hb; cases hb; rfl
  | nd hk _ _ ia ib =>
    intro b hb
    cases hb with
    | nd hk2 ha2 hb2 =>
      have e := Option.some.inj (hk.symm.trans hk2)
      cases e
      have e1 := ia ha2
      have e2 := ib hb2
      rw [e1, e2]
theorem nodup_at {α : Type} : ∀ {l : List α} {i j : Nat} {x : α}, l.Nodup → l[i]? = some x → l[j]? = some x → i = j
  | [], _, _, _, _, h, _ => by simp at h
  | y :: l, 0, 0, _, _, _, _ => rfl
  | y :: l, 0, j + 1, x, hn, h1, h2 => by
    rw [List.nodup_cons] at hn
    have e : y = x := Option.some.inj h1
    have h2 : l[j]? = some x := by simpa using h2
    exact absurd (e ▸ List.mem_of_getElem? h2) hn.1
  | y :: l, i + 1, 0, x, hn, h1, h2 => by
    rw [List.nodup_cons] at hn
    have e : y = x := Option.some.inj h2
    have h1 : l[i]? = some x := by simpa using h1
    exact absurd (e ▸ List.mem_of_getElem? h1) hn.1
  | y :: l, i + 1, j + 1, x, hn, h1, h2 => by
    rw [List.nodup_cons] at hn
    exact congrArg (· + 1) (nodup_at hn.2 (by simpa using h1) (by simpa using h2))
theorem At.inj {N : Nds} (hn : N.Nodup) {c : Nat} {a : Bd} (h : At N c a) : ∀ {d : Nat}, At N d a → c = d := by
  induction h with
  | f => intro d hd; cases hd; rfl
  | t => intro d hd; cases hd; rfl
  | nd hk _ _ ia ib =>
    intro d hd
    cases hd with
    | nd hk2 ha2 hb2 =>
      have e1 := ia ha2
      have e2 := ib hb2
      subst e1 e2
      rw [nodup_at hn hk hk2]
theorem At.lt {N : Nds} {c : Nat} {a : Bd} (h : At N c a) : c < N.length + 2 := by
  cases h with
  | f => omega
  | t => omega
  | nd hk _ _ => have := (List.getElem?_eq_some_iff.mp hk).1; omega
theorem At.leaf {N : Nds} {c : Nat} {b : Bool} (h : At N c (.lf b)) : c = if b = true then 1 else 0 := by cases h <;> rfl
theorem At.ge {N : Nds} {c : Nat} {a : Bd} (h : At N c a) (h2 : 2 ≤ c) : ∃ e w t a1 b1, N[c - 2]? = some (e, w, t) ∧ At N w a1 ∧ At N t b1 ∧ a = .nd e a1 b1 := by
  cases h with
  | f => omega
  | t => omega
  | nd hk ha hb => exact ⟨_, _, _, _, _, hk, ha, hb, rfl⟩

/-! ### a store of diagrams in the heap -/
theorem SqT.tsn {K : PySem.W.Frag} {H H' : Hp} {a : Addr} {xs : List V} (e : ∀ b o, (∃ ys, o = HO.tup ys) ∨ (∃ q u, o = HO.frz q u) → H b = some o → H' b = some o) (h : SqT K H a xs) : SqT K H' a xs := by
  rcases h with (h | ⟨o, h⟩) | h
  · exact .inl (.inl (e _ _ (.inl ⟨_, rfl⟩) h))
  · exact .inl (.inr ⟨o, e _ _ (.inr ⟨_, _, rfl⟩) h⟩)
  · exact .inr h
mutual
/-- what is made of tuples stands where all tuples stand -/
theorem Dp.tsn {K : PySem.W.Frag} {H H' : Hp} (e : ∀ b o, (∃ ys, o = HO.tup ys) ∨ (∃ q u, o = HO.frz q u) → H b = some o → H' b = some o) : ∀ (d : PyData) (v : V), tupOnly d = true → Dp K H v d → Dp K H' v d
  | .none, _, _, h => by cases h; exact .non
  | .bool b, _, _, h => by cases h; exact .bl b
  | .int i, _, _, h => by cases h; exact .int i
  | .str x, _, _, h => by cases h; exact .str x
  | .list ds, _, e', _ => by unfold tupOnly at e'; cases e'
  | .tuple ds, _, e', h => by
    unfold tupOnly at e'
    cases h with
    | tup hs ha => exact .tup (SqT.tsn e hs) (DpAll.tsn e ds _ e' ha)
  | .dict _, _, _, h => by cases h
theorem DpAll.tsn {K : PySem.W.Frag} {H H' : Hp} (e : ∀ b o, (∃ ys, o = HO.tup ys) ∨ (∃ q u, o = HO.frz q u) → H b = some o → H' b = some o) : ∀ (ds : List PyData) (vs : List V), tupOnlys ds = true → DpAll K H vs ds → DpAll K H' vs ds
  | [], _, _, h => by cases h; exact .nil
  | d :: ds, _, e', h => by
    unfold tupOnlys at e'
    rw [Bool.and_eq_true] at e'
    cases h with
    | cons h1 h2 => exact .cons (Dp.tsn e d _ e'.1 h1) (DpAll.tsn e ds _ e'.2 h2)
end
/-- the instance, its list, its two dicts -/
structure SA where
  p : Addr
  k : Addr
  u : Addr
  m : Addr
def sfl (s : SA) : List (Str × V) := [("kept", .ref s.k), ("numbers", .ref s.u), ("combined", .ref s.m)]
theorem sf_kept (s : SA) : (sfl s).lookup ("kept" : Str) = some (.ref s.k) := rfl
theorem sf_num (s : SA) : (sfl s).lookup ("numbers" : Str) = some (.ref s.u) := rfl
theorem sf_comb (s : SA) : (sfl s).lookup ("combined" : Str) = some (.ref s.m) := rfl
theorem sf_no (s : SA) {m : Str} (h1 : (m == ("kept" : Str)) = false) (h2 : (m == ("numbers" : Str)) = false) (h3 : (m == ("combined" : Str)) = false) : (sfl s).lookup m = none := by
  unfold sfl
  simp only [List.lookup, h1, h2, h3]
/-- what stood stands, but for the store's list and dicts -/
def FdS (s : SA) (H H' : Hp) : Prop := ∀ b o, b ≠ s.k → b ≠ s.u → b ≠ s.m → H b = some o → H' b = some o
theorem FdS.refl (s : SA) (H : Hp) : FdS s H H := fun _ _ _ _ _ h => h
theorem FdS.trans {s : SA} {H H1 H2 : Hp} (a : FdS s H H1) (b : FdS s H1 H2) : FdS s H H2 := fun x o h1 h2 h3 h => b x o h1 h2 h3 (a x o h1 h2 h3 h)
theorem FdS.of {s : SA} {H H' : Hp} (a : Same H H') : FdS s H H' := fun x o _ _ _ h => a x o h
def nD (n : Int × Nat × Nat) : PyData := .tuple [.int n.1, .int (n.2.1 : Nat), .int (n.2.2 : Nat)]
theorem nD_only : ∀ N : Nds, tupOnlys (N.map nD) = true
  | [] => rfl
  | n :: N => by
    rw [List.map_cons]
    unfold tupOnlys
    rw [nD_only N]
    rfl
abbrev ky3 (a b c : Int) : List Key := [.inl a, .inl b, .inl c]
def NumsOk (N : Nds) (kvs : List (List Key × V)) : Prop := (∀ (e : Int) (w t : Nat), valV kvs (ky3 e w t) = none → (e, w, t) ∉ N) ∧ ∀ (e : Int) (w t : Nat) v, valV kvs (ky3 e w t) = some v → ∃ i : Nat, N[i]? = some (e, w, t) ∧ v = .int ((i + 2 : Nat) : Int)
/-- the diagram that is one of two, where a third one holds -/
def IsIte (es : List Int) (a b c d : Bd) : Prop := Wf es d ∧ ∀ r, d.ev r = if a.ev r = true then b.ev r else c.ev r
def MemoOk (N : Nds) (es : List Int) (cvs : List (List Key × V)) : Prop := ∀ (c a b : Nat) v, valV cvs (ky3 c a b) = some v → ∃ (r : Nat) (A B C T : Bd), v = .int (r : Int) ∧ At N c A ∧ At N a B ∧ At N b C ∧ At N r T ∧ IsIte es A B C T
def Sto (C : Addr) (K : PySem.W.Frag) (H : Hp) (s : SA) (N : Nds) (es : List Int) (L : Nat) : Prop :=
  (∃ dx, H s.p = some (.ins C dx (sfl s))) ∧ (∃ xs, H s.k = some (.lst xs) ∧ DpAll K H xs (N.map nD)) ∧ (∃ kvs, H s.u = some (.dT kvs) ∧ kvs.length ≤ N.length ∧ NumsOk N kvs) ∧
    (∃ cvs, H s.m = some (.dT cvs) ∧ cvs.length ≤ L ∧ MemoOk N es cvs) ∧ N.Nodup ∧ s.u ≠ s.m ∧ es.Pairwise (· < ·)
section
variable {C : Addr} {K : PySem.W.Frag} {H H' : Hp} {s : SA} {N : Nds} {es : List Int} {L : Nat}
theorem Sto.ins (h : Sto C K H s N es L) : ∃ dx, H s.p = some (.ins C dx (sfl s)) := h.1
theorem Sto.nd (h : Sto C K H s N es L) : N.Nodup := h.2.2.2.2.1
theorem Sto.srt (h : Sto C K H s N es L) : es.Pairwise (· < ·) := h.2.2.2.2.2.2
theorem Sto.es_nd (h : Sto C K H s N es L) : es.Nodup := h.srt.imp fun h => by omega
theorem Sto.ext (e : Same H H') (h : Sto C K H s N es L) : Sto C K H' s N es L := by
  obtain ⟨⟨dx, h1⟩, ⟨xs, h2, h3⟩, ⟨kvs, h4, h5⟩, ⟨cvs, h6, h7⟩, h8⟩ := h
  exact ⟨⟨dx, e _ _ h1⟩, ⟨xs, e _ _ h2, DpAll.ext e _ _ h3⟩, ⟨kvs, e _ _ h4, h5⟩, ⟨cvs, e _ _ h6, h7⟩, h8⟩
theorem Sto.tup (h : Sto C K H s N es L) (f : FdS s H H') : ∀ b o, (∃ ys, o = HO.tup ys) ∨ (∃ q u, o = HO.frz q u) → H b = some o → H' b = some o := by
  obtain ⟨_, ⟨xs, h2, _⟩, ⟨kvs, h4, _⟩, ⟨cvs, h6, _⟩, _⟩ := h
  rintro b o (⟨ys, rfl⟩ | ⟨q, u, rfl⟩) hb
  · exact f _ _ (ne_of hb h2 (fun z => nomatch z)) (ne_of hb h4 (fun z => nomatch z)) (ne_of hb h6 (fun z => nomatch z)) hb
  · exact f _ _ (ne_of hb h2 (fun z => nomatch z)) (ne_of hb h4 (fun z => nomatch z)) (ne_of hb h6 (fun z => nomatch z)) hb
theorem Sto.dp (h : Sto C K H s N es L) (f : FdS s H H') {d : PyData} {v : V} (ht : tupOnly d = true) (hd : Dp K H v d) : Dp K H' v d := Dp.tsn (h.tup f) d v ht hd
theorem Sto.at (h : Sto C K H s N es L) {c : Nat} {n : Int × Nat × Nat} (h2 : 2 ≤ c) (hn : N[c - 2]? = some n) : ∃ dx xs q, H s.p = some (.ins C dx (sfl s)) ∧ SqL K H s.k xs ∧ atI xs ((c : Int) - 2) = some (.ref q) ∧ SqT K H q [.int n.1, .int (n.2.1 : Nat), .int (n.2.2 : Nat)] := by
  obtain ⟨⟨dx, h1⟩, ⟨xs, h3, h4⟩, _⟩ := h
  obtain ⟨v, hv, hd⟩ := DpAll.get h4 (show (N.map nD)[c - 2]? = some (nD n) by rw [List.getElem?_map, hn]; rfl)
  have e : (c : Int) - 2 = ((c - 2 : Nat) : Int) := by omega
  cases hd with
  | @tup q _ _ hs ha =>
    cases ha with
    | cons g1 g2 =>
      cases g1
      cases g2 with
      | cons g3 g4 =>
        cases g3
        cases g4 with
        | cons g5 g6 =>
          cases g5
          cases g6
          exact ⟨dx, xs, q, h1, .of h3, by rw [e]; exact atI_nat hv, hs⟩
end
theorem NumsOk.snoc {N : Nds} {kvs : List (List Key × V)} (h : NumsOk N kvs) {e : Int} {w t : Nat} (hn : valV kvs (ky3 e w t) = none) : NumsOk (N ++ [(e, w, t)]) (putK kvs (ky3 e w t) (.int ((N.length + 2 : Nat) : Int))) := by
  have inj : ∀ {e' : Int} {w' t' : Nat}, ky3 e' w' t' = ky3 e w t → (e', w', t') = (e, w, t) := by
    intro e' w' t' h
    injection h with h1 h2
    injection h2 with h2 h3
    injection h3 with h3 _
    injection h1 with h1
    injection h2 with h2
    injection h3 with h3
    have : w' = w := by omega
    have : t' = t := by omega
    subst_vars
    rfl
  refine ⟨fun e' w' t' h' hm => ?_, fun e' w' t' v h' => ?_⟩
  · rw [valV_put] at h'
    split at h'
    · cases h'
    · rename_i hne
      rcases List.mem_append.mp hm with hm | hm
      · exact h.1 _ _ _ h' hm
      · rw [List.mem_singleton] at hm
        cases hm
        exact hne rfl
  · rw [valV_put] at h'
    split at h'
    · rename_i he
      cases inj he
      refine ⟨N.length, by rw [List.getElem?_append_right (Nat.le_refl _), Nat.sub_self]; rfl, ?_⟩
      exact (Option.some.inj h').symm
    · obtain ⟨i, hi, hv⟩ := h.2 _ _ _ _ h'
      exact ⟨i, by rw [List.getElem?_append_left (List.getElem?_eq_some_iff.mp hi).1]; exact hi, hv⟩
theorem MemoOk.mono {N M : Nds} {es : List Int} {cvs : List (List Key × V)} (h : MemoOk N es cvs) : MemoOk (N ++ M) es cvs := fun c a b v hv => by
  obtain ⟨r, A, B, C, T, e, h1, h2, h3, h4, h5⟩ := h c a b v hv
  exact ⟨r, A, B, C, T, e, h1.mono, h2.mono, h3.mono, h4.mono, h5⟩
theorem MemoOk.put {N : Nds} {es : List Int} {cvs : List (List Key × V)} (h : MemoOk N es cvs) {c a b r : Nat} {A B C T : Bd} (h1 : At N c A) (h2 : At N a B) (h3 : At N b C) (h4 : At N r T) (h5 : IsIte es A B C T) : MemoOk N es (putK cvs (ky3 c a b) (.int (r : Int))) := fun c' a' b' v hv => by
  rw [valV_put] at hv
  split at hv
  · rename_i he
    injection he with e1 e2
    injection e2 with e2 e3
    injection e3 with e3 _
    injection e1 with e1
    injection e2 with e2
    injection e3 with e3
    have e1 : c' = c := by omega
    have e2 : a' = a := by omega
    have e3 : b' = b := by omega
    subst e1 e2 e3
    exact ⟨r, A, B, C, T, (Option.some.inj hv).symm, h1, h2, h3, h4, h5⟩
  · exact h _ _ _ _ hv
/-! ### what both sides give -/
theorem Wf.skips {es : List Int} {a : Bd} (h : Wf es a) : ∀ pre : List Int, Wf (pre ++ es) a
  | [] => h
  | _ :: pre => .skip (h.skips pre)
theorem ite_step {x : Int} {es : List Int} {a b c t1 t2 : Bd} (hx : x ∉ es) (ha : Wf (x :: es) a) (hb : Wf (x :: es) b) (hc : Wf (x :: es) c) (h1 : IsIte es (a.cw x) (b.cw x) (c.cw x) t1) (h2 : IsIte es (a.ct x) (b.ct x) (c.ct x) t2) : IsIte (x :: es) a b c (mkB x t1 t2) := by
  refine ⟨mkB_wf h1.1 h2.1, fun r => ?_⟩
  have hs : ∀ v, r x = v → setR r x v = r := fun v e => by
    funext y
    by_cases hy : y = x
    · subst hy
      rw [setR_same, e]
    · rw [setR_ne hy]
  rw [mkB_ev]
  cases e : r x with
  | true => rw [if_pos rfl, h2.2, (ha.ct hx).2, (hb.ct hx).2, (hc.ct hx).2, hs _ e]
  | false => rw [if_neg Bool.false_ne_true, h1.2, (ha.cw hx).2, (hb.cw hx).2, (hc.cw hx).2, hs _ e]
/-- there is one -/
theorem ite_ex : ∀ {es : List Int} {a b c : Bd}, es.Nodup → Wf es a → Wf es b → Wf es c → ∃ t, IsIte es a b c t
  | [], a, b, c, _, ha, hb, hc => by
    cases ha with
    | @lf _ v =>
      cases v with
      | true => exact ⟨b, hb, fun _ => (if_pos rfl).symm⟩
      | false => exact ⟨c, hc, fun _ => (if_neg Bool.false_ne_true).symm⟩
  | x :: es, a, b, c, hn, ha, hb, hc => by
    rw [List.nodup_cons] at hn
    obtain ⟨t1, h1⟩ := ite_ex hn.2 (ha.cw hn.1).1 (hb.cw hn.1).1 (hc.cw hn.1).1
    obtain ⟨t2, h2⟩ := ite_ex hn.2 (ha.ct hn.1).1 (hb.ct hn.1).1 (hc.ct hn.1).1
    exact ⟨_, ite_step hn.1 ha hb hc h1 h2⟩
theorem ite_low {pre es : List Int} {a b c t : Bd} (hn : (pre ++ es).Nodup) (ha : Wf es a) (hb : Wf es b) (hc : Wf es c) (h : IsIte (pre ++ es) a b c t) : IsIte es a b c t := by
  obtain ⟨t', h'⟩ := ite_ex (List.nodup_append.mp hn).2.1 ha hb hc
  have e := canon hn h.1 (h'.1.skips pre) fun r => by rw [h.2, h'.2]
  rw [e]
  exact h'
theorem IsIte.skips {es : List Int} {a b c t : Bd} (pre : List Int) (h : IsIte es a b c t) : IsIte (pre ++ es) a b c t := ⟨h.1.skips pre, h.2⟩
/-- the question of the first one that has one -/
theorem top_ex : ∀ {es : List Int} {cs : List Bd}, (∀ a ∈ cs, Wf es a) → (∃ a ∈ cs, ∀ b, a ≠ .lf b) → ∃ pre x rest, es = pre ++ x :: rest ∧ (∀ a ∈ cs, Wf (x :: rest) a) ∧ ∃ w t, Bd.nd x w t ∈ cs
  | [], cs, h, ⟨a, ha, hn⟩ => by
    have := h a ha
    cases this
    exact absurd rfl (hn _)
  | x :: es, cs, h, hex => by
    by_cases hx : ∃ w t, Bd.nd x w t ∈ cs
    · exact ⟨[], x, es, rfl, h, hx⟩
    · have h' : ∀ a ∈ cs, Wf es a := fun a ha => by
        cases h a ha with
        | lf => exact .lf
        | here _ _ _ => exact absurd ⟨_, _, ha⟩ hx
        | skip h => exact h
      obtain ⟨pre, y, rest, e, h1, h2⟩ := top_ex h' hex
      exact ⟨x :: pre, y, rest, by rw [e]; rfl, h1, h2⟩
theorem Wf.head {es : List Int} {x : Int} {w t : Bd} (h : Wf es (.nd x w t)) : x ∈ es := h.none_of

/-! ### methods, defs that a name holds, instances -/
structure ClM (P : Program) (w : World) (K : PySem.W.Frag) (mg : Str → Option Value) (base : Heap) (k : Nat) (C : Addr) (m : Str) (sp : Sp) : Prop where
  ex : ∃ (f : Addr) (fd : FuncData) (ps : List Str), FnOk P w K mg base CX0 k f fd ps sp ∧ Meth K C m f ∧ Cls K C ∧ Binds K fd ps []
structure ClC (P : Program) (w : World) (K : PySem.W.Frag) (mg : Str → Option Value) (base : Heap) (k : Nat) (x : Str) (C : Addr) (sp : Sp) : Prop where
  ex : ∃ (f : Addr) (fd : FuncData) (ps : List Str), FnOk P w K mg base CX0 k f fd ps sp ∧ Mk K C f ∧ mg x = some (.ref C) ∧ Binds K fd ps []
theorem FnOk.clm {P : Program} {w : World} {K : PySem.W.Frag} {mg : Str → Option Value} {base : Heap} {k : Nat} {C : Addr} {m : Str} {f : Addr} {fd : FuncData} {ps : List Str} {sp : Sp} (h : FnOk P w K mg base CX0 k f fd ps sp) (mt : Meth K C m f) (cl : Cls K C) (b : Binds K fd ps []) : ClM P w K mg base k C m sp := ⟨f, fd, ps, h, mt, cl, b⟩
section
variable {X : Cx} {k j i : Nat} {m x : Str} {C : Addr} {sp : Sp} {p pos apos : Pos} {o e : Expr} {es : List Expr} {t : TA} {ta : TE}
theorem pe_mt {pl : Sem Bool} (c : ClM X.prog X.w X.K X.mg X.base k C m sp) (hr : Room j X.A) (hk : k ≤ j) (he : PE X o ta) (ha : PA X (e :: es) t) (hst : starEach (e :: es) X.env = (false, eval e X.env) :: starEach es X.env := by rfl) (hpl : (backTo pos (starEach es X.env)).any (·.1) = false := by rfl)
    (ht : eval (.Call (.Attribute o m apos) (e :: es) [] pos) X.env = (do let ov ← eval o X.env; standAt apos.atName; let (f, first) ← holding [ov] (getMethod ov m pl); callWith pos f first (backTo pos (starEach (e :: es) X.env)) (backToKw pos (keywordEach [] X.env))) := by rfl) : PE X (.Call (.Attribute o m apos) (e :: es) [] pos) (tMeth C m sp [] E0 ta t) := by
  obtain ⟨f, fd, ps, F, hm, cl, b⟩ := c.ex
  exact pe_meth he cl hm F (hr.mono hk) b .nil pass0 ha hst hpl ht
theorem pe_mt0 {pl : Sem Bool} (c : ClM X.prog X.w X.K X.mg X.base k C m sp) (hr : Room j X.A) (hk : k ≤ j) (he : PE X o ta)
    (ht : eval (.Call (.Attribute o m apos) [] [] pos) X.env = (do let ov ← eval o X.env; standAt apos.atName; let (f, first) ← holding [ov] (getMethod ov m pl); callWith pos f first (backTo pos (starEach [] X.env)) (backToKw pos (keywordEach [] X.env))) := by rfl) : PE X (.Call (.Attribute o m apos) [] [] pos) (tMeth C m sp [] E0 ta tNil) := by
  obtain ⟨f, fd, ps, F, hm, cl, b⟩ := c.ex
  exact pe_meth0 he cl hm F (hr.mono hk) b .nil pass0 ht
theorem pe_mk (c : ClC X.prog X.w X.K X.mg X.base k x C sp) (hr : Room j X.A) (hk : k + 1 ≤ j) (hg : L2.Gl X x) (ha : PA X (e :: es) t) (hdb : (x == ("__debug__" : Str)) = false := by decide) (he : starEach (e :: es) X.env = (false, eval e X.env) :: starEach es X.env := by rfl) (hpl : (backTo pos (starEach es X.env)).any (·.1) = false := by rfl) : PE X (.Call (.Name x p) (e :: es) [] pos) (tMake C sp [] E0 t) := by
  obtain ⟨f, fd, ps, F, M, hm, b⟩ := c.ex
  exact pe_make M F (hr.mono hk) hg hm b .nil pass0 ha hdb he hpl
theorem pe_mk0 (c : ClC X.prog X.w X.K X.mg X.base k x C sp) (hr : Room j X.A) (hk : k + 1 ≤ j) (hg : L2.Gl X x) (hdb : (x == ("__debug__" : Str)) = false := by decide) : PE X (.Call (.Name x p) [] [] pos) (tMake C sp [] E0 tNil) := by
  obtain ⟨f, fd, ps, F, M, hm, b⟩ := c.ex
  exact pe_make0 M F (hr.mono hk) hg hm b .nil pass0 hdb
end

/-! ### the store's methods -/
structure DgC (K : PySem.W.Frag) (C : Addr) (mg : Str → Option Value) : Prop where
  cl : Cls K C
  nK : NoAttr K C "kept"
  nN : NoAttr K C "numbers"
  nM : NoAttr K C "combined"
  NEVER : ∃ u, mg "NEVER" = some u ∧ RelV (.int 0) u
  ALWAYS : ∃ u, mg "ALWAYS" = some u ∧ RelV (.int 1) u
  FIRST_NODE : ∃ u, mg "FIRST_NODE" = some u ∧ RelV (.int 2) u
theorem Sto.go {C : Addr} {K : PySem.W.Frag} {H : Hp} {s : SA} {N : Nds} {es : List Int} {L : Nat} (h : Sto C K H s N es L) {m : Str} (h1 : (m == ("kept" : Str)) = false) (h2 : (m == ("numbers" : Str)) = false) (h3 : (m == ("combined" : Str)) = false) {R : Prop} (r : R) : ∃ a dx fs, V.ref s.p = .ref a ∧ H a = some (.ins C dx fs) ∧ fs.lookup m = none ∧ R := by
  obtain ⟨dx, hp⟩ := h.ins
  exact ⟨s.p, dx, _, rfl, hp, sf_no s h1 h2 h3, r⟩
def sp_nof (C : Addr) (K : PySem.W.Frag) : Sp := fun vs H Q _ => ∃ s N es L c n, vs = [.ref s.p, .int ((c : Nat) : Int)] ∧ Sto C K H s N es L ∧ 2 ≤ c ∧ N[c - 2]? = some n ∧ ∀ q, SqT K H q [.int n.1, .int (n.2.1 : Nat), .int (n.2.2 : Nat)] → Q (.ref q) H
def sp_node (C : Addr) (K : PySem.W.Frag) : Sp := fun vs H Q _ => ∃ s N es L x w t W T, vs = [.ref s.p, .int x, .int ((w : Nat) : Int), .int ((t : Nat) : Int)] ∧ Sto C K H s N es L ∧ At N w W ∧ At N t T ∧ N.length + 1 < sizeLine ∧
  ∀ H' M r, FdS s H H' → M.length ≤ 1 → Sto C K H' s (N ++ M) es L → At (N ++ M) r (mkB x W T) → Q (.int ((r : Nat) : Int)) H'
def sp_top (C : Addr) (K : PySem.W.Frag) : Sp := fun vs H Q _ => ∃ s N es L pre es' a, ∃ cs : List (Nat × Bd), vs = [.ref s.p, .ref a] ∧ Sto C K H s N es L ∧ SqT K H a (cs.map fun c => .int ((c.1 : Nat) : Int)) ∧ es = pre ++ es' ∧ cs.length ≤ 3 ∧ (∀ c ∈ cs, At N c.1 c.2 ∧ Wf es' c.2) ∧ (∃ c ∈ cs, 2 ≤ c.1) ∧
  ∀ H' pre2 x es2, Same H H' → es' = pre2 ++ x :: es2 → (∀ c ∈ cs, Wf (x :: es2) c.2) → Q (.int x) H'
def sp_bra (C : Addr) (K : PySem.W.Frag) : Sp := fun vs H Q _ => ∃ s N es L x es2 c A, vs = [.ref s.p, .int ((c : Nat) : Int), .int x] ∧ Sto C K H s N es L ∧ At N c A ∧ Wf (x :: es2) A ∧ x ∉ es2 ∧
  ∀ H' q w t, Same H H' → H' q = some (.tup [.int ((w : Nat) : Int), .int ((t : Nat) : Int)]) → At N w (A.cw x) → At N t (A.ct x) → Q (.ref q) H'
def sp_comb (C : Addr) (K : PySem.W.Frag) (n : Nat) : Sp := fun vs H Q _ => ∃ s N es L pre es' c a b A B D, vs = [.ref s.p, .int ((c : Nat) : Int), .int ((a : Nat) : Int), .int ((b : Nat) : Int)] ∧ Sto C K H s N es L ∧ es = pre ++ es' ∧ es'.length < n ∧ At N c A ∧ At N a B ∧ At N b D ∧ Wf es' A ∧ Wf es' B ∧ Wf es' D ∧
  N.length + 2 ^ es'.length < sizeLine ∧ L + 2 ^ es'.length < sizeLine ∧
  ∀ H' M r T, FdS s H H' → M.length + 1 ≤ 2 ^ es'.length → Sto C K H' s (N ++ M) es (L + (2 ^ es'.length - 1)) → At (N ++ M) r T → IsIte es' A B D T → Q (.int ((r : Nat) : Int)) H'
section
variable {P : Program} {w : World} {K : PySem.W.Frag} {mg : Str → Option Value} {base : Heap}
theorem ok_nof {f C : Addr} {fd : FuncData} (F : Fun K "node_of" "Diagrams.node_of" s_Diagrams_node_of f fd) (M : Mg mg) (G : DgC K C mg) : FnOk P w K mg base CX0 1 f fd ["self", "condition"] (sp_nof C K) := by
  refine F.ok sc_Diagrams_node_of (fun vs H Q E h => ?_) (fun cdv A outer s H vs Q E hr h => ?_)
  · obtain ⟨s, N, es, L, c, n, rfl, _⟩ := h
    rfl
  · obtain ⟨s, N, es, L, c, n, rfl, st, h2, hn, q⟩ := h
    obtain ⟨dx, xs, a, hp, hk, hat, hq⟩ := st.at h2 hn
    refine ⟨_, (pss_one (ps_ret (pe_ix (ix_listK K) (pe_fld (pv 0) rfl) (pe_op op_sub (pv 1) (C8.pe_gc (by rfl) G.FIRST_NODE)) (fun _ _ => rfl)))), ?_⟩
    exact ⟨_, rfl, s.p, C, dx, _, _, rfl, hp, G.cl, G.nK, sf_kept s, _, rfl, _, _, rfl, rfl, s.k, xs, _, _, rfl, rfl, hk, hat, q a hq⟩
theorem ok_node {f C : Addr} {fd : FuncData} (F : Fun K "node" "Diagrams.node" s_Diagrams_node f fd) (M : Mg mg) (G : DgC K C mg) : FnOk P w K mg base CX0 1 f fd ["self", "entry", "without", "there"] (sp_node C K) := by
  refine F.ok sc_Diagrams_node (fun vs H Q E h => ?_) (fun cdv A outer s H vs Q E hr h => ?_)
  · obtain ⟨s, N, es, L, x, w, t, W, T, rfl, _⟩ := h
    rfl
  · obtain ⟨s, N, es, L, x, w, t, W, T, rfl, st, hw, ht, hz, q⟩ := h
    refine ⟨_, (pss_cons (ps_if (pt_cmpR op_eq (pv 2) (pv 3) (nomark _)) (pss_one (ps_ret (pv 2))) pss_nil)
      (pss_cons (ps_set (i := 4) sc_Diagrams_node.nd rfl (.inl rfl) (pe_tup (pa_cons (pv 1) (pa_cons (pv 2) (pa_cons (pv 3) pa_nil)))))
      (pss_cons (ps_if (pt_cmp (pc_dnotin (hu_of hr) (pv 4) (pe_fld (pv 0) rfl))) (pss_cons (ps_dput (hu_of hr) (pe_fld (pv 0) rfl) (pv 4) (pe_op op_add (pe_callB (len_seqK K) (by rfl) M.len PySem.boot_len (pa_cons (pe_fld (pv 0) rfl) pa_nil)) (C8.pe_gc (by rfl) G.FIRST_NODE)) rfl)
      (pss_one (ps_expr (pe_bmK K PySem.F.plainAttrs_list PySem.F.slot_list_append PySem.F.type_list_append mt_append (pe_fld (pv 0) rfl) (pa_cons (pv 4) pa_nil))))) pss_nil)
      (pss_one (ps_ret (pe_dget (hu_of hr) (pe_fld (pv 0) rfl) (pv 4) (fun _ _ => rfl))))))), ?_⟩
    refine ⟨_, rfl, _, rfl, rfl, _, rfl, ite2 (fun e => ?_) (fun e => ?_)⟩
    · have e1 : w = t := by
        have := V.int.inj (of_decide_eq_true e)
        omega
      subst e1
      have e2 := hw.fn ht
      subst e2
      refine ⟨_, rfl, q H [] w (FdS.refl s H) (Nat.zero_le _) (by rw [List.append_nil]; exact st) ?_⟩
      rw [List.append_nil, show mkB x W W = W from if_pos rfl]
      exact hw
    · have hne : W ≠ T := fun z => by
        subst z
        exact e (by rw [hw.inj st.nd ht]; exact decide_eq_true rfl)
      have em : mkB x W T = .nd x W T := if_neg hne
      rw [em] at q
      refine ⟨_, rfl, _, rfl, _, rfl, by show 3 ≤ sizeLine; decide, fun tp ntp => ?_⟩
      have s1 := same_upd ntp (o := .tup [.int x, .int ((w : Nat) : Int), .int ((t : Nat) : Int)])
      have et : (upd H tp (.tup [.int x, .int ((w : Nat) : Int), .int ((t : Nat) : Int)])) tp = some (.tup ((ky3 x w t).map kV)) := upd_same
      generalize upd H tp (.tup [.int x, .int ((w : Nat) : Int), .int ((t : Nat) : Int)]) = H1 at s1 et
      have st1 := st.ext s1
      obtain ⟨⟨dx, hp⟩, ⟨xs, hk, hxs⟩, ⟨kvs, hu, hkl, hko⟩, ⟨cvs, hm, hcl, hco⟩, hnd, hum, hes⟩ := id st1
      have npk : s.p ≠ s.k := ne_of hp hk (fun z => nomatch z)
      have npu : s.p ≠ s.u := ne_of hp hu (fun z => nomatch z)
      have nku : s.k ≠ s.u := ne_of hk hu (fun z => nomatch z)
      have nkm : s.k ≠ s.m := ne_of hk hm (fun z => nomatch z)
      have ntk : tp ≠ s.k := ne_of et hk (fun z => nomatch z)
      have ntu : tp ≠ s.u := ne_of et hu (fun z => nomatch z)
      refine ⟨_, rfl, _, rfl, s.p, C, dx, _, _, rfl, hp, G.cl, G.nN, sf_num s, s.u, _, rfl, DGet.t hu et, _, rfl, ?_⟩
      cases ev : valV kvs (ky3 x w t) with
      | some v =>
        obtain ⟨i, hi, rfl⟩ := hko.2 _ _ _ _ ev
        refine iteF ?_
        refine ⟨_, rfl, s.p, C, dx, _, _, rfl, hp, G.cl, G.nN, sf_num s, _, rfl, s.u, .int ((i + 2 : Nat) : Int), rfl, ?_, ?_⟩
        · have := DGet.t hu et
          rw [ev] at this
          exact this
        · exact q H1 [] (i + 2) (FdS.of s1) (Nat.zero_le _) (by rw [List.append_nil]; exact st1) (by rw [List.append_nil]; exact .nd hi hw ht)
      | none =>
        have hnew : (x, w, t) ∉ N := hko.1 _ _ _ ev
        have lxs : xs.length = N.length := by rw [DpAll.len hxs, List.length_map]
        refine iteT ?_
        refine ⟨_, rfl, s.p, C, dx, _, _, rfl, hp, G.cl, G.nK, sf_kept s, s.k, xs, rfl, .inl (.of hk), _, _, rfl, rfl, _, rfl, s.p, C, dx, _, _, rfl, hp, G.cl, G.nN, sf_num s, _, rfl, s.u, _, rfl, DPut.t hu et (by omega), ?_⟩
        rw [lxs]
        dsimp only
        rw [show ((N.length : Nat) : Int) + 2 = ((N.length + 2 : Nat) : Int) by omega]
        have hk2 : (upd H1 s.u (.dT (putK kvs (ky3 x w t) (.int ((N.length + 2 : Nat) : Int))))) s.k = some (.lst xs) := by rw [upd_ne nku]; exact hk
        have hp2 : (upd H1 s.u (.dT (putK kvs (ky3 x w t) (.int ((N.length + 2 : Nat) : Int))))) s.p = some (.ins C dx (sfl s)) := by rw [upd_ne npu]; exact hp
        refine ⟨_, rfl, s.p, C, dx, _, _, rfl, hp2, G.cl, G.nK, sf_kept s, .inl ⟨rfl, _, .inl (.inl hk2)⟩, _, rfl, s.k, xs, _, rfl, rfl, hk2, by omega, ?_⟩
        have eu3 : (upd (upd H1 s.u (.dT (putK kvs (ky3 x w t) (.int ((N.length + 2 : Nat) : Int))))) s.k (.lst (xs ++ [.ref tp]))) s.u = some (.dT (putK kvs (ky3 x w t) (.int ((N.length + 2 : Nat) : Int)))) := by rw [upd_ne nku.symm, upd_same]
        have f3 : FdS s H1 (upd (upd H1 s.u (.dT (putK kvs (ky3 x w t) (.int ((N.length + 2 : Nat) : Int))))) s.k (.lst (xs ++ [.ref tp]))) := fun b o n1 n2 n3 hb => by
          rw [upd_ne n1, upd_ne n2]
          exact hb
        have ep3 : (upd (upd H1 s.u (.dT (putK kvs (ky3 x w t) (.int ((N.length + 2 : Nat) : Int))))) s.k (.lst (xs ++ [.ref tp]))) s.p = some (.ins C dx (sfl s)) := by rw [upd_ne npk]; exact hp2
        have em3 : (upd (upd H1 s.u (.dT (putK kvs (ky3 x w t) (.int ((N.length + 2 : Nat) : Int))))) s.k (.lst (xs ++ [.ref tp]))) s.m = some (.dT cvs) := by rw [upd_ne nkm.symm, upd_ne hum.symm]; exact hm
        have ek3 : (upd (upd H1 s.u (.dT (putK kvs (ky3 x w t) (.int ((N.length + 2 : Nat) : Int))))) s.k (.lst (xs ++ [.ref tp]))) s.k = some (.lst (xs ++ [.ref tp])) := upd_same
        have et3 : (upd (upd H1 s.u (.dT (putK kvs (ky3 x w t) (.int ((N.length + 2 : Nat) : Int))))) s.k (.lst (xs ++ [.ref tp]))) tp = some (.tup ((ky3 x w t).map kV)) := by rw [upd_ne ntk, upd_ne ntu]; exact et
        generalize upd (upd H1 s.u (.dT (putK kvs (ky3 x w t) (.int ((N.length + 2 : Nat) : Int))))) s.k (.lst (xs ++ [.ref tp])) = H3 at eu3 f3 ep3 em3 ek3 et3
        have nk : NumsOk (N ++ [(x, w, t)]) (putK kvs (ky3 x w t) (.int ((N.length + 2 : Nat) : Int))) := hko.snoc ev
        have st3 : Sto C K H3 s (N ++ [(x, w, t)]) es L := by
          refine ⟨⟨dx, ep3⟩, ⟨_, ek3, ?_⟩, ⟨_, eu3, ?_, nk⟩, ⟨cvs, em3, hcl, hco.mono⟩, ?_, hum, hes⟩
          · rw [List.map_append]
            exact DpAll.snoc (DpAll.tsn (st1.tup f3) _ _ (nD_only _) hxs) (.tup (.of et3) (.cons (.int _) (.cons (.int _) (.cons (.int _) .nil))))
          · have := length_putK kvs (ky3 x w t) (.int ((N.length + 2 : Nat) : Int))
            rw [List.length_append]
            show _ ≤ _ + 1
            omega
          · rw [List.nodup_append]
            exact ⟨hnd, List.nodup_cons.mpr ⟨List.not_mem_nil, List.nodup_nil⟩, fun a ha b hb z => by
              rw [List.mem_singleton] at hb
              subst z hb
              exact hnew ha⟩
        refine ⟨_, rfl, s.p, C, dx, _, _, rfl, ep3, G.cl, G.nN, sf_num s, _, rfl, s.u, .int ((N.length + 2 : Nat) : Int), rfl, ?_, ?_⟩
        · have := DGet.t eu3 et3
          rw [valV_put, if_pos rfl] at this
          exact this
        · refine q H3 [(x, w, t)] (N.length + 2) ((FdS.of s1).trans f3) (Nat.le_refl _) st3 (.nd ?_ hw.mono ht.mono)
          rw [List.getElem?_append_right (Nat.le_refl _), Nat.sub_self]
          rfl
def topOf : Bd → Option Int
  | .nd x _ _ => some x
  | .lf _ => none
theorem srt_le {pre es : List Int} {x y : Int} (h : (pre ++ x :: es).Pairwise (· < ·)) (hy : y ∈ x :: es) : x ≤ y := by
  have h2 := (List.pairwise_append.mp h).2.1
  rw [List.pairwise_cons] at h2
  rcases List.mem_cons.mp hy with e | hy
  · omega
  · have := h2.1 y hy
    omega
theorem ok_top {f C : Addr} {fd : FuncData} (F : Fun K "top" "Diagrams.top" s_Diagrams_top f fd) (M : Mg mg) (G : DgC K C mg) (c_Diagrams_node_of : ClM P w K mg base 1 C "node_of" (sp_nof C K)) : FnOk P w K mg base CX0 2 f fd ["self", "conditions"] (sp_top C K) := by
  refine F.ok sc_Diagrams_top (fun vs H Q E h => ?_) (fun cdv A outer s H vs Q E hr h => ?_)
  · obtain ⟨s, N, es, L, pre, es', a, cs, rfl, _⟩ := h
    rfl
  · obtain ⟨s, N, es, L, pre, es', a, cs, rfl, st, ha, he, hl, hc, hex, q⟩ := h
    refine ⟨_, (pss_one (ps_ret (pe_callB (cr_min rfl) (by rfl) M.min (by decide +kernel) (pa_cons (pe_lc (own := [("condition", 2)]) (g := gName 2) rfl sc_Diagrams_top.nd (pi_tup (pv 1)) (blkOk_by (N := N_Diagrams_top) (sc := defScope s_Diagrams_top) (by decide +kernel)) (fun _ _ _ _ _ => (pg_name (i := 2) sc_Diagrams_top.nd rfl (.inl rfl))) (fun _ _ _ _ _ => (pts_one (pt_cmpR op_ge (pv 2) (C8.pe_gc (by rfl) G.FIRST_NODE) (nomark _)))) (fun _ _ _ _ _ => (pe_ix (ix_tupK K) (pe_mt c_Diagrams_node_of hr (by first | decide | omega) (pv 0) (pa_cons (pv 2) pa_nil)) pe_int (fun _ _ => rfl)))) pa_nil)))), ?_⟩
    refine ⟨_, rfl, a, rfl, ⟨_, ha⟩, fun D nD => ?_⟩
    refine lc_tup (K := K) (a := a) (xs := cs.map fun c => .int ((c.1 : Nat) : Int)) (fun i Hi => Same H Hi ∧ ∃ ns : List Int, Hi D = some (.lst (ns.map V.int)) ∧ ns.length ≤ i ∧ ns = (cs.take i).filterMap fun c => topOf c.2) ⟨same_upd nD, [], upd_same, Nat.zero_le _, rfl⟩ (fun i Hi _ hp => SqT.ext hp.1 ha) (fun i x Hi hx hp => ?_) (fun Hn hp => ?_)
    · obtain ⟨si, ns, eD, ln, en⟩ := hp
      rw [List.getElem?_map] at hx
      obtain ⟨c, hcv, rfl⟩ := Option.map_eq_some_iff.mp hx
      have hi : i < cs.length := (List.getElem?_eq_some_iff.mp hcv).1
      obtain ⟨hAt, hWf⟩ := hc c (List.mem_of_getElem? hcv)
      have sti := st.ext si
      refine ⟨rfl, ?_⟩
      refine ⟨_, rfl, _, _, rfl, rfl, _, rfl, ite2 (fun e => ?_) (fun e => ?_)⟩
      · have h2 : 2 ≤ c.1 := by
          have := of_decide_eq_true e
          omega
        obtain ⟨e1, w1, t1, a1, b1, hn, hw1, ht1, ea⟩ := hAt.ge h2
        refine ⟨_, rfl, sti.go (by decide +kernel) (by decide +kernel) (by decide +kernel) ⟨_, rfl, ?_⟩⟩
        refine ⟨s, N, es, L, c.1, _, rfl, sti, h2, hn, fun qa hq => ?_⟩
        refine ⟨qa, _, _, _, rfl, rfl, hq, atI_nat (j := 0) rfl, ?_⟩
        refine ⟨_, eD, by rw [List.length_map]; exact Nat.lt_of_le_of_lt ln (Nat.lt_of_lt_of_le hi (Nat.le_trans hl (by decide))), ?_, ns ++ [e1], ?_, ?_, ?_⟩
        · intro b o hb
          rw [upd_ne (ne_of_none hb nD)]
          exact si _ _ hb
        · rw [upd_same, List.map_append]
          rfl
        · rw [List.length_append]
          show _ + 1 ≤ _
          omega
        · rw [List.take_add_one, hcv, List.filterMap_append, ← en]
          show _ = _ ++ ([c].filterMap fun c => topOf c.2)
          rw [List.filterMap_cons, ea]
          rfl
      · have h2 : ¬ 2 ≤ c.1 := by
          intro h
          exact e (decide_eq_true (by omega))
        refine ⟨si, ns, eD, by omega, ?_⟩
        rw [List.take_add_one, hcv, List.filterMap_append, ← en]
        show _ = _ ++ ([c].filterMap fun c => topOf c.2)
        have : topOf c.2 = none := by
          generalize c.1 = cn at hAt h2
          generalize c.2 = A at hAt
          cases hAt with
          | f => rfl
          | t => rfl
          | nd _ _ _ => omega
        rw [List.filterMap_cons, this]
        exact (List.append_nil _).symm
    · obtain ⟨sn, ns, eD, ln, en⟩ := hp
      rw [List.length_map, List.take_of_length_le (Nat.le_refl _)] at en
      obtain ⟨c0, hc0, h20⟩ := hex
      have hex' : ∃ a ∈ cs.map (·.2), ∀ b, a ≠ .lf b := by
        refine ⟨c0.2, List.mem_map.mpr ⟨c0, hc0, rfl⟩, fun b z => ?_⟩
        obtain ⟨_, _, _, _, _, _, _, _, ea⟩ := (hc c0 hc0).1.ge h20
        rw [ea] at z
        cases z
      obtain ⟨pre2, x, es2, ee, hwf, w0, t0, hm0⟩ := top_ex (es := es') (cs := cs.map (·.2)) (fun a ha => by
        obtain ⟨c, hcm, rfl⟩ := List.mem_map.mp ha
        exact (hc c hcm).2) hex'
      have hwf' : ∀ c ∈ cs, Wf (x :: es2) c.2 := fun c hcm => hwf _ (List.mem_map.mpr ⟨c, hcm, rfl⟩)
      have hx : x ∈ ns := by
        obtain ⟨c, hcm, ec⟩ := List.mem_map.mp hm0
        rw [en]
        exact List.mem_filterMap.mpr ⟨c, hcm, by rw [ec]; rfl⟩
      refine ⟨D, ns, rfl, .of eD, List.length_pos_of_mem hx, fun m hm hmin => ?_⟩
      have h1 := hmin x hx
      rw [en] at hm
      obtain ⟨c, hcm, ec⟩ := List.mem_filterMap.mp hm
      have h2 : x ≤ m := by
        have hw := hwf' c hcm
        generalize c.2 = A at hw ec
        cases A with
        | lf b => cases ec
        | nd y w t =>
          have e : y = m := Option.some.inj ec
          subst e
          have srt := st.srt
          rw [he, ee, ← List.append_assoc] at srt
          exact srt_le srt hw.none_of
      obtain rfl : m = x := by omega
      exact q Hn pre2 m es2 sn ee hwf'
theorem ok_bra {f C : Addr} {fd : FuncData} (F : Fun K "branches" "Diagrams.branches" s_Diagrams_branches f fd) (M : Mg mg) (G : DgC K C mg) (c_Diagrams_node_of : ClM P w K mg base 1 C "node_of" (sp_nof C K)) : FnOk P w K mg base CX0 2 f fd ["self", "condition", "entry"] (sp_bra C K) := by
  refine F.ok sc_Diagrams_branches (fun vs H Q E h => ?_) (fun cdv A outer s H vs Q E hr h => ?_)
  · obtain ⟨s, N, es, L, x, es2, c, A, rfl, _⟩ := h
    rfl
  · obtain ⟨s, N, es, L, x, es2, c, A, rfl, st, hAt, hWf, hx, q⟩ := h
    refine ⟨_, (pss_cons (ps_if (pt_cmpR op_ge (pv 1) (C8.pe_gc (by rfl) G.FIRST_NODE) (nomark _)) (pss_cons (ps_asg (pe_mt c_Diagrams_node_of hr (by first | decide | omega) (pv 0) (pa_cons (pv 1) pa_nil)) (pg_tup (by rfl) (pgs_cons (pg_name (i := 3) sc_Diagrams_branches.nd rfl (.inl rfl)) (pgs_cons (pg_name (i := 4) sc_Diagrams_branches.nd rfl (.inl rfl)) (pgs_cons (pg_name (i := 5) sc_Diagrams_branches.nd rfl (.inl rfl)) pgs_nil)))))
      (pss_one (ps_if (pt_cmpR op_eq (pv 3) (pv 2) (nomark _)) (pss_one (ps_ret (pe_tup (pa_cons (pv 4) (pa_cons (pv 5) pa_nil))))) pss_nil))) pss_nil)
      (pss_one (ps_ret (pe_tup (pa_cons (pv 1) (pa_cons (pv 1) pa_nil)))))), ?_⟩
    have both : A.cw x = A → A.ct x = A → ∀ q', H q' = none → Q (.ref q') (upd H q' (.tup [.int ((c : Nat) : Int), .int ((c : Nat) : Int)])) := fun e1 e2 q' nq => by
      refine q _ q' c c (same_upd nq) upd_same ?_ ?_
      · rw [e1]; exact hAt
      · rw [e2]; exact hAt
    refine ⟨_, rfl, _, _, rfl, rfl, _, rfl, ite2 (fun e => ?_) (fun e => ?_)⟩
    · have h2 : 2 ≤ c := by
        have := of_decide_eq_true e
        omega
      obtain ⟨e1, w1, t1, a1, b1, hn, hw1, ht1, ea⟩ := hAt.ge h2
      refine ⟨_, rfl, st.go (by decide +kernel) (by decide +kernel) (by decide +kernel) ⟨_, rfl, ?_⟩⟩
      refine ⟨s, N, es, L, c, _, rfl, st, h2, hn, fun qa hq => ?_⟩
      refine ⟨qa, _, rfl, hq, rfl, _, _, rfl, _, _, rfl, _, _, rfl, rfl, ?_⟩
      refine ⟨_, rfl, _, rfl, rfl, _, rfl, ite2 (fun e => ?_) (fun e => ?_)⟩
      · have ee : e1 = x := V.int.inj (of_decide_eq_true e)
        refine ⟨_, rfl, _, rfl, by show 2 ≤ sizeLine; decide, fun q' nq => ?_⟩
        refine q _ q' w1 t1 (same_upd nq) upd_same ?_ ?_
        · rw [ea, show (Bd.nd e1 a1 b1).cw x = a1 from if_pos ee]; exact hw1
        · rw [ea, show (Bd.nd e1 a1 b1).ct x = b1 from if_pos ee]; exact ht1
      · have ee : e1 ≠ x := fun z => e (by rw [z]; exact decide_eq_true rfl)
        exact ⟨_, rfl, _, rfl, by show 2 ≤ sizeLine; decide, both (by rw [ea]; exact if_neg ee) (by rw [ea]; exact if_neg ee)⟩
    · have hlf : A.cw x = A ∧ A.ct x = A := by
        cases hAt with
        | f => exact ⟨rfl, rfl⟩
        | t => exact ⟨rfl, rfl⟩
        | nd _ _ _ => exact absurd (decide_eq_true (by omega)) e
      exact ⟨_, rfl, _, rfl, by show 2 ≤ sizeLine; decide, both hlf.1 hlf.2⟩
theorem Sto.more {C : Addr} {H : Hp} {s : SA} {N : Nds} {es : List Int} {L L' : Nat} (h : Sto C K H s N es L) (hl : L ≤ L') : Sto C K H s N es L' := by
  obtain ⟨h1, h2, h3, ⟨cvs, h4, h5, h6⟩, h7⟩ := h
  exact ⟨h1, h2, h3, ⟨cvs, h4, Nat.le_trans h5 hl, h6⟩, h7⟩
theorem Sto.put {C : Addr} {H : Hp} {s : SA} {N : Nds} {es : List Int} {L : Nat} (st : Sto C K H s N es L) {c a b r : Nat} {A B D T : Bd} (h1 : At N c A) (h2 : At N a B) (h3 : At N b D) (h4 : At N r T) (h5 : IsIte es A B D T) :
    ∃ cvs, H s.m = some (.dT cvs) ∧ cvs.length ≤ L ∧ Sto C K (upd H s.m (.dT (putK cvs (ky3 c a b) (.int ((r : Nat) : Int))))) s N es (L + 1) ∧ FdS s H (upd H s.m (.dT (putK cvs (ky3 c a b) (.int ((r : Nat) : Int))))) := by
  have f : ∀ cvs, FdS s H (upd H s.m (.dT (putK cvs (ky3 c a b) (.int ((r : Nat) : Int))))) := fun cvs x o n1 n2 n3 e => by
    rw [upd_ne n3]
    exact e
  obtain ⟨⟨dx, hp⟩, ⟨xs, hk, hxs⟩, ⟨kvs, hu, hkl, hko⟩, ⟨cvs, hm, hcl, hco⟩, hnd, hum, hes⟩ := id st
  refine ⟨cvs, hm, hcl, ⟨⟨dx, ?_⟩, ⟨xs, ?_, ?_⟩, ⟨kvs, ?_, hkl, hko⟩, ⟨_, upd_same, ?_, hco.put h1 h2 h3 h4 h5⟩, hnd, hum, hes⟩, f cvs⟩
  · rw [upd_ne (ne_of hp hm (fun z => nomatch z))]; exact hp
  · rw [upd_ne (ne_of hk hm (fun z => nomatch z))]; exact hk
  · exact DpAll.tsn (st.tup (f cvs)) _ _ (nD_only _) hxs
  · rw [upd_ne hum]; exact hu
  · have := length_putK cvs (ky3 c a b) (.int ((r : Nat) : Int))
    omega
set_option maxHeartbeats 4000000 in
theorem ok_comb (n : Nat) {f C : Addr} {fd : FuncData} (F : Fun K "combine" "Diagrams.combine" s_Diagrams_combine f fd) (M : Mg mg) (G : DgC K C mg) (c_Diagrams_node : ClM P w K mg base 1 C "node" (sp_node C K)) (c_Diagrams_top : ClM P w K mg base 2 C "top" (sp_top C K)) (c_Diagrams_branches : ClM P w K mg base 2 C "branches" (sp_bra C K))
    (c_Diagrams_combine : ClM P w K mg base (n + 2) C "combine" (sp_comb C K n)) : FnOk P w K mg base CX0 (n + 3) f fd ["self", "condition", "first", "second"] (sp_comb C K (n + 1)) := by
  refine F.ok sc_Diagrams_combine (fun vs H Q E h => ?_) (fun cdv A outer s H vs Q E hr h => ?_)
  · obtain ⟨s, N, es, L, pre, es', c, a, b, A, B, D, rfl, _⟩ := h
    rfl
  · obtain ⟨s, N, es, L, pre, es', c, a, b, A, B, D, rfl, st, he, hn, hA, hB, hD, wA, wB, wD, z1, z2, q⟩ := h
    have hp1 : 1 ≤ 2 ^ es'.length := Nat.one_le_two_pow
    have ret : ∀ H1 r T, Same H H1 → At N r T → IsIte es' A B D T → Q (.int ((r : Nat) : Int)) H1 := fun H1 r T s1 h1 h2 => q H1 [] r T (FdS.of s1) (by rw [List.length_nil]; exact hp1) (by rw [List.append_nil]; exact (st.ext s1).more (Nat.le_add_right _ _)) (by rw [List.append_nil]; exact h1) h2
    have inat : ∀ {x y : Nat}, decide (V.int ((x : Nat) : Int) = V.int ((y : Nat) : Int)) = true → x = y := fun {x y} e => by
      have := V.int.inj (of_decide_eq_true e)
      omega
    refine ⟨_, (pss_cons (ps_if (PW.pt (pw_or (pt_cmpR op_eq (pv 1) (C8.pe_gc (by rfl) G.ALWAYS) (nomark _)) (pw_or1 (pt_cmpR op_eq (pv 2) (pv 3) (nomark _))))) (pss_one (ps_ret (pv 2))) pss_nil)
      (pss_cons (ps_if (pt_cmpR op_eq (pv 1) (C8.pe_gc (by rfl) G.NEVER) (nomark _)) (pss_one (ps_ret (pv 3))) pss_nil)
      (pss_cons (ps_set (i := 4) sc_Diagrams_combine.nd rfl (.inl rfl) (pe_tup (pa_cons (pv 1) (pa_cons (pv 2) (pa_cons (pv 3) pa_nil)))))
      (pss_cons (ps_if (pt_cmp (pc_dnotin (hu_of hr) (pv 4) (pe_fld (pv 0) rfl))) (pss_cons (ps_set (i := 5) sc_Diagrams_combine.nd rfl (.inl rfl) (pe_mt c_Diagrams_top hr (by first | decide | omega) (pv 0) (pa_cons (pv 4) pa_nil)))
      (pss_cons (ps_asg (pe_mt c_Diagrams_branches hr (by first | decide | omega) (pv 0) (pa_cons (pv 1) (pa_cons (pv 5) pa_nil))) (pg_tup (by rfl) (pgs_cons (pg_name (i := 6) sc_Diagrams_combine.nd rfl (.inl rfl)) (pgs_cons (pg_name (i := 7) sc_Diagrams_combine.nd rfl (.inl rfl)) pgs_nil))))
      (pss_cons (ps_asg (pe_mt c_Diagrams_branches hr (by first | decide | omega) (pv 0) (pa_cons (pv 2) (pa_cons (pv 5) pa_nil))) (pg_tup (by rfl) (pgs_cons (pg_name (i := 8) sc_Diagrams_combine.nd rfl (.inl rfl)) (pgs_cons (pg_name (i := 9) sc_Diagrams_combine.nd rfl (.inl rfl)) pgs_nil))))
      (pss_cons (ps_asg (pe_mt c_Diagrams_branches hr (by first | decide | omega) (pv 0) (pa_cons (pv 3) (pa_cons (pv 5) pa_nil))) (pg_tup (by rfl) (pgs_cons (pg_name (i := 10) sc_Diagrams_combine.nd rfl (.inl rfl)) (pgs_cons (pg_name (i := 11) sc_Diagrams_combine.nd rfl (.inl rfl)) pgs_nil))))
      (pss_one (ps_dput (hu_of hr) (pe_fld (pv 0) rfl) (pv 4) (pe_mt c_Diagrams_node hr (by first | decide | omega) (pv 0) (pa_cons (pv 5) (pa_cons (pe_mt c_Diagrams_combine hr (by first | decide | omega) (pv 0) (pa_cons (pv 6) (pa_cons (pv 8) (pa_cons (pv 10) pa_nil)))) (pa_cons (pe_mt c_Diagrams_combine hr (by first | decide | omega) (pv 0) (pa_cons (pv 7) (pa_cons (pv 9) (pa_cons (pv 11) pa_nil)))) pa_nil)))) rfl)))))) pss_nil)
      (pss_one (ps_ret (pe_dget (hu_of hr) (pe_fld (pv 0) rfl) (pv 4) (fun _ _ => rfl)))))))), ?_⟩
    refine ⟨_, rfl, rfl, _, rfl, ite2 (fun e => ?_) (fun e => ?_)⟩
    · obtain rfl : c = 1 := inat (y := 1) e
      have eA := hA.fn .t
      exact ⟨_, rfl, ret H a B (fun _ _ h => h) hB ⟨wB, fun r => by rw [eA]; exact (if_pos rfl).symm⟩⟩
    refine ⟨_, rfl, _, rfl, rfl, _, rfl, ite2 (fun e2 => ?_) (fun e2 => ?_)⟩
    · obtain rfl := inat e2
      have eB := hB.fn hD
      exact ⟨_, rfl, ret H a B (fun _ _ h => h) hB ⟨wB, fun r => by rw [← eB]; split <;> rfl⟩⟩
    refine ⟨_, rfl, rfl, _, rfl, ite2 (fun e3 => ?_) (fun e3 => ?_)⟩
    · obtain rfl : c = 0 := inat (y := 0) e3
      have eA := hA.fn .f
      exact ⟨_, rfl, ret H b D (fun _ _ h => h) hD ⟨wD, fun r => by rw [eA]; exact (if_neg Bool.false_ne_true).symm⟩⟩
    have hc2 : 2 ≤ c := by
      have g1 : c ≠ 1 := fun z => e (by subst z; exact decide_eq_true rfl)
      have g0 : c ≠ 0 := fun z => e3 (by subst z; exact decide_eq_true rfl)
      omega
    refine ⟨_, rfl, _, rfl, _, rfl, by show 3 ≤ sizeLine; decide, fun tp ntp => ?_⟩
    have s1 := same_upd ntp (o := .tup [.int ((c : Nat) : Int), .int ((a : Nat) : Int), .int ((b : Nat) : Int)])
    have et : (upd H tp (.tup [.int ((c : Nat) : Int), .int ((a : Nat) : Int), .int ((b : Nat) : Int)])) tp = some (.tup ((ky3 c a b).map kV)) := upd_same
    generalize upd H tp (.tup [.int ((c : Nat) : Int), .int ((a : Nat) : Int), .int ((b : Nat) : Int)]) = H1 at s1 et
    have st1 := st.ext s1
    obtain ⟨⟨dx, hp⟩, _, _, ⟨cvs, hm, hcl, hco⟩, _⟩ := id st1
    refine ⟨_, rfl, _, rfl, s.p, C, dx, _, _, rfl, hp, G.cl, G.nM, sf_comb s, s.m, _, rfl, DGet.t hm et, _, rfl, ?_⟩
    cases ev : valV cvs (ky3 c a b) with
    | some v =>
      obtain ⟨r, A', B', D', T, rfl, h1, h2, h3, h4, h5⟩ := hco _ _ _ _ ev
      have e1 := h1.fn hA
      have e2' := h2.fn hB
      have e3' := h3.fn hD
      subst e1 e2' e3'
      refine iteF ⟨_, rfl, s.p, C, dx, _, _, rfl, hp, G.cl, G.nM, sf_comb s, _, rfl, s.m, .int ((r : Nat) : Int), rfl, ?_, ?_⟩
      · have := DGet.t hm et
        rw [ev] at this
        exact this
      · refine ret H1 r T s1 h4 (ite_low (pre := pre) (by rw [← he]; exact st.es_nd) wA wB wD (by rw [← he]; exact h5))
    | none =>
      refine iteT ?_
      refine ⟨_, rfl, st1.go (by decide +kernel) (by decide +kernel) (by decide +kernel) ⟨_, rfl, ?_⟩⟩
      refine ⟨s, N, es, L, pre, es', tp, [(c, A), (a, B), (b, D)], rfl, st1, .of et, he, Nat.le_refl _, ?_, ⟨(c, A), List.mem_cons_self, hc2⟩, fun H2 pre2 x es2 s2 ee hw => ?_⟩
      · intro y hy
        simp only [List.mem_cons, List.not_mem_nil, or_false] at hy
        rcases hy with rfl | rfl | rfl
        · exact ⟨hA, wA⟩
        · exact ⟨hB, wB⟩
        · exact ⟨hD, wD⟩
      have st2 := st1.ext s2
      have vA := hw (c, A) (by simp)
      have vB := hw (a, B) (by simp)
      have vD := hw (b, D) (by simp)
      have hx : x ∉ es2 := by
        have := st.es_nd
        rw [he, ee] at this
        exact (List.nodup_cons.mp (List.nodup_append.mp (List.nodup_append.mp this).2.1).2.1).1
      refine ⟨_, rfl, st2.go (by decide +kernel) (by decide +kernel) (by decide +kernel) ⟨_, rfl, _, rfl, ?_⟩⟩
      refine ⟨s, N, es, L, x, es2, c, A, rfl, st2, hA, vA, hx, fun H3 q3 w1 t1 s3 e3 hw1 ht1 => ?_⟩
      refine ⟨q3, _, rfl, .of e3, rfl, _, _, rfl, _, _, rfl, rfl, ?_⟩
      have st3 := st2.ext s3
      refine ⟨_, rfl, st3.go (by decide +kernel) (by decide +kernel) (by decide +kernel) ⟨_, rfl, _, rfl, ?_⟩⟩
      refine ⟨s, N, es, L, x, es2, a, B, rfl, st3, hB, vB, hx, fun H4 q4 w2 t2 s4 e4 hw2 ht2 => ?_⟩
      refine ⟨q4, _, rfl, .of e4, rfl, _, _, rfl, _, _, rfl, rfl, ?_⟩
      have st4 := st3.ext s4
      refine ⟨_, rfl, st4.go (by decide +kernel) (by decide +kernel) (by decide +kernel) ⟨_, rfl, _, rfl, ?_⟩⟩
      refine ⟨s, N, es, L, x, es2, b, D, rfl, st4, hD, vD, hx, fun H5 q5 w3 t3 s5 e5 hw3 ht3 => ?_⟩
      refine ⟨q5, _, rfl, .of e5, rfl, _, _, rfl, _, _, rfl, rfl, ?_⟩
      have st5 := st4.ext s5
      have s25 := ((s2.trans s3).trans s4).trans s5
      have et5 := s25 _ _ et
      have lee : es'.length = pre2.length + (es2.length + 1) := by rw [ee, List.length_append, List.length_cons]
      have hpow : 2 ^ es2.length + 2 ^ es2.length ≤ 2 ^ es'.length := by
        have : 2 ^ (es2.length + 1) ≤ 2 ^ es'.length := Nat.pow_le_pow_right (by decide) (by omega)
        rw [Nat.pow_succ] at this
        omega
      have hp2 : 1 ≤ 2 ^ es2.length := Nat.one_le_two_pow
      have he2 : es = (pre ++ pre2 ++ [x]) ++ es2 := by rw [he, ee]; simp
      refine ⟨_, rfl, st5.go (by decide +kernel) (by decide +kernel) (by decide +kernel) ⟨_, rfl, ?_⟩⟩
      refine ⟨_, rfl, st5.go (by decide +kernel) (by decide +kernel) (by decide +kernel) ⟨_, rfl, _, rfl, _, rfl, ?_⟩⟩
      refine ⟨s, N, es, L, pre ++ pre2 ++ [x], es2, w1, w2, w3, A.cw x, B.cw x, D.cw x, rfl, st5, he2, by omega, hw1, hw2, hw3, (vA.cw hx).1, (vB.cw hx).1, (vD.cw hx).1, by omega, by omega, fun H6 M1 r1 T1 f6 l1 st6 a1 i1 => ?_⟩
      refine ⟨_, rfl, st6.go (by decide +kernel) (by decide +kernel) (by decide +kernel) ⟨_, rfl, _, rfl, _, rfl, ?_⟩⟩
      refine ⟨s, N ++ M1, es, _, pre ++ pre2 ++ [x], es2, t1, t2, t3, A.ct x, B.ct x, D.ct x, rfl, st6, he2, by omega, ht1.mono, ht2.mono, ht3.mono, (vA.ct hx).1, (vB.ct hx).1, (vD.ct hx).1, by rw [List.length_append]; omega, by omega, fun H7 M2 r2 T2 f7 l2 st7 a2 i2 => ?_⟩
      refine ⟨s, (N ++ M1) ++ M2, es, _, x, r1, r2, T1, T2, rfl, st7, a1.mono, a2, by rw [List.length_append, List.length_append]; omega, fun H8 M3 r f8 l3 st8 a3 => ?_⟩
      have f58 := (f6.trans f7).trans f8
      have et8 := st5.tup f58 _ _ (.inl ⟨_, rfl⟩) et5
      have eN : N ++ M1 ++ M2 ++ M3 = N ++ (M1 ++ M2 ++ M3) := by simp only [List.append_assoc]
      rw [eN] at st8 a3
      have hI : IsIte es' A B D (mkB x T1 T2) := by
        rw [ee]
        exact (ite_step hx vA vB vD i1 i2).skips pre2
      obtain ⟨cv8, hm8, hl8, st9, f9⟩ := st8.put (hA.mono (M := M1 ++ M2 ++ M3)) (hB.mono (M := M1 ++ M2 ++ M3)) (hD.mono (M := M1 ++ M2 ++ M3)) a3 (by rw [he]; exact hI.skips pre)
      obtain ⟨dx8, hp8⟩ := st8.ins
      refine ⟨_, rfl, s.p, C, dx8, _, _, rfl, hp8, G.cl, G.nM, sf_comb s, _, rfl, s.m, _, rfl, DPut.t hm8 et8 (by omega), ?_⟩
      obtain ⟨dx9, hp9⟩ := st9.ins
      have et9 := st8.tup f9 _ _ (.inl ⟨_, rfl⟩) et8
      have em9 : (upd H8 s.m (.dT (putK cv8 (ky3 c a b) (.int ((r : Nat) : Int))))) s.m = some (.dT (putK cv8 (ky3 c a b) (.int ((r : Nat) : Int)))) := upd_same
      refine ⟨_, rfl, s.p, C, dx9, _, _, rfl, hp9, G.cl, G.nM, sf_comb s, _, rfl, s.m, .int ((r : Nat) : Int), rfl, ?_, ?_⟩
      · have := DGet.t em9 et9
        rw [valV_put, if_pos rfl] at this
        exact this
      · refine q _ (M1 ++ M2 ++ M3) r _ (((FdS.of (s1.trans s25)).trans f58).trans f9) ?_ (st9.more ?_) a3 hI
        · rw [List.length_append, List.length_append]
          omega
        · omega
end

/-! ### the operations, and what is said of a condition -/
theorem inV_int (e : Int) (ps : List Int) : inV (.int e) (ps.map V.int) = decide (e ∈ ps) := by
  unfold inV
  rw [List.any_map]
  by_cases h : e ∈ ps
  · rw [decide_eq_true h, List.any_eq_true]
    exact ⟨e, h, beq_self_eq_true e⟩
  · rw [decide_eq_false h]
    cases h2 : ps.any ((fun y => eqV y (.int e)) ∘ V.int) with
    | false => rfl
    | true =>
      exfalso
      obtain ⟨y, hy, hb⟩ := List.any_eq_true.mp h2
      have : y = e := eq_of_beq hb
      exact h (this ▸ hy)
theorem ints_flat (ps : List Int) : (ps.map V.int).all flatV = true := by
  rw [List.all_map]
  exact List.all_eq_true.mpr fun _ _ => rfl
def Bd.ht : Bd → Nat
  | .lf _ => 0
  | .nd _ w t => max w.ht t.ht + 1
def sp_there (C : Addr) (K : PySem.W.Frag) : Sp := fun vs H Q _ => ∃ s N es L x, vs = [.ref s.p, .int x] ∧ Sto C K H s N es L ∧ N.length + 1 < sizeLine ∧
  ∀ H' M r, FdS s H H' → M.length ≤ 1 → Sto C K H' s (N ++ M) es L → At (N ++ M) r (.nd x (.lf false) (.lf true)) → Q (.int ((r : Nat) : Int)) H'
def opB (es : List Int) : Nat := 2 * 2 ^ es.length
def sp_op2 (C : Addr) (K : PySem.W.Frag) (n : Nat) (f : Bool → Bool → Bool) : Sp := fun vs H Q _ => ∃ s N es L a b A B, vs = [.ref s.p, .int ((a : Nat) : Int), .int ((b : Nat) : Int)] ∧ Sto C K H s N es L ∧ es.length < n ∧ At N a A ∧ At N b B ∧ Wf es A ∧ Wf es B ∧ N.length + opB es < sizeLine ∧ L + opB es < sizeLine ∧
  ∀ H' M r T, FdS s H H' → M.length ≤ opB es → Sto C K H' s (N ++ M) es (L + opB es) → At (N ++ M) r T → Wf es T → (∀ ρ, T.ev ρ = f (A.ev ρ) (B.ev ρ)) → Q (.int ((r : Nat) : Int)) H'
def sp_neg (C : Addr) (K : PySem.W.Frag) (n : Nat) : Sp := fun vs H Q _ => ∃ s N es L a A, vs = [.ref s.p, .int ((a : Nat) : Int)] ∧ Sto C K H s N es L ∧ es.length < n ∧ At N a A ∧ Wf es A ∧ N.length + 2 ^ es.length < sizeLine ∧ L + 2 ^ es.length < sizeLine ∧
  ∀ H' M r T, FdS s H H' → M.length ≤ 2 ^ es.length → Sto C K H' s (N ++ M) es (L + 2 ^ es.length) → At (N ++ M) r T → Wf es T → (∀ ρ, T.ev ρ = !(A.ev ρ)) → Q (.int ((r : Nat) : Int)) H'
def sp_holds (C : Addr) (K : PySem.W.Frag) : Sp := fun vs H Q _ => ∃ s N es L c A a, ∃ ps : List Int, vs = [.ref s.p, .int ((c : Nat) : Int), .ref a] ∧ Sto C K H s N es L ∧ At N c A ∧ SqL K H a (ps.map V.int) ∧ Q (.bl (A.ev fun e => decide (e ∈ ps))) H
def sp_dinit (C : Addr) (K : PySem.W.Frag) : Sp := fun vs H Q _ => ∃ p dx, vs = [.ref p] ∧ H p = some (.ins C dx []) ∧ ∀ H' s, s.p = p → Fd p H H' → H s.k = none → H s.u = none → H s.m = none → (∀ es : List Int, es.Pairwise (· < ·) → Sto C K H' s [] es 0) → Q .non H'
theorem dk1 : ¬ (("kept" : Str) = "numbers") := by decide +kernel
theorem dk2 : ¬ (("kept" : Str) = "combined") := by decide +kernel
theorem dk3 : ¬ (("numbers" : Str) = "combined") := by decide +kernel
theorem sf_mk (s : SA) : putF "combined" (.ref s.m) (putF "numbers" (.ref s.u) (putF "kept" (.ref s.k) [])) = sfl s := by
  unfold sfl
  simp only [putF, if_neg dk1, if_neg dk2, if_neg dk3]
section
variable {P : Program} {w : World} {K : PySem.W.Frag} {mg : Str → Option Value} {base : Heap}
theorem bu_ne {C : Addr} {sa : SA} {N : Nds} {es : List Int} {L : Nat} {H : Hp} {B : Addr} (st : Sto C K H sa N es L) (nB : H B = none) : B ≠ sa.k ∧ B ≠ sa.u ∧ B ≠ sa.m := by
  obtain ⟨_, ⟨_, g1, _⟩, ⟨_, g2, _⟩, ⟨_, g3, _⟩, _⟩ := st
  exact ⟨(ne_of_none g1 nB).symm, (ne_of_none g2 nB).symm, (ne_of_none g3 nB).symm⟩
theorem cl_comb {f C : Addr} {fd : FuncData} (F : Fun K "combine" "Diagrams.combine" s_Diagrams_combine f fd) (M : Mg mg) (G : DgC K C mg) (mt : Meth K C "combine" f) (bi : Binds K fd ["self", "condition", "first", "second"] []) (c_Diagrams_node : ClM P w K mg base 1 C "node" (sp_node C K)) (c_Diagrams_top : ClM P w K mg base 2 C "top" (sp_top C K)) (c_Diagrams_branches : ClM P w K mg base 2 C "branches" (sp_bra C K)) :
    ∀ n, ClM P w K mg base (n + 2) C "combine" (sp_comb C K n)
  | 0 => FnOk.clm (P := P) (w := w) (base := base) (mg := mg) (F.ok sc_Diagrams_combine (fun vs H Q E h => by obtain ⟨s, N, es, L, pre, es', c, a, b, A, B, D, rfl, _⟩ := h; rfl) (fun cdv A outer s H vs Q E hr h => by obtain ⟨s, N, es, L, pre, es', c, a, b, A, B, D, rfl, st, he, hn, _⟩ := h; omega)) mt G.cl bi
  | n + 1 => FnOk.clm (ok_comb n F M G c_Diagrams_node c_Diagrams_top c_Diagrams_branches (cl_comb F M G mt bi c_Diagrams_node c_Diagrams_top c_Diagrams_branches n)) mt G.cl bi
theorem ok_there {f C : Addr} {fd : FuncData} (F : Fun K "there" "Diagrams.there" s_Diagrams_there f fd) (M : Mg mg) (G : DgC K C mg) (c_Diagrams_node : ClM P w K mg base 1 C "node" (sp_node C K)) : FnOk P w K mg base CX0 2 f fd ["self", "entry"] (sp_there C K) := by
  refine F.ok sc_Diagrams_there (fun vs H Q E h => ?_) (fun cdv A outer s H vs Q E hr h => ?_)
  · obtain ⟨s, N, es, L, x, rfl, _⟩ := h
    rfl
  · obtain ⟨s, N, es, L, x, rfl, st, hz, q⟩ := h
    refine ⟨_, (pss_one (ps_ret (pe_mt c_Diagrams_node hr (by first | decide | omega) (pv 0) (pa_cons (pv 1) (pa_cons (C8.pe_gc (by rfl) G.NEVER) (pa_cons (C8.pe_gc (by rfl) G.ALWAYS) pa_nil)))))), ?_⟩
    refine ⟨_, rfl, st.go (by decide +kernel) (by decide +kernel) (by decide +kernel) ⟨_, rfl, ?_⟩⟩
    exact ⟨s, N, es, L, x, 0, 1, _, _, rfl, st, .f, .t, hz, fun H' M r f l st' a => q H' M r f l st' a⟩
theorem opB_ge (es : List Int) : 2 ^ es.length + 2 ^ es.length = opB es := by unfold opB; omega
theorem ok_conj {n : Nat} {f C : Addr} {fd : FuncData} (F : Fun K "conjunction" "Diagrams.conjunction" s_Diagrams_conjunction f fd) (M : Mg mg) (G : DgC K C mg) (c_Diagrams_combine : ClM P w K mg base (n + 2) C "combine" (sp_comb C K n)) : FnOk P w K mg base CX0 (n + 3) f fd ["self", "first", "second"] (sp_op2 C K n and) := by
  refine F.ok sc_Diagrams_conjunction (fun vs H Q E h => ?_) (fun cdv A outer s H vs Q E hr h => ?_)
  · obtain ⟨s, N, es, L, a, b, A, B, rfl, _⟩ := h
    rfl
  · obtain ⟨s, N, es, L, a, b, A, B, rfl, st, hn, hA, hB, wA, wB, z1, z2, q⟩ := h
    have ob := opB_ge es
    refine ⟨_, (pss_one (ps_ret (pe_mt c_Diagrams_combine hr (by first | decide | omega) (pv 0) (pa_cons (pv 1) (pa_cons (pv 2) (pa_cons (C8.pe_gc (by rfl) G.NEVER) pa_nil)))))), ?_⟩
    refine ⟨_, rfl, st.go (by decide +kernel) (by decide +kernel) (by decide +kernel) ⟨_, rfl, _, rfl, ?_⟩⟩
    refine ⟨s, N, es, L, [], es, a, b, 0, A, B, _, rfl, st, rfl, hn, hA, hB, .f, wA, wB, .lf, by omega, by omega, fun H' M r T f l st' a i => q H' M r T f (by omega) (st'.more (by omega)) a i.1 fun ρ => ?_⟩
    rw [i.2]
    cases A.ev ρ <;> rfl
theorem ok_disj {n : Nat} {f C : Addr} {fd : FuncData} (F : Fun K "disjunction" "Diagrams.disjunction" s_Diagrams_disjunction f fd) (M : Mg mg) (G : DgC K C mg) (c_Diagrams_combine : ClM P w K mg base (n + 2) C "combine" (sp_comb C K n)) : FnOk P w K mg base CX0 (n + 3) f fd ["self", "first", "second"] (sp_op2 C K n or) := by
  refine F.ok sc_Diagrams_disjunction (fun vs H Q E h => ?_) (fun cdv A outer s H vs Q E hr h => ?_)
  · obtain ⟨s, N, es, L, a, b, A, B, rfl, _⟩ := h
    rfl
  · obtain ⟨s, N, es, L, a, b, A, B, rfl, st, hn, hA, hB, wA, wB, z1, z2, q⟩ := h
    have ob := opB_ge es
    refine ⟨_, (pss_one (ps_ret (pe_mt c_Diagrams_combine hr (by first | decide | omega) (pv 0) (pa_cons (pv 1) (pa_cons (C8.pe_gc (by rfl) G.ALWAYS) (pa_cons (pv 2) pa_nil)))))), ?_⟩
    refine ⟨_, rfl, st.go (by decide +kernel) (by decide +kernel) (by decide +kernel) ⟨_, rfl, _, rfl, ?_⟩⟩
    refine ⟨s, N, es, L, [], es, a, 1, b, A, _, B, rfl, st, rfl, hn, hA, .t, hB, wA, .lf, wB, by omega, by omega, fun H' M r T f l st' a i => q H' M r T f (by omega) (st'.more (by omega)) a i.1 fun ρ => ?_⟩
    rw [i.2]
    cases A.ev ρ <;> rfl
theorem ok_neg {n : Nat} {f C : Addr} {fd : FuncData} (F : Fun K "negation" "Diagrams.negation" s_Diagrams_negation f fd) (M : Mg mg) (G : DgC K C mg) (c_Diagrams_combine : ClM P w K mg base (n + 2) C "combine" (sp_comb C K n)) : FnOk P w K mg base CX0 (n + 3) f fd ["self", "condition"] (sp_neg C K n) := by
  refine F.ok sc_Diagrams_negation (fun vs H Q E h => ?_) (fun cdv A outer s H vs Q E hr h => ?_)
  · obtain ⟨s, N, es, L, a, A, rfl, _⟩ := h
    rfl
  · obtain ⟨s, N, es, L, a, A, rfl, st, hn, hA, wA, z1, z2, q⟩ := h
    refine ⟨_, (pss_one (ps_ret (pe_mt c_Diagrams_combine hr (by first | decide | omega) (pv 0) (pa_cons (pv 1) (pa_cons (C8.pe_gc (by rfl) G.NEVER) (pa_cons (C8.pe_gc (by rfl) G.ALWAYS) pa_nil)))))), ?_⟩
    refine ⟨_, rfl, st.go (by decide +kernel) (by decide +kernel) (by decide +kernel) ⟨_, rfl, ?_⟩⟩
    refine ⟨s, N, es, L, [], es, a, 0, 1, A, _, _, rfl, st, rfl, hn, hA, .f, .t, wA, .lf, .lf, by omega, by omega, fun H' M r T f l st' a i => q H' M r T f (by omega) (st'.more (by omega)) a i.1 fun ρ => ?_⟩
    rw [i.2]
    cases A.ev ρ <;> rfl
theorem ok_diff {n : Nat} {f C : Addr} {fd : FuncData} (F : Fun K "differs" "Diagrams.differs" s_Diagrams_differs f fd) (M : Mg mg) (G : DgC K C mg) (c_Diagrams_combine : ClM P w K mg base (n + 2) C "combine" (sp_comb C K n)) (c_Diagrams_negation : ClM P w K mg base (n + 3) C "negation" (sp_neg C K n)) : FnOk P w K mg base CX0 (n + 4) f fd ["self", "first", "second"] (sp_op2 C K n bne) := by
  refine F.ok sc_Diagrams_differs (fun vs H Q E h => ?_) (fun cdv A outer s H vs Q E hr h => ?_)
  · obtain ⟨s, N, es, L, a, b, A, B, rfl, _⟩ := h
    rfl
  · obtain ⟨s, N, es, L, a, b, A, B, rfl, st, hn, hA, hB, wA, wB, z1, z2, q⟩ := h
    have ob := opB_ge es
    refine ⟨_, (pss_one (ps_ret (pe_mt c_Diagrams_combine hr (by first | decide | omega) (pv 0) (pa_cons (pv 1) (pa_cons (pe_mt c_Diagrams_negation hr (by first | decide | omega) (pv 0) (pa_cons (pv 2) pa_nil)) (pa_cons (pv 2) pa_nil)))))), ?_⟩
    refine ⟨_, rfl, st.go (by decide +kernel) (by decide +kernel) (by decide +kernel) ⟨_, rfl, ?_⟩⟩
    refine ⟨_, rfl, st.go (by decide +kernel) (by decide +kernel) (by decide +kernel) ⟨_, rfl, ?_⟩⟩
    refine ⟨s, N, es, L, b, B, rfl, st, hn, hB, wB, by omega, by omega, fun H1 M1 r1 T1 f1 l1 st1 a1 w1 v1 => ?_⟩
    refine ⟨_, rfl, ?_⟩
    refine ⟨s, N ++ M1, es, _, [], es, a, r1, b, A, T1, B, rfl, st1, rfl, hn, hA.mono, a1, hB.mono, wA, w1, wB, by rw [List.length_append]; omega, by omega, fun H2 M2 r2 T2 f2 l2 st2 a2 i2 => ?_⟩
    rw [List.append_assoc] at st2 a2
    refine q H2 (M1 ++ M2) r2 T2 (f1.trans f2) (by rw [List.length_append]; omega) (st2.more (by omega)) a2 i2.1 fun ρ => ?_
    rw [i2.2, v1]
    cases A.ev ρ <;> cases B.ev ρ <;> rfl
theorem ok_dinit {f C : Addr} {fd : FuncData} (F : Fun K "__init__" "Diagrams.__init__" s_Diagrams___init__ f fd) (G : DgC K C mg) : FnOk P w K mg base CX0 1 f fd ["self"] (sp_dinit C K) := by
  refine F.ok sc_Diagrams___init__ (fun vs H Q E h => ?_) (fun cdv A outer s H vs Q E hr h => ?_)
  · obtain ⟨p, dx, rfl, _⟩ := h
    rfl
  · obtain ⟨p, dx, rfl, hp, q⟩ := h
    refine ⟨_, (pss_cons (ps_fld (pv 0) (pe_lst pa_nil) rfl)
      (pss_cons (ps_fld (pv 0) pe_dnewT rfl)
      (pss_one (ps_fld (pv 0) pe_dnewT rfl)))), ?_⟩
    refine ⟨by show 0 ≤ sizeLine; decide, fun k nk => ?_⟩
    have npk : p ≠ k := ne_of_none hp nk
    have e1 : (upd H k (.lst [])) p = some (.ins C dx []) := by rw [upd_ne npk]; exact hp
    refine ⟨_, rfl, p, C, dx, [], rfl, e1, G.cl, G.nK, by show 0 < 1000; decide, ?_⟩
    have f1 : Fd p H (upd (upd H k (.lst [])) p (.ins C dx (putF "kept" (.ref k) []))) := Fd.trans (Fd.new nk) Fd.at
    have ek1 : (upd (upd H k (.lst [])) p (.ins C dx (putF "kept" (.ref k) []))) k = some (.lst []) := by rw [upd_ne npk.symm, upd_same]
    have ep1 : (upd (upd H k (.lst [])) p (.ins C dx (putF "kept" (.ref k) []))) p = some (.ins C dx (putF "kept" (.ref k) [])) := upd_same
    generalize upd (upd H k (.lst [])) p (.ins C dx (putF "kept" (.ref k) [])) = H1 at f1 ek1 ep1
    intro u nu
    have npu : p ≠ u := ne_of_none ep1 nu
    have hu0 : H u = none := by
      cases e : H u with
      | none => rfl
      | some o => exact absurd (f1 u o npu.symm e) (by rw [nu]; exact fun z => nomatch z)
    have nku : k ≠ u := ne_of_none ek1 nu
    have e2 : (upd H1 u (.dT [])) p = some (.ins C dx (putF "kept" (.ref k) [])) := by rw [upd_ne npu]; exact ep1
    refine ⟨_, rfl, p, C, dx, _, rfl, e2, G.cl, G.nN, by show 1 < 1000; decide, ?_⟩
    have f2 : Fd p H1 (upd (upd H1 u (.dT [])) p (.ins C dx (putF "numbers" (.ref u) (putF "kept" (.ref k) [])))) := Fd.trans (Fd.new nu) Fd.at
    have eu2 : (upd (upd H1 u (.dT [])) p (.ins C dx (putF "numbers" (.ref u) (putF "kept" (.ref k) [])))) u = some (.dT []) := by rw [upd_ne npu.symm, upd_same]
    have ep2 : (upd (upd H1 u (.dT [])) p (.ins C dx (putF "numbers" (.ref u) (putF "kept" (.ref k) [])))) p = some (.ins C dx (putF "numbers" (.ref u) (putF "kept" (.ref k) []))) := upd_same
    generalize upd (upd H1 u (.dT [])) p (.ins C dx (putF "numbers" (.ref u) (putF "kept" (.ref k) []))) = H2 at f2 eu2 ep2
    intro m nm
    have npm : p ≠ m := ne_of_none ep2 nm
    have f12 := f1.trans f2
    have hm0 : H m = none := by
      cases e : H m with
      | none => rfl
      | some o => exact absurd (f12 m o npm.symm e) (by rw [nm]; exact fun z => nomatch z)
    have num : u ≠ m := ne_of_none eu2 nm
    have ek2 := f2 k _ npk.symm ek1
    have e3 : (upd H2 m (.dT [])) p = some (.ins C dx (putF "numbers" (.ref u) (putF "kept" (.ref k) []))) := by rw [upd_ne npm]; exact ep2
    refine ⟨_, rfl, p, C, dx, _, rfl, e3, G.cl, G.nM, by show 2 < 1000; decide, ?_⟩
    have f3 : Fd p H2 (upd (upd H2 m (.dT [])) p (.ins C dx (putF "combined" (.ref m) (putF "numbers" (.ref u) (putF "kept" (.ref k) []))))) := Fd.trans (Fd.new nm) Fd.at
    have em3 : (upd (upd H2 m (.dT [])) p (.ins C dx (putF "combined" (.ref m) (putF "numbers" (.ref u) (putF "kept" (.ref k) []))))) m = some (.dT []) := by rw [upd_ne npm.symm, upd_same]
    refine q _ ⟨p, k, u, m⟩ rfl (f12.trans f3) nk hu0 hm0 fun es hes => ⟨⟨dx, ?_⟩, ⟨[], f3 _ _ npk.symm ek2, .nil⟩, ⟨[], f3 _ _ npu.symm eu2, Nat.le_refl _, ⟨fun _ _ _ _ => List.not_mem_nil, fun _ _ _ _ h => nomatch (show none = some _ from h)⟩⟩, ⟨[], em3, Nat.le_refl _, fun _ _ _ _ h => nomatch (show none = some _ from h)⟩, List.nodup_nil, num, hes⟩
    rw [upd_same]
    exact congrArg (fun z => some (HO.ins C dx z)) (sf_mk ⟨p, k, u, m⟩)
end

theorem wne (a b : String) (h : (Str.ofString a == Str.ofString b) = false) : decide (V.str (Str.ofString a) = V.str (Str.ofString b)) = false := by
  refine decide_eq_false fun e => ?_
  rw [V.str.inj e] at h
  have : (Str.ofString b == Str.ofString b) = true := beq_self_eq_true _
  rw [this] at h
  cases h
theorem weq (a : Str) : decide (V.str a = V.str a) = true := decide_eq_true rfl
section
variable {K : PySem.W.Frag}
/-- a tuple's word and the rest -/
theorem dp_tup {H : Hp} {p : V} {ds : List PyData} (h : Dp K H p (.tuple ds)) : ∃ a xs, p = .ref a ∧ SqT K H a xs ∧ DpAll K H xs ds := by
  cases h with
  | tup hs ha => exact ⟨_, _, rfl, hs, ha⟩
theorem dp_two {H : Hp} {xs : List V} {s : Str} {d : PyData} (h : DpAll K H xs [.str s, d]) : ∃ v, xs = [.str s, v] ∧ Dp K H v d := by
  cases h with
  | cons h1 h2 =>
    cases h1
    cases h2 with
    | cons h3 h4 =>
      cases h4
      exact ⟨_, rfl, h3⟩
theorem dp_three {H : Hp} {xs : List V} {s : Str} {d e : PyData} (h : DpAll K H xs [.str s, d, e]) : ∃ v u, xs = [.str s, v, u] ∧ Dp K H v d ∧ Dp K H u e := by
  cases h with
  | cons h1 h2 =>
    cases h1
    cases h2 with
    | cons h3 h4 =>
      cases h4 with
      | cons h5 h6 =>
        cases h6
        exact ⟨_, _, rfl, h3, h5⟩
end

/-! ### the laws' input rows and conditions -/
inductive Bo where
  | and | or | df
def Bo.s : Bo → String
  | .and => "and" | .or => "or" | .df => "differ"
def Bo.f : Bo → Bool → Bool → Bool
  | .and => Bool.and | .or => Bool.or | .df => bne
inductive Tr where
  | con (b : Bool)
  | ther (e : Int)
  | nt (a : Tr)
  | bin (o : Bo) (a b : Tr)
def Tr.d : Tr → PyData
  | .con b => .tuple [.str "constant", .int (if b = true then 1 else 0)]
  | .ther e => .tuple [.str "there", .int e]
  | .nt a => .tuple [.str "not", a.d]
  | .bin o a b => .tuple [.str (Str.ofString o.s), a.d, b.d]
def Tr.ht : Tr → Nat
  | .nt a => a.ht + 1
  | .bin _ a b => max a.ht b.ht + 1
  | _ => 0
def Tr.sz : Tr → Nat
  | .nt a => a.sz + 1
  | .bin _ a b => a.sz + b.sz + 1
  | _ => 1
def Tr.ok (es : List Int) : Tr → Prop
  | .con _ => True
  | .ther e => e ∈ es
  | .nt a => a.ok es
  | .bin _ a b => a.ok es ∧ b.ok es
def Tr.ev : Tr → (Int → Bool) → Bool
  | .con b, _ => b
  | .ther e, r => r e
  | .nt a, r => !(a.ev r)
  | .bin o a b, r => o.f (a.ev r) (b.ev r)
theorem tr_only : ∀ t : Tr, tupOnly t.d = true
  | .con _ => rfl
  | .ther _ => rfl
  | .nt a => by simp [Tr.d, tupOnly, tupOnlys, tr_only a]
  | .bin _ a b => by simp [Tr.d, tupOnly, tupOnlys, tr_only a, tr_only b]
theorem tr_sz : ∀ t : Tr, t.sz + 1 ≤ 2 ^ (t.ht + 1)
  | .con _ => Nat.le_refl _
  | .ther _ => Nat.le_refl _
  | .nt a => by
    have := tr_sz a
    show a.sz + 1 + 1 ≤ 2 ^ (a.ht + 1 + 1)
    rw [Nat.pow_succ]
    have : 1 ≤ 2 ^ (a.ht + 1) := Nat.one_le_two_pow
    omega
  | .bin _ a b => by
    have h1 := Nat.le_trans (tr_sz a) (Nat.pow_le_pow_right (by decide) (show a.ht + 1 ≤ max a.ht b.ht + 1 by omega))
    have h2 := Nat.le_trans (tr_sz b) (Nat.pow_le_pow_right (by decide) (show b.ht + 1 ≤ max a.ht b.ht + 1 by omega))
    show a.sz + b.sz + 1 + 1 ≤ 2 ^ (max a.ht b.ht + 1 + 1)
    rw [Nat.pow_succ]
    omega
/-- it goes by the input rows of the list alone -/
theorem tr_agree {es : List Int} : ∀ {t : Tr} {r q : Int → Bool}, t.ok es → (∀ e ∈ es, r e = q e) → t.ev r = t.ev q
  | .con _, _, _, _, _ => rfl
  | .ther e, _, _, h, g => g e h
  | .nt a, r, q, h, g => congrArg not (tr_agree (t := a) h g)
  | .bin o a b, r, q, h, g => by
    show o.f _ _ = o.f _ _
    rw [tr_agree (t := a) h.1 g, tr_agree (t := b) h.2 g]
theorem wf_agree {es : List Int} {a : Bd} (h : Wf es a) : ∀ {r q : Int → Bool}, (∀ e ∈ es, r e = q e) → a.ev r = a.ev q := by
  induction h with
  | lf => intros; rfl
  | @here x es w t _ _ _ iw it =>
    intro r q g
    have gx := g x List.mem_cons_self
    have g' := fun e he => g e (List.mem_cons_of_mem _ he)
    show (if r x = true then t.ev r else w.ev r) = if q x = true then t.ev q else w.ev q
    rw [gx, iw g', it g']
  | skip _ ih =>
    intro r q g
    exact ih fun e he => g e (List.mem_cons_of_mem _ he)
/-- the input rows: a few, ascending -/
def EnA (H : Hp) (a d c : Addr) (es : List Int) (most : Nat) : Prop := a ≠ d ∧ a ≠ c ∧ H a = some (.lst (es.map V.int)) ∧ es.Pairwise (· < ·) ∧ 1 ≤ es.length ∧ es.length ≤ most ∧ ∀ e ∈ es, 0 ≤ e ∧ e < 1000
theorem EnA.fd {H H' : Hp} {a d c : Addr} {es : List Int} {most : Nat} (f : Fd d H H') (h : EnA H a d c es most) : EnA H' a d c es most := ⟨h.1, h.2.1, f _ _ h.1 h.2.2.1, h.2.2.2⟩
def sp_ents (most : Nat) : Sp := fun vs H Q _ => ∃ (d c : Addr), vs = [.ref d, .int (most : Nat)] ∧ 1 ≤ most ∧ most ≤ 6 ∧ Dr H d c ∧ ∀ H' a es, Fd d H H' → Dr H' d c → H a = none → EnA H' a d c es most → Q (.ref a) H'
def sp_ltr (K : PySem.W.Frag) (n : Nat) : Sp := fun vs H Q _ => ∃ (d c a : Addr) (es : List Int) (most m : Nat), vs = [.ref d, .ref a, .int (m : Nat)] ∧ m < n ∧ Dr H d c ∧ EnA H a d c es most ∧ most ≤ 8 ∧ ∀ H' p (t : Tr), Fd d H H' → Dr H' d c → t.ok es → t.ht ≤ m → Dp K H' p t.d → Q p H'
section
variable {P : Program} {w : World} {K : PySem.W.Frag} {mg : Str → Option Value} {base : Heap}
theorem ok_ents {f : Addr} {fd : FuncData} (most : Nat) (F : Fun K "_law_entries" "_law_entries" s__law_entries f fd) (M : Mg mg) (c__law_next : Cl P w K mg base 1 "_law_next" sp_next) : FnOk P w K mg base CX0 2 f fd ["draw", "most"] (sp_ents most) := by
  refine F.ok sc__law_entries (fun vs H Q E h => ?_) (fun cdv A outer s H vs Q E hr h => ?_)
  · obtain ⟨d, c, rfl, _⟩ := h
    rfl
  · obtain ⟨d, c, rfl, hm1, hm2, dr, q⟩ := h
    refine ⟨_, (pss_cons (ps_set (i := 2) sc__law_entries.nd rfl (.inl rfl) (pe_lst pa_nil))
      (pss_cons (ps_set (i := 3) sc__law_entries.nd rfl (.inl rfl) (pe_u c__law_next hr (by first | decide | omega) (by rfl) (pa_cons (pv 0) (pa_cons pe_int pa_nil))))
      (pss_cons (ps_for PassesOwn.never rfl (pi_range1 (by rfl) M.range (pa_cons (pe_op op_add pe_int (pe_u c__law_next hr (by first | decide | omega) (by rfl) (pa_cons (pv 0) (pa_cons (pv 1) pa_nil)))) pa_nil)) (pg_name (i := 4) sc__law_entries.nd rfl (.inl rfl)) (pss_cons (ps_expr (pe_bmK K PySem.F.plainAttrs_list PySem.F.slot_list_append PySem.F.type_list_append mt_append (pv 2) (pa_cons (pv 3) pa_nil)))
      (pss_one (ps_set (i := 3) sc__law_entries.nd rfl (.inl rfl) (pe_op op_add (pe_op op_add (pv 3) pe_int) (pe_op op_mul (pe_u c__law_next hr (by first | decide | omega) (by rfl) (pa_cons (pv 0) (pa_cons pe_int pa_nil))) (pe_u c__law_next hr (by first | decide | omega) (by rfl) (pa_cons (pv 0) (pa_cons pe_int pa_nil)))))))))
      (pss_one (ps_ret (pv 2)))))), ?_⟩
    refine ⟨by show 0 ≤ sizeLine; decide, fun a na => ?_⟩
    have nad := dr.nd na
    have nac := dr.nc na
    have dr1 := dr.ext (same_upd na (o := .lst []))
    refine ⟨_, rfl, d, c, 3, rfl, dr1, by decide, by decide, fun H2 r f2 _ dr2 r0 r1 => ?_⟩
    refine ⟨_, rfl, _, rfl, d, c, (most : Nat), rfl, dr2, by omega, by omega, fun H3 z f3 _ dr3 z0 z1 => ?_⟩
    refine ⟨_, _, rfl, rfl, _, rfl, by omega, by omega, ?_⟩
    have ea3 : H3 a = some (.lst (([] : List Int).map V.int)) := f3 _ _ nad (f2 _ _ nad upd_same)
    refine for_range (lo := 0) (n := (1 + z).toNat) (fun i σ Hi => Fd d H Hi ∧ Dr Hi d c ∧ ∃ (es : List Int) (last : Int) (y : Option V), σ = [some (.ref d), some (.int (most : Nat)), some (.ref a), some (.int last), y] ∧ Hi a = some (.lst (es.map V.int)) ∧ es.length = i ∧ es.Pairwise (· < ·) ∧ (∀ e ∈ es, 0 ≤ e ∧ e < last) ∧ 0 ≤ last ∧ last ≤ 2 + 100 * i) ⟨((Fd.new na).trans f2).trans f3, dr3, [], r, none, rfl, ea3, rfl, .nil, (fun _ h => by cases h), r0, by omega⟩ (fun i σ Hi hi hp => ?_) (fun σ Hn hp => ?_)
    · obtain ⟨fi, di, es, last, y, rfl, ea, el, ep, eb, l0, l1⟩ := hp
      refine ⟨_, rfl, .inl ⟨rfl, _, .inl (.inl ea)⟩, _, rfl, a, _, _, rfl, rfl, ea, by rw [List.length_map, el]; exact Nat.lt_of_lt_of_le (m := 100) (by omega) (by decide), ?_⟩
      have di2 := di.upd nad nac (o := .lst (es.map V.int ++ [.int last]))
      refine ⟨_, rfl, _, _, rfl, rfl, _, rfl, d, c, 2, rfl, di2, by decide, by decide, fun H5 r5 f5 _ dr5 r50 r51 => ?_⟩
      refine ⟨_, rfl, d, c, 90, rfl, dr5, by decide, by decide, fun H6 r6 f6 _ dr6 r60 r61 => ?_⟩
      refine ⟨_, _, rfl, rfl, .inl ⟨by omega, by omega⟩, _, _, rfl, rfl, ?_⟩
      have hmul : 0 ≤ r5 * r6 ∧ r5 * r6 ≤ 89 := by
        have : r5 = 0 ∨ r5 = 1 := by omega
        rcases this with rfl | rfl
        · simp
        · rw [Int.one_mul]; omega
      refine ⟨?_, dr6, es ++ [last], _, _, rfl, ?_, ?_, ?_, ?_, by omega, by omega⟩
      · intro b o nb e
        refine f6 _ _ nb (f5 _ _ nb ?_)
        rw [upd_ne (ne_of_none e na)]
        exact fi _ _ nb e
      · rw [f6 _ _ nad (f5 _ _ nad upd_same), List.map_append]
        rfl
      · rw [List.length_append, el]
        rfl
      · rw [List.pairwise_append]
        exact ⟨ep, List.pairwise_singleton _ _, fun x hx y hy => by rw [List.mem_singleton.mp hy]; exact (eb x hx).2⟩
      · intro e he
        rcases List.mem_append.mp he with he | he
        · have := eb e he
          omega
        · rw [List.mem_singleton.mp he]
          omega
    · obtain ⟨fi, di, es, last, y, rfl, ea, el, ep, eb, l0, l1⟩ := hp
      refine ⟨_, rfl, q Hn a es fi di na ⟨nad, nac, ea, ep, by omega, by omega, fun e he => ?_⟩⟩
      have := eb e he
      omega
theorem ok_ltr {f : Addr} {fd : FuncData} (n : Nat) (F : Fun K "_law_tree" "_law_tree" s__law_tree f fd) (M : Mg mg) (c__law_next : Cl P w K mg base 1 "_law_next" sp_next) (c__law_tree : Cl P w K mg base (n + 1) "_law_tree" (sp_ltr K n)) : FnOk P w K mg base CX0 (n + 2) f fd ["draw", "entries", "depth"] (sp_ltr K (n + 1)) := by
  refine F.ok sc__law_tree (fun vs H Q E h => ?_) (fun cdv A outer s H vs Q E hr h => ?_)
  · obtain ⟨d, c, a, es, most, m, rfl, _⟩ := h
    rfl
  · obtain ⟨d, c, a, es, most, m, rfl, hm, dr, en, hmo, q⟩ := h
    refine ⟨_, (pss_cons (ps_set (i := 3) sc__law_tree.nd rfl (.inl rfl) (pe_u c__law_next hr (by first | decide | omega) (by rfl) (pa_cons (pv 0) (pa_cons pe_int pa_nil))))
      (pss_cons (ps_if (PW.pt (pw_or (pt_cmpR op_eq (pv 2) pe_int (nomark _)) (pw_or1 (pt_cmpR op_lt (pv 3) pe_int (nomark _))))) (pss_cons (ps_if (pt_cmpR op_eq (pe_u c__law_next hr (by first | decide | omega) (by rfl) (pa_cons (pv 0) (pa_cons pe_int pa_nil))) pe_int (nomark _)) (pss_one (ps_ret (pe_tup (pa_cons pe_str (pa_cons (pe_u c__law_next hr (by first | decide | omega) (by rfl) (pa_cons (pv 0) (pa_cons pe_int pa_nil))) pa_nil))))) pss_nil)
      (pss_one (ps_ret (pe_tup (pa_cons pe_str (pa_cons (pe_ix (ix_listK K) (pv 1) (pe_u c__law_next hr (by first | decide | omega) (by rfl) (pa_cons (pv 0) (pa_cons (pe_callB (len_seqK K) (by rfl) M.len PySem.boot_len (pa_cons (pv 1) pa_nil)) pa_nil))) (fun _ _ => rfl)) pa_nil)))))) pss_nil)
      (pss_cons (ps_if (pt_cmpR op_eq (pv 3) pe_int (nomark _)) (pss_one (ps_ret (pe_tup (pa_cons pe_str (pa_cons (pe_u c__law_tree hr (by first | decide | omega) (by rfl) (pa_cons (pv 0) (pa_cons (pv 1) (pa_cons (pe_op op_sub (pv 2) pe_int) pa_nil)))) pa_nil))))) pss_nil)
      (pss_cons (ps_set (i := 4) sc__law_tree.nd rfl (.inl rfl) (pe_u c__law_tree hr (by first | decide | omega) (by rfl) (pa_cons (pv 0) (pa_cons (pv 1) (pa_cons (pe_op op_sub (pv 2) pe_int) pa_nil)))))
      (pss_one (ps_ret (pe_tup (pa_cons (pe_ix (ix_listK K) (pe_lst (pa_cons pe_str (pa_cons pe_str (pa_cons pe_str pa_nil)))) (pe_op op_mod (pv 3) pe_int) (fun _ _ => rfl)) (pa_cons (pv 4) (pa_cons (pe_u c__law_tree hr (by first | decide | omega) (by rfl) (pa_cons (pv 0) (pa_cons (pv 1) (pa_cons (pe_op op_sub (pv 2) pe_int) pa_nil)))) pa_nil)))))))))), ?_⟩
    refine ⟨_, rfl, d, c, 9, rfl, dr, by decide, by decide, fun H1 r f1 _ dr1 r0 r1 => ?_⟩
    have en1 := en.fd f1
    by_cases hd : m = 0 ∨ r < 2
    · refine ⟨_, rfl, rfl, _, rfl, ?_⟩
      refine ite2 (fun e => iteT ?_) (fun e => ⟨_, rfl, _, _, rfl, rfl, _, rfl, ?x⟩)
      case' x =>
        rw [decide_eq_true (show r < 2 by
          rcases hd with rfl | h
          · exact absurd (decide_eq_true rfl) e
          · exact h)]
        refine iteT ?_
      all_goals
        refine ⟨_, rfl, d, c, 12, rfl, dr1, by decide, by decide, fun H2 r2 f2 _ dr2 r20 r21 => ?_⟩
        have en2 := en1.fd f2
        refine ⟨rfl, _, rfl, ite2 (fun e => ?_) (fun e => ?_)⟩
        · refine ⟨_, rfl, d, c, 2, rfl, dr2, by decide, by decide, fun H3 r3 f3 _ dr3 r30 r31 => ?_⟩
          refine ⟨by show 2 ≤ sizeLine; decide, fun p np => ?_⟩
          obtain ⟨b, rfl⟩ : ∃ b : Bool, r3 = if b = true then 1 else 0 := by
            by_cases h : r3 = 1
            · exact ⟨true, h⟩
            · exact ⟨false, by show r3 = 0; omega⟩
          exact q _ _ (.con b) (((f1.trans f2).trans f3).trans (Fd.new np)) (dr3.ext (same_upd np)) trivial (Nat.zero_le _) (.tup (.inl (.inl upd_same)) (.cons (.str _) (.cons (.int _) .nil)))
        · refine ⟨_, rfl, _, rfl, _, rfl, a, _, rfl, .inl (.of en2.2.2.1), ?_⟩
          rw [List.length_map]
          have l1 := en2.2.2.2.2.1
          have l2 := en2.2.2.2.2.2.1
          refine ⟨d, c, _, rfl, dr2, by omega, by omega, fun H3 r3 f3 _ dr3 r30 r31 => ?_⟩
          obtain ⟨k3, rfl⟩ := Int.eq_ofNat_of_zero_le r30
          have hk3 : k3 < es.length := by omega
          have en3 := en2.fd f3
          refine ⟨a, _, _, .int es[k3], rfl, rfl, .of en3.2.2.1, atI_nat (by rw [List.getElem?_map, List.getElem?_eq_getElem hk3]; rfl), ?_⟩
          refine ⟨by show 2 ≤ sizeLine; decide, fun p np => ?_⟩
          exact q _ _ (.ther es[k3]) (((f1.trans f2).trans f3).trans (Fd.new np)) (dr3.ext (same_upd np)) (List.getElem_mem hk3) (Nat.zero_le _) (.tup (.inl (.inl upd_same)) (.cons (.str _) (.cons (.int _) .nil)))
    · obtain ⟨k, rfl⟩ : ∃ k, m = k + 1 := ⟨m - 1, by omega⟩
      have dec : [V.ref d, V.ref a, V.int (((k + 1 : Nat) : Int) - 1)] = [V.ref d, V.ref a, V.int (k : Nat)] := by rw [show (((k + 1 : Nat) : Int) - 1) = (k : Nat) by omega]
      refine ⟨_, rfl, rfl, _, rfl, ?_⟩
      rw [show decide (V.int ((k + 1 : Nat) : Int) = V.int 0) = false from decide_eq_false fun z => by have := V.int.inj z; omega]
      refine iteF ⟨_, rfl, _, _, rfl, rfl, _, rfl, ?_⟩
      rw [decide_eq_false (show ¬ r < 2 by omega)]
      refine iteF ?_
      refine ⟨_, rfl, rfl, _, rfl, ite2 (fun e => ?_) (fun e => ?_)⟩
      · refine ⟨_, rfl, _, rfl, _, rfl, _, _, rfl, rfl, d, c, a, es, most, k, dec, by omega, dr1, en1, hmo, fun H2 p1 t1 f2 dr2 ok1 ht1 dp1 => ?_⟩
        refine ⟨by show 2 ≤ sizeLine; decide, fun p np => ?_⟩
        exact q _ _ (.nt t1) ((f1.trans f2).trans (Fd.new np)) (dr2.ext (same_upd np)) ok1 (by show t1.ht + 1 ≤ k + 1; omega) (.tup (.inl (.inl upd_same)) (.cons (.str _) (.cons (Dp.ext (same_upd np) _ _ dp1) .nil)))
      · refine ⟨_, rfl, _, rfl, _, rfl, _, _, rfl, rfl, d, c, a, es, most, k, dec, by omega, dr1, en1, hmo, fun H2 p1 t1 f2 dr2 ok1 ht1 dp1 => ?_⟩
        refine ⟨by show 3 ≤ sizeLine; decide, fun wp nwp => ?_⟩
        have sw := same_upd nwp (o := .lst [.str "and", .str "or", .str "differ"])
        have ew : (upd H2 wp (.lst [.str "and", .str "or", .str "differ"])) wp = some (.lst [.str "and", .str "or", .str "differ"]) := upd_same
        generalize upd H2 wp (.lst [.str "and", .str "or", .str "differ"]) = H3 at sw ew
        have dr3 := dr2.ext sw
        have en3 := (en1.fd f2).fd (Fd.of sw)
        have dp3 := Dp.ext sw _ _ dp1
        have fin : ∀ (o : Bo), r % 3 = (match o with | .and => 0 | .or => 1 | .df => 2) → atI [V.str "and", V.str "or", V.str "differ"] (r % 3) = some (.str (Str.ofString o.s)) := fun o h => by
          rw [h]
          cases o with
          | and => exact atI_nat (j := 0) rfl
          | or => exact atI_nat (j := 1) rfl
          | df => exact atI_nat (j := 2) rfl
        obtain ⟨o, ho⟩ : ∃ o : Bo, r % 3 = (match o with | .and => 0 | .or => 1 | .df => 2) := by
          have : r % 3 = 0 ∨ r % 3 = 1 ∨ r % 3 = 2 := by omega
          rcases this with h | h | h
          · exact ⟨.and, h⟩
          · exact ⟨.or, h⟩
          · exact ⟨.df, h⟩
        refine ⟨_, rfl, _, _, rfl, rfl, by show (0 : Int) < 3; decide, wp, _, _, _, rfl, rfl, .of ew, fin o ho, ?_⟩
        refine ⟨_, rfl, ?_⟩
        refine ⟨_, rfl, _, rfl, _, rfl, _, _, rfl, rfl, d, c, a, es, most, k, dec, by omega, dr3, en3, hmo, fun H4 p2 t2 f4 dr4 ok2 ht2 dp2 => ?_⟩
        have dp4 := Dp.fd dr3.lst f4 _ _ (tr_only t1) dp3
        refine ⟨by show 3 ≤ sizeLine; decide, fun p np => ?_⟩
        exact q _ _ (.bin o t1 t2) ((((f1.trans f2).trans (Fd.of sw)).trans f4).trans (Fd.new np)) (dr4.ext (same_upd np)) ⟨ok1, ok2⟩ (by show max t1.ht t2.ht + 1 ≤ k + 1; omega) (.tup (.inl (.inl upd_same)) (.cons (.str _) (.cons (Dp.ext (same_upd np) _ _ dp4) (.cons (Dp.ext (same_upd np) _ _ dp2) .nil))))
theorem cl_ltr {f : Addr} {fd : FuncData} (F : Fun K "_law_tree" "_law_tree" s__law_tree f fd) (M : Mg mg) (g : mg "_law_tree" = some (.ref f)) (b : Binds K fd ["draw", "entries", "depth"] []) (c__law_next : Cl P w K mg base 1 "_law_next" sp_next) : ∀ n, Cl P w K mg base (n + 1) "_law_tree" (sp_ltr K n)
  | 0 => FnOk.cl (P := P) (w := w) (base := base) (F.ok sc__law_tree (fun vs H Q E h => by obtain ⟨d, c, a, es, most, m, rfl, _⟩ := h; rfl) (fun cdv A outer s H vs Q E hr h => by obtain ⟨d, c, a, es, most, m, rfl, hm, _⟩ := h; omega)) F g b
  | n + 1 => FnOk.cl (ok_ltr n F M c__law_next (cl_ltr F M g b c__law_next n)) F g b
end

/-! ### the laws' building of conditions, their truth, the sets -/
def sp_build (C : Addr) (K : PySem.W.Frag) (m n : Nat) : Sp := fun vs H Q _ => ∃ s N es L v t, vs = [.ref s.p, v] ∧ Sto C K H s N es L ∧ es.length < m ∧ Tr.ok es t ∧ Tr.ht t < n ∧ Dp K H v t.d ∧ N.length + t.sz * opB es < sizeLine ∧ L + t.sz * opB es < sizeLine ∧
  ∀ H' M r T, FdS s H H' → M.length ≤ t.sz * opB es → Sto C K H' s (N ++ M) es (L + t.sz * opB es) → At (N ++ M) r T → Wf es T → (∀ ρ, T.ev ρ = t.ev ρ) → Q (.int ((r : Nat) : Int)) H'
def sp_true (K : PySem.W.Frag) (n : Nat) : Sp := fun vs H Q _ => ∃ v a t, ∃ ps : List Int, vs = [v, .ref a] ∧ Dp K H v (Tr.d t) ∧ SqL K H a (ps.map V.int) ∧ t.ht < n ∧ Q (.bl (t.ev fun e => decide (e ∈ ps))) H
/-- all sets of input rows, in the law's order -/
def subs (es : List Int) : List (List Int) := es.foldl (fun f e => f ++ f.map (· ++ [e])) [[]]
theorem subs_snoc (es : List Int) (e : Int) : subs (es ++ [e]) = subs es ++ (subs es).map (· ++ [e]) := by
  unfold subs
  rw [List.foldl_append]
  rfl
theorem subs_len (es : List Int) : (subs es).length = 2 ^ es.length := by
  have h : ∀ (es : List Int) (f : List (List Int)), (es.foldl (fun f e => f ++ f.map (· ++ [e])) f).length = f.length * 2 ^ es.length := by
    intro es
    induction es with
    | nil => intro f; simp
    | cons e es ih =>
      intro f
      rw [List.foldl_cons, ih, List.length_append, List.length_map, List.length_cons, Nat.pow_succ, ← Nat.two_mul, Nat.mul_comm 2 f.length, Nat.mul_assoc, Nat.mul_comm 2]
  rw [subs, h]
  simp
theorem subs_le (es : List Int) : ∀ p ∈ subs es, p.length ≤ es.length ∧ ∀ e ∈ p, e ∈ es := by
  have h : ∀ (es all : List Int) (f : List (List Int)) (k : Nat), (∀ e ∈ es, e ∈ all) → (∀ p ∈ f, p.length ≤ k ∧ ∀ e ∈ p, e ∈ all) → ∀ p ∈ es.foldl (fun f e => f ++ f.map (· ++ [e])) f, p.length ≤ k + es.length ∧ ∀ e ∈ p, e ∈ all := by
    intro es all
    induction es with
    | nil => intro f k _ h; exact h
    | cons e es ih =>
      intro f k ha h p hp
      rw [List.foldl_cons] at hp
      have := ih _ (k + 1) (fun x hx => ha x (List.mem_cons_of_mem _ hx)) (fun q hq => by
        rcases List.mem_append.mp hq with hq | hq
        · have := h q hq
          exact ⟨by omega, this.2⟩
        · obtain ⟨q', hq', rfl⟩ := List.mem_map.mp hq
          have := h q' hq'
          refine ⟨by rw [List.length_append]; exact Nat.add_le_add_right this.1 1, fun x hx => ?_⟩
          rcases List.mem_append.mp hx with hx | hx
          · exact this.2 x hx
          · rw [List.mem_singleton.mp hx]
            exact ha e List.mem_cons_self) p hp
      rw [List.length_cons]
      exact ⟨by omega, this.2⟩
  intro p hp
  have := h es es [[]] 0 (fun _ h => h) (fun p hp => by rw [List.mem_singleton.mp hp]; exact ⟨Nat.le_refl _, fun _ h => by cases h⟩) p hp
  rw [Nat.zero_add] at this
  exact this
/-- a list of lists of numbers -/
def LL (H : Hp) (p : Addr) (ls : List (List Int)) : Prop := ∃ as : List Addr, H p = some (.lst (as.map V.ref)) ∧ as.length = ls.length ∧ ∀ (i : Nat) b l, as[i]? = some b → ls[i]? = some l → H b = some (.lst (l.map V.int))
theorem LL.ext {H H' : Hp} {p : Addr} {ls : List (List Int)} (e : Same H H') (h : LL H p ls) : LL H' p ls := by
  obtain ⟨as, h1, h2, h3⟩ := h
  exact ⟨as, e _ _ h1, h2, fun i b l g1 g2 => e _ _ (h3 i b l g1 g2)⟩
theorem LL.get {H : Hp} {p : Addr} {ls : List (List Int)} (h : LL H p ls) : ∃ as : List Addr, H p = some (.lst (as.map V.ref)) ∧ as.length = ls.length ∧ ∀ (i : Nat) v, (as.map V.ref)[i]? = some v → ∃ b l, v = .ref b ∧ ls[i]? = some l ∧ H b = some (.lst (l.map V.int)) := by
  obtain ⟨as, h1, h2, h3⟩ := h
  refine ⟨as, h1, h2, fun i v hv => ?_⟩
  rw [List.getElem?_map] at hv
  obtain ⟨b, hb, rfl⟩ := Option.map_eq_some_iff.mp hv
  have hi : i < ls.length := by rw [← h2]; exact (List.getElem?_eq_some_iff.mp hb).1
  exact ⟨b, ls[i], rfl, List.getElem?_eq_getElem hi, h3 i b _ hb (List.getElem?_eq_getElem hi)⟩
def sp_subs : Sp := fun vs H Q _ => ∃ a, ∃ es : List Int, vs = [.ref a] ∧ H a = some (.lst (es.map V.int)) ∧ es.length ≤ 10 ∧ ∀ H' p, Same H H' → H p = none → LL H' p (subs es) → Q (.ref p) H'
theorem LL.app {H : Hp} {p q a b : Addr} {ls ms : List (List Int)} {xs ys : List V} (np : H p = none) (h1 : LL H a ls) (h2 : LL H b ms) (e1 : H a = some (.lst xs)) (e2 : H b = some (.lst ys)) : LL (upd H p (.lst (xs ++ ys))) p (ls ++ ms) := by
  obtain ⟨as, g1, g2, g3⟩ := h1
  obtain ⟨bs, k1, k2, k3⟩ := h2
  have ex : xs = as.map V.ref := by rw [g1] at e1; exact (HO.lst.inj (Option.some.inj e1)).symm
  have ey : ys = bs.map V.ref := by rw [k1] at e2; exact (HO.lst.inj (Option.some.inj e2)).symm
  refine ⟨as ++ bs, by rw [upd_same, ex, ey, List.map_append], by rw [List.length_append, List.length_append, g2, k2], fun i c l hc hl => ?_⟩
  refine same_upd np _ _ ?_
  by_cases hi : i < as.length
  · rw [List.getElem?_append_left hi] at hc
    rw [List.getElem?_append_left (by omega)] at hl
    exact g3 i c l hc hl
  · rw [List.getElem?_append_right (by omega)] at hc
    rw [List.getElem?_append_right (by omega), ← g2] at hl
    exact k3 _ c l hc hl
theorem Wf.one {es : List Int} {x : Int} (h : x ∈ es) : Wf es (.nd x (.lf false) (.lf true)) := by
  obtain ⟨pre, post, rfl⟩ := List.append_of_mem h
  exact (Wf.here .lf .lf (fun z => by cases z)).skips pre
section
variable {P : Program} {w : World} {K : PySem.W.Frag} {mg : Str → Option Value} {base : Heap}
theorem ok_true (n : Nat) {f : Addr} {fd : FuncData} (F : Fun K "_law_true" "_law_true" s__law_true f fd) (M : Mg mg) (c__law_true : Cl P w K mg base (n + 1) "_law_true" (sp_true K n)) : FnOk P w K mg base CX0 (n + 2) f fd ["tree", "present"] (sp_true K (n + 1)) := by
  refine F.ok sc__law_true (fun vs H Q E h => ?_) (fun cdv A outer s H vs Q E hr h => ?_)
  · obtain ⟨v, a, t, ps, rfl, _⟩ := h
    rfl
  · obtain ⟨v, a, t, ps, rfl, dp, ha, hn, q⟩ := h
    refine ⟨_, (pss_cons (ps_if (pt_cmpR op_eq (pe_ix (ix_tupK K) (pv 0) pe_int (fun _ _ => rfl)) pe_str (nomark _)) (pss_one (ps_ret (pe_cmpR op_eq (pe_ix (ix_tupK K) (pv 0) pe_int (fun _ _ => rfl)) pe_int (nomark _)))) pss_nil)
      (pss_cons (ps_if (pt_cmpR op_eq (pe_ix (ix_tupK K) (pv 0) pe_int (fun _ _ => rfl)) pe_str (nomark _)) (pss_one (ps_ret (pe_cmpR (inK K) (pe_ix (ix_tupK K) (pv 0) pe_int (fun _ _ => rfl)) (pv 1) (by rfl)))) pss_nil)
      (pss_cons (ps_set (i := 2) sc__law_true.nd rfl (.inl rfl) (pe_u c__law_true hr (by first | decide | omega) (by rfl) (pa_cons (pe_ix (ix_tupK K) (pv 0) pe_int (fun _ _ => rfl)) (pa_cons (pv 1) pa_nil))))
      (pss_cons (ps_if (pt_cmpR op_eq (pe_ix (ix_tupK K) (pv 0) pe_int (fun _ _ => rfl)) pe_str (nomark _)) (pss_one (ps_ret (pe_not (pv 2)))) pss_nil)
      (pss_cons (ps_set (i := 3) sc__law_true.nd rfl (.inl rfl) (pe_u c__law_true hr (by first | decide | omega) (by rfl) (pa_cons (pe_ix (ix_tupK K) (pv 0) pe_int (fun _ _ => rfl)) (pa_cons (pv 1) pa_nil))))
      (pss_cons (ps_if (pt_cmpR op_eq (pe_ix (ix_tupK K) (pv 0) pe_int (fun _ _ => rfl)) pe_str (nomark _)) (pss_one (ps_ret (pe_and (pv 2) (pe_one (pv 3))))) pss_nil)
      (pss_one (ps_ret (pe_ifExp (pt_cmpR op_eq (pe_ix (ix_tupK K) (pv 0) pe_int (fun _ _ => rfl)) pe_str (nomark _)) (pe_or (pv 2) (pe_one (pv 3))) (pe_cmpR op_ne (pv 2) (pv 3) (nomark _))))))))))), ?_⟩
    cases t with
    | con b =>
      obtain ⟨p, xs, rfl, hs, hx⟩ := dp_tup dp
      obtain ⟨u, rfl, hu⟩ := dp_two hx
      cases hu
      refine ⟨_, rfl, p, _, _, _, rfl, rfl, hs, atI_nat (j := 0) rfl, rfl, _, rfl, ?_⟩
      rw [weq]
      refine iteT ⟨_, rfl, p, _, _, _, rfl, rfl, hs, atI_nat (j := 1) rfl, rfl, ?_⟩
      cases b with
      | true => exact q
      | false => exact q
    | ther e =>
      obtain ⟨p, xs, rfl, hs, hx⟩ := dp_tup dp
      obtain ⟨u, rfl, hu⟩ := dp_two hx
      cases hu
      refine ⟨_, rfl, p, _, _, _, rfl, rfl, hs, atI_nat (j := 0) rfl, rfl, _, rfl, ?_⟩
      rw [wne "there" "constant" (by decide +kernel)]
      refine iteF ⟨_, rfl, p, _, _, _, rfl, rfl, hs, atI_nat (j := 0) rfl, rfl, _, rfl, ?_⟩
      rw [weq]
      refine iteT ⟨_, rfl, p, _, _, _, rfl, rfl, hs, atI_nat (j := 1) rfl, _, rfl, a, _, rfl, .inl ha, rfl, ints_flat ps, ?_⟩
      rw [if_neg Bool.false_ne_true, inV_int]
      exact q
    | nt t1 =>
      obtain ⟨p, xs, rfl, hs, hx⟩ := dp_tup dp
      obtain ⟨u, rfl, hu⟩ := dp_two hx
      have hn : t1.ht + 1 < n + 1 := hn
      refine ⟨_, rfl, p, _, _, _, rfl, rfl, hs, atI_nat (j := 0) rfl, rfl, _, rfl, ?_⟩
      rw [wne "not" "constant" (by decide +kernel)]
      refine iteF ⟨_, rfl, p, _, _, _, rfl, rfl, hs, atI_nat (j := 0) rfl, rfl, _, rfl, ?_⟩
      rw [wne "not" "there" (by decide +kernel)]
      refine iteF ⟨_, rfl, p, _, _, _, rfl, rfl, hs, atI_nat (j := 1) rfl, _, rfl, u, a, t1, ps, rfl, hu, ha, by omega, ?_⟩
      refine ⟨_, rfl, p, _, _, _, rfl, rfl, hs, atI_nat (j := 0) rfl, rfl, _, rfl, ?_⟩
      rw [weq]
      exact iteT ⟨_, rfl, _, rfl, q⟩
    | bin o t1 t2 =>
      obtain ⟨p, xs, rfl, hs, hx⟩ := dp_tup dp
      obtain ⟨u, u2, rfl, hu, hu2⟩ := dp_three hx
      have hn : max t1.ht t2.ht + 1 < n + 1 := hn
      refine ⟨_, rfl, p, _, _, _, rfl, rfl, hs, atI_nat (j := 0) rfl, rfl, _, rfl, ?_⟩
      rw [wne o.s "constant" (by cases o <;> decide +kernel)]
      refine iteF ⟨_, rfl, p, _, _, _, rfl, rfl, hs, atI_nat (j := 0) rfl, rfl, _, rfl, ?_⟩
      rw [wne o.s "there" (by cases o <;> decide +kernel)]
      refine iteF ⟨_, rfl, p, _, _, _, rfl, rfl, hs, atI_nat (j := 1) rfl, _, rfl, u, a, t1, ps, rfl, hu, ha, by omega, ?_⟩
      refine ⟨_, rfl, p, _, _, _, rfl, rfl, hs, atI_nat (j := 0) rfl, rfl, _, rfl, ?_⟩
      rw [wne o.s "not" (by cases o <;> decide +kernel)]
      refine iteF ⟨_, rfl, p, _, _, _, rfl, rfl, hs, atI_nat (j := 2) rfl, _, rfl, u2, a, t2, ps, rfl, hu2, ha, by omega, ?_⟩
      refine ⟨_, rfl, p, _, _, _, rfl, rfl, hs, atI_nat (j := 0) rfl, rfl, _, rfl, ?_⟩
      cases o with
      | and =>
        rw [show decide (V.str (Str.ofString Bo.and.s) = V.str "and") = true from weq "and"]
        refine iteT ⟨_, rfl, _, rfl, ?_⟩
        have q : Q (.bl ((t1.ev fun e => decide (e ∈ ps)) && (t2.ev fun e => decide (e ∈ ps)))) H := q
        cases e : t1.ev fun e => decide (e ∈ ps) with
        | true =>
          rw [e] at q
          exact iteT ⟨_, rfl, q⟩
        | false =>
          rw [e] at q
          exact iteF q
      | or =>
        rw [show decide (V.str (Str.ofString Bo.or.s) = V.str "and") = false from wne "or" "and" (by decide +kernel)]
        refine iteF ⟨_, rfl, p, _, _, _, rfl, rfl, hs, atI_nat (j := 0) rfl, rfl, _, rfl, ?_⟩
        rw [show decide (V.str (Str.ofString Bo.or.s) = V.str "or") = true from weq "or"]
        refine iteT ⟨_, rfl, _, rfl, ?_⟩
        have q : Q (.bl ((t1.ev fun e => decide (e ∈ ps)) || (t2.ev fun e => decide (e ∈ ps)))) H := q
        cases e : t1.ev fun e => decide (e ∈ ps) with
        | true =>
          rw [e] at q
          exact iteT q
        | false =>
          rw [e] at q
          exact iteF ⟨_, rfl, q⟩
      | df =>
        rw [show decide (V.str (Str.ofString Bo.df.s) = V.str "and") = false from wne "differ" "and" (by decide +kernel)]
        refine iteF ⟨_, rfl, p, _, _, _, rfl, rfl, hs, atI_nat (j := 0) rfl, rfl, _, rfl, ?_⟩
        rw [show decide (V.str (Str.ofString Bo.df.s) = V.str "or") = false from wne "differ" "or" (by decide +kernel)]
        refine iteF ⟨_, rfl, _, rfl, rfl, ?_⟩
        have q : Q (.bl (bne (t1.ev fun e => decide (e ∈ ps)) (t2.ev fun e => decide (e ∈ ps)))) H := q
        cases e : t1.ev fun e => decide (e ∈ ps) <;> cases e2 : t2.ev fun e => decide (e ∈ ps) <;> rw [e, e2] at q <;> exact q
theorem cl_true {f : Addr} {fd : FuncData} (F : Fun K "_law_true" "_law_true" s__law_true f fd) (M : Mg mg) (g : mg "_law_true" = some (.ref f)) (b : Binds K fd ["tree", "present"] []) : ∀ n, Cl P w K mg base (n + 1) "_law_true" (sp_true K n)
  | 0 => FnOk.cl (P := P) (w := w) (base := base) (F.ok sc__law_true (fun vs H Q E h => by obtain ⟨v, a, t, ps, rfl, _⟩ := h; rfl) (fun cdv A outer s H vs Q E hr h => by obtain ⟨v, a, t, ps, rfl, _, _, hm, _⟩ := h; omega)) F g b
  | n + 1 => FnOk.cl (ok_true n F M (cl_true F M g b n)) F g b
set_option maxHeartbeats 4000000 in
theorem ok_build (m n : Nat) {f C : Addr} {fd : FuncData} (F : Fun K "_law_build" "_law_build" s__law_build f fd) (M : Mg mg) (c_Diagrams_there : ClM P w K mg base 2 C "there" (sp_there C K)) (c_Diagrams_conjunction : ClM P w K mg base (m + 3) C "conjunction" (sp_op2 C K m and)) (c_Diagrams_disjunction : ClM P w K mg base (m + 3) C "disjunction" (sp_op2 C K m or)) (c_Diagrams_negation : ClM P w K mg base (m + 3) C "negation" (sp_neg C K m)) (c_Diagrams_differs : ClM P w K mg base (m + 4) C "differs" (sp_op2 C K m bne))
    (c__law_build : Cl P w K mg base (m + 4 + n) "_law_build" (sp_build C K m n)) : FnOk P w K mg base CX0 (m + 4 + n + 1) f fd ["store", "tree"] (sp_build C K m (n + 1)) := by
  refine F.ok sc__law_build (fun vs H Q E h => ?_) (fun cdv A outer s H vs Q E hr h => ?_)
  · obtain ⟨s, N, es, L, v, t, rfl, _⟩ := h
    rfl
  · obtain ⟨s, N, es, L, v, t, rfl, st, hm, ok, hn, dp, z1, z2, q⟩ := h
    have o1 := opB_ge es
    have o2 : 1 ≤ 2 ^ es.length := Nat.one_le_two_pow
    refine ⟨_, (pss_cons (ps_if (pt_cmpR op_eq (pe_ix (ix_tupK K) (pv 1) pe_int (fun _ _ => rfl)) pe_str (nomark _)) (pss_one (ps_ret (pe_ix (ix_tupK K) (pv 1) pe_int (fun _ _ => rfl)))) pss_nil)
      (pss_cons (ps_if (pt_cmpR op_eq (pe_ix (ix_tupK K) (pv 1) pe_int (fun _ _ => rfl)) pe_str (nomark _)) (pss_one (ps_ret (pe_mt c_Diagrams_there hr (by first | decide | omega) (pv 0) (pa_cons (pe_ix (ix_tupK K) (pv 1) pe_int (fun _ _ => rfl)) pa_nil)))) pss_nil)
      (pss_cons (ps_set (i := 2) sc__law_build.nd rfl (.inl rfl) (pe_u c__law_build hr (by first | decide | omega) (by rfl) (pa_cons (pv 0) (pa_cons (pe_ix (ix_tupK K) (pv 1) pe_int (fun _ _ => rfl)) pa_nil))))
      (pss_cons (ps_if (pt_cmpR op_eq (pe_ix (ix_tupK K) (pv 1) pe_int (fun _ _ => rfl)) pe_str (nomark _)) (pss_one (ps_ret (pe_mt c_Diagrams_negation hr (by first | decide | omega) (pv 0) (pa_cons (pv 2) pa_nil)))) pss_nil)
      (pss_cons (ps_set (i := 3) sc__law_build.nd rfl (.inl rfl) (pe_u c__law_build hr (by first | decide | omega) (by rfl) (pa_cons (pv 0) (pa_cons (pe_ix (ix_tupK K) (pv 1) pe_int (fun _ _ => rfl)) pa_nil))))
      (pss_cons (ps_if (pt_cmpR op_eq (pe_ix (ix_tupK K) (pv 1) pe_int (fun _ _ => rfl)) pe_str (nomark _)) (pss_one (ps_ret (pe_mt c_Diagrams_conjunction hr (by first | decide | omega) (pv 0) (pa_cons (pv 2) (pa_cons (pv 3) pa_nil))))) pss_nil)
      (pss_one (ps_ret (pe_ifExp (pt_cmpR op_eq (pe_ix (ix_tupK K) (pv 1) pe_int (fun _ _ => rfl)) pe_str (nomark _)) (pe_mt c_Diagrams_disjunction hr (by first | decide | omega) (pv 0) (pa_cons (pv 2) (pa_cons (pv 3) pa_nil))) (pe_mt c_Diagrams_differs hr (by first | decide | omega) (pv 0) (pa_cons (pv 2) (pa_cons (pv 3) pa_nil)))))))))))), ?_⟩
    cases t with
    | con b =>
      obtain ⟨p, xs, rfl, hs, hx⟩ := dp_tup dp
      obtain ⟨u, rfl, hu⟩ := dp_two hx
      cases hu
      refine ⟨_, rfl, p, _, _, _, rfl, rfl, hs, atI_nat (j := 0) rfl, rfl, _, rfl, ?_⟩
      rw [weq]
      refine iteT ⟨_, rfl, p, _, _, _, rfl, rfl, hs, atI_nat (j := 1) rfl, ?_⟩
      have q := fun r T => q H [] r T (FdS.refl s H) (Nat.zero_le _) (by rw [List.append_nil]; exact st.more (Nat.le_add_right _ _))
      cases b with
      | true => exact q 1 _ .t .lf (fun _ => rfl)
      | false => exact q 0 _ .f .lf (fun _ => rfl)
    | ther e =>
      obtain ⟨p, xs, rfl, hs, hx⟩ := dp_tup dp
      obtain ⟨u, rfl, hu⟩ := dp_two hx
      cases hu
      have e1 : Tr.sz (.ther e) * opB es = opB es := Nat.one_mul _
      rw [e1] at z1 z2 q
      refine ⟨_, rfl, p, _, _, _, rfl, rfl, hs, atI_nat (j := 0) rfl, rfl, _, rfl, ?_⟩
      rw [wne "there" "constant" (by decide +kernel)]
      refine iteF ⟨_, rfl, p, _, _, _, rfl, rfl, hs, atI_nat (j := 0) rfl, rfl, _, rfl, ?_⟩
      rw [weq]
      refine iteT ⟨_, rfl, st.go (by decide +kernel) (by decide +kernel) (by decide +kernel) ⟨_, rfl, p, _, _, _, rfl, rfl, hs, atI_nat (j := 1) rfl, ?_⟩⟩
      refine ⟨s, N, es, L, e, rfl, st, by omega, fun H' M r f l st' a => q H' M r _ f (by omega) (st'.more (by omega)) a (Wf.one ok) fun ρ => ?_⟩
      show (if ρ e = true then true else false) = ρ e
      cases ρ e <;> rfl
    | nt t1 =>
      obtain ⟨p, xs, rfl, hs, hx⟩ := dp_tup dp
      obtain ⟨u, rfl, hu⟩ := dp_two hx
      have hn : t1.ht + 1 < n + 1 := hn
      have e1 : Tr.sz (.nt t1) * opB es = t1.sz * opB es + opB es := Nat.succ_mul _ _
      rw [e1] at z1 z2 q
      refine ⟨_, rfl, p, _, _, _, rfl, rfl, hs, atI_nat (j := 0) rfl, rfl, _, rfl, ?_⟩
      rw [wne "not" "constant" (by decide +kernel)]
      refine iteF ⟨_, rfl, p, _, _, _, rfl, rfl, hs, atI_nat (j := 0) rfl, rfl, _, rfl, ?_⟩
      rw [wne "not" "there" (by decide +kernel)]
      refine iteF ⟨_, rfl, _, rfl, p, _, _, _, rfl, rfl, hs, atI_nat (j := 1) rfl, ?_⟩
      refine ⟨s, N, es, L, u, t1, rfl, st, hm, ok, by omega, hu, by omega, by omega, fun H1 M1 r1 T1 f1 l1 st1 a1 w1 v1 => ?_⟩
      have hs1 := SqT.tsn (st.tup f1) hs
      refine ⟨_, rfl, p, _, _, _, rfl, rfl, hs1, atI_nat (j := 0) rfl, rfl, _, rfl, ?_⟩
      rw [weq]
      refine iteT ⟨_, rfl, st1.go (by decide +kernel) (by decide +kernel) (by decide +kernel) ⟨_, rfl, ?_⟩⟩
      refine ⟨s, N ++ M1, es, _, r1, T1, rfl, st1, hm, a1, w1, by rw [List.length_append]; omega, by omega, fun H2 M2 r2 T2 f2 l2 st2 a2 w2 v2 => ?_⟩
      rw [List.append_assoc] at st2 a2
      refine q H2 (M1 ++ M2) r2 T2 (f1.trans f2) (by rw [List.length_append]; omega) (st2.more (by omega)) a2 w2 fun ρ => ?_
      rw [v2, v1]
      rfl
    | bin o t1 t2 =>
      obtain ⟨p, xs, rfl, hs, hx⟩ := dp_tup dp
      obtain ⟨u, u2, rfl, hu, hu2⟩ := dp_three hx
      have hn : max t1.ht t2.ht + 1 < n + 1 := hn
      have e1 : Tr.sz (.bin o t1 t2) * opB es = t1.sz * opB es + t2.sz * opB es + opB es := by
        show (t1.sz + t2.sz + 1) * opB es = _
        rw [Nat.succ_mul, Nat.add_mul]
      rw [e1] at z1 z2 q
      refine ⟨_, rfl, p, _, _, _, rfl, rfl, hs, atI_nat (j := 0) rfl, rfl, _, rfl, ?_⟩
      rw [wne o.s "constant" (by cases o <;> decide +kernel)]
      refine iteF ⟨_, rfl, p, _, _, _, rfl, rfl, hs, atI_nat (j := 0) rfl, rfl, _, rfl, ?_⟩
      rw [wne o.s "there" (by cases o <;> decide +kernel)]
      refine iteF ⟨_, rfl, _, rfl, p, _, _, _, rfl, rfl, hs, atI_nat (j := 1) rfl, ?_⟩
      refine ⟨s, N, es, L, u, t1, rfl, st, hm, ok.1, by omega, hu, by omega, by omega, fun H1 M1 r1 T1 f1 l1 st1 a1 w1 v1 => ?_⟩
      have hs1 := SqT.tsn (st.tup f1) hs
      have hu21 := st.dp f1 (tr_only t2) hu2
      refine ⟨_, rfl, p, _, _, _, rfl, rfl, hs1, atI_nat (j := 0) rfl, rfl, _, rfl, ?_⟩
      rw [wne o.s "not" (by cases o <;> decide +kernel)]
      refine iteF ⟨_, rfl, _, rfl, p, _, _, _, rfl, rfl, hs1, atI_nat (j := 2) rfl, ?_⟩
      refine ⟨s, N ++ M1, es, _, u2, t2, rfl, st1, hm, ok.2, by omega, hu21, by rw [List.length_append]; omega, by omega, fun H2 M2 r2 T2 f2 l2 st2 a2 w2 v2 => ?_⟩
      have hs2 := SqT.tsn (st1.tup f2) hs1
      have fin : ∀ (g : Bool → Bool → Bool), g = o.f → sp_op2 C K m g [.ref s.p, .int ((r1 : Nat) : Int), .int ((r2 : Nat) : Int)] H2 Q E0 := fun g hg => by
        refine ⟨s, (N ++ M1) ++ M2, es, _, r1, r2, T1, T2, rfl, st2, hm, a1.mono, a2, w1, w2, by rw [List.length_append, List.length_append]; omega, by omega, fun H3 M3 r3 T3 f3 l3 st3 a3 w3 v3 => ?_⟩
        have eN : N ++ M1 ++ M2 ++ M3 = N ++ (M1 ++ M2 ++ M3) := by simp only [List.append_assoc]
        rw [eN] at st3 a3
        refine q H3 (M1 ++ M2 ++ M3) r3 T3 ((f1.trans f2).trans f3) (by rw [List.length_append, List.length_append]; omega) (st3.more (by omega)) a3 w3 fun ρ => ?_
        rw [v3, v1, v2, hg]
        rfl
      refine ⟨_, rfl, p, _, _, _, rfl, rfl, hs2, atI_nat (j := 0) rfl, rfl, _, rfl, ?_⟩
      cases o with
      | and =>
        rw [show decide (V.str (Str.ofString Bo.and.s) = V.str "and") = true from weq "and"]
        exact iteT ⟨_, rfl, st2.go (by decide +kernel) (by decide +kernel) (by decide +kernel) ⟨_, rfl, _, rfl, fin and rfl⟩⟩
      | or =>
        rw [show decide (V.str (Str.ofString Bo.or.s) = V.str "and") = false from wne "or" "and" (by decide +kernel)]
        refine iteF ⟨_, rfl, p, _, _, _, rfl, rfl, hs2, atI_nat (j := 0) rfl, rfl, _, rfl, ?_⟩
        rw [show decide (V.str (Str.ofString Bo.or.s) = V.str "or") = true from weq "or"]
        exact iteT ⟨_, rfl, st2.go (by decide +kernel) (by decide +kernel) (by decide +kernel) ⟨_, rfl, _, rfl, fin or rfl⟩⟩
      | df =>
        rw [show decide (V.str (Str.ofString Bo.df.s) = V.str "and") = false from wne "differ" "and" (by decide +kernel)]
        refine iteF ⟨_, rfl, p, _, _, _, rfl, rfl, hs2, atI_nat (j := 0) rfl, rfl, _, rfl, ?_⟩
        rw [show decide (V.str (Str.ofString Bo.df.s) = V.str "or") = false from wne "differ" "or" (by decide +kernel)]
        exact iteF ⟨_, rfl, st2.go (by decide +kernel) (by decide +kernel) (by decide +kernel) ⟨_, rfl, _, rfl, fin bne rfl⟩⟩
theorem cl_build (m : Nat) {f C : Addr} {fd : FuncData} (F : Fun K "_law_build" "_law_build" s__law_build f fd) (M : Mg mg) (g : mg "_law_build" = some (.ref f)) (b : Binds K fd ["store", "tree"] []) (c_Diagrams_there : ClM P w K mg base 2 C "there" (sp_there C K)) (c_Diagrams_conjunction : ClM P w K mg base (m + 3) C "conjunction" (sp_op2 C K m and)) (c_Diagrams_disjunction : ClM P w K mg base (m + 3) C "disjunction" (sp_op2 C K m or)) (c_Diagrams_negation : ClM P w K mg base (m + 3) C "negation" (sp_neg C K m)) (c_Diagrams_differs : ClM P w K mg base (m + 4) C "differs" (sp_op2 C K m bne)) :
    ∀ n, Cl P w K mg base (m + 4 + n) "_law_build" (sp_build C K m n)
  | 0 => FnOk.cl (P := P) (w := w) (base := base) (F.ok sc__law_build (fun vs H Q E h => by obtain ⟨s, N, es, L, v, t, rfl, _⟩ := h; rfl) (fun cdv A outer s H vs Q E hr h => by obtain ⟨s, N, es, L, v, t, rfl, st, hm, ok, hn, _⟩ := h; omega)) F g b
  | n + 1 => FnOk.cl (ok_build m n F M c_Diagrams_there c_Diagrams_conjunction c_Diagrams_disjunction c_Diagrams_negation c_Diagrams_differs (cl_build m F M g b c_Diagrams_there c_Diagrams_conjunction c_Diagrams_disjunction c_Diagrams_negation c_Diagrams_differs n)) F g b
theorem ok_subs {f : Addr} {fd : FuncData} (F : Fun K "_law_subsets" "_law_subsets" s__law_subsets f fd) (M : Mg mg) : FnOk P w K mg base CX0 1 f fd ["entries"] sp_subs := by
  refine F.ok sc__law_subsets (fun vs H Q E h => ?_) (fun cdv A outer s H vs Q E hr h => ?_)
  · obtain ⟨a, es, rfl, _⟩ := h
    rfl
  · obtain ⟨a, es, rfl, ha, hl, q⟩ := h
    refine ⟨_, (pss_cons (ps_set (i := 1) sc__law_subsets.nd rfl (.inl rfl) (pe_lst (pa_cons (pe_lst pa_nil) pa_nil)))
      (pss_cons (ps_for PassesOwn.never rfl (pi_list (pv 0)) (pg_name (i := 2) sc__law_subsets.nd rfl (.inr rfl)) (pss_one (ps_set (i := 1) sc__law_subsets.nd rfl (.inl rfl) (pe_op op_cat (pv 1) (pe_lc (own := [("part", 3)]) (g := gName 3) (tt := tYes) rfl sc__law_subsets.nd (pi_list (pv 1)) (blkOk_by (N := N__law_subsets) (sc := defScope s__law_subsets) (by decide +kernel)) (fun _ _ _ _ _ => (pg_name (i := 3) sc__law_subsets.nd rfl (.inl rfl))) (fun _ _ _ _ _ => pts_nil) (fun _ _ _ _ _ => (pe_op op_cat (pv 3) (pe_lst (pa_cons (pv 2) pa_nil)))))))))
      (pss_one (ps_ret (pv 1))))), ?_⟩
    refine ⟨by show 0 ≤ sizeLine; decide, fun p1 n1 => ?_⟩
    have s1 := same_upd n1 (o := .lst [])
    have e1 : (upd H p1 (.lst [])) p1 = some (.lst (([] : List Int).map V.int)) := upd_same
    generalize upd H p1 (.lst []) = H1 at s1 e1
    refine ⟨by show 1 ≤ sizeLine; decide, fun p2 n2 => ?_⟩
    have s2 := same_upd n2 (o := .lst [.ref p1])
    have e2 : (upd H1 p2 (.lst [.ref p1])) p2 = some (.lst ([p1].map V.ref)) := upd_same
    generalize upd H1 p2 (.lst [.ref p1]) = H2 at s2 e2
    refine ⟨_, rfl, a, rfl, ⟨_, .of ((s1.trans s2) _ _ ha)⟩, ?_⟩
    refine for_list (K := K) (a := a) (xs := es.map V.int) (fun i σ Hi => ∃ (p : Addr) (z y : Option V), σ = [some (.ref a), some (.ref p), z, y] ∧ Same H Hi ∧ H p = none ∧ LL Hi p (subs (es.take i))) ⟨p2, none, none, rfl, s1.trans s2, s1.free n2, [p1], e2, rfl, fun i b l hb hl => ?_⟩ (fun i σ Hi _ hp => by obtain ⟨p, z, y, rfl, si, _⟩ := hp; exact .of (si _ _ ha)) (fun i x σ Hi hx hp => ?_) (fun σ Hn hp => ?_)
    · match i, hb, hl with
      | 0, hb, hl =>
        cases hb
        cases hl
        exact s2 _ _ e1
      | i + 1, hb, _ => simp at hb
    · obtain ⟨p, z, y, rfl, si, np, ll⟩ := hp
      rw [List.getElem?_map] at hx
      obtain ⟨e, he, rfl⟩ := Option.map_eq_some_iff.mp hx
      have hi : i < es.length := (List.getElem?_eq_some_iff.mp he).1
      have et : es.take (i + 1) = es.take i ++ [e] := by rw [List.take_add_one, he]; rfl
      have lsub : (subs (es.take i)).length ≤ 1024 := by
        rw [subs_len, List.length_take]
        exact Nat.le_trans (Nat.pow_le_pow_right (by decide) (show min i es.length ≤ 10 by omega)) (by decide)
      obtain ⟨as, g1, g2, g3⟩ := id ll
      obtain ⟨as', k1, k2, k3⟩ := ll.get
      refine ⟨_, rfl, _, rfl, p, rfl, ⟨_, .of k1⟩, fun D nD => ?_⟩
      refine lc_list (K := K) (a := p) (xs := as'.map V.ref) (fun j Hj => Same Hi Hj ∧ LL Hj D ((subs (es.take i)).take j |>.map (· ++ [e]))) ⟨same_upd nD, [], upd_same, rfl, fun i b l hb _ => by simp at hb⟩ (fun j Hj _ hp => .of (hp.1 _ _ k1)) (fun j x Hj hx hp => ?_) (fun Hn hp => ?_)
      · obtain ⟨sj, cs, c1, c2, c3⟩ := hp
        obtain ⟨b, l, rfl, hl, hb⟩ := k3 j x hx
        have hj : j < (subs (es.take i)).length := (List.getElem?_eq_some_iff.mp hl).1
        refine ⟨rfl, ?_⟩
        refine ⟨_, rfl, _, rfl, by show 1 ≤ sizeLine; decide, fun q1 nq1 => ?_⟩
        have t1 := same_upd nq1 (o := .lst [.int e])
        have eq1 : (upd Hj q1 (.lst [.int e])) q1 = some (.lst [.int e]) := upd_same
        generalize upd Hj q1 (.lst [.int e]) = Hj1 at t1 eq1
        have ll1 : l.length ≤ 10 := by
          have := subs_le _ l (List.mem_of_getElem? hl)
          have h2 := this.1
          rw [List.length_take] at h2
          omega
        refine ⟨b, q1, _, _, rfl, rfl, (sj.trans t1) _ _ hb, eq1, by rw [List.length_map]; exact Nat.le_trans (m := 100) (by show _ + 1 ≤ 100; omega) (by decide), fun q2 nq2 => ?_⟩
        have t2 := same_upd nq2 (o := .lst (l.map V.int ++ [.int e]))
        have eq2 : (upd Hj1 q2 (.lst (l.map V.int ++ [.int e]))) q2 = some (.lst ((l ++ [e]).map V.int)) := by rw [upd_same, List.map_append]; rfl
        generalize upd Hj1 q2 (.lst (l.map V.int ++ [.int e])) = Hj2 at t2 eq2
        have sj2 := (sj.trans t1).trans t2
        have cD := (t1.trans t2) _ _ c1
        refine ⟨_, cD, ?_, ?_, ?_⟩
        · rw [List.length_map, c2, List.length_map, List.length_take]
          exact Nat.lt_of_le_of_lt (m := 1024) (by omega) (by decide)
        · intro x o hx'
          rw [upd_ne (ne_of_none hx' nD)]
          exact sj2 _ _ hx'
        · refine ⟨cs ++ [q2], by rw [upd_same, List.map_append]; rfl, ?_, fun i' b' l' hb' hl' => ?_⟩
          · rw [List.length_append, c2, List.take_add_one, hl, List.map_append, List.length_append]
            rfl
          · have lc : cs.length = j := by rw [c2, List.length_map, List.length_take]; omega
            have nbD : b' ≠ D := by
              by_cases hi' : i' < cs.length
              · rw [List.getElem?_append_left hi'] at hb'
                intro z
                subst z
                -- the new list's own address is not one of its items
                have := c3 i' b' _ hb' (List.getElem?_eq_getElem (by rw [← c2]; exact hi'))
                rw [c1] at this
                have e := HO.lst.inj (Option.some.inj this)
                cases cs with
                | nil => simp at hi'
                | cons c cs =>
                  rw [List.map_cons] at e
                  generalize (List.map (fun x => x ++ [_]) _)[i'] = w at e
                  cases w with
                  | nil => cases e
                  | cons w1 w2 => rw [List.map_cons] at e; exact nomatch (List.cons.inj e).1
              · rw [List.getElem?_append_right (by omega)] at hb'
                have : b' = q2 := by
                  cases h : i' - cs.length with
                  | zero => rw [h] at hb'; exact (Option.some.inj hb').symm
                  | succ k => rw [h] at hb'; simp at hb'
                subst this
                exact (ne_of_none (t1 _ _ c1) nq2).symm
            rw [upd_ne nbD]
            rw [List.take_add_one, hl, List.map_append] at hl'
            by_cases hi' : i' < cs.length
            · rw [List.getElem?_append_left hi'] at hb'
              rw [List.getElem?_append_left (by rw [← c2]; exact hi')] at hl'
              exact (t1.trans t2) _ _ (c3 i' b' l' hb' hl')
            · rw [List.getElem?_append_right (by omega)] at hb'
              rw [List.getElem?_append_right (by rw [← c2]; omega), ← c2] at hl'
              cases h : i' - cs.length with
              | zero =>
                rw [h] at hb' hl'
                have e1 : q2 = b' := Option.some.inj hb'
                have e2 : l ++ [e] = l' := Option.some.inj hl'
                subst e1 e2
                exact eq2
              | succ k => rw [h] at hb'; simp at hb'
      · obtain ⟨sn, ll2⟩ := hp
        have el : (as'.map V.ref).length = (subs (es.take i)).length := by rw [List.length_map, k2]
        rw [el, List.take_of_length_le (Nat.le_refl _)] at ll2
        obtain ⟨bs, b1, b2, b3⟩ := id ll2
        refine ⟨p, D, _, _, rfl, rfl, sn _ _ k1, b1, ?_, fun q' nq' => ?_⟩
        · rw [List.length_map, List.length_map, k2, b2, List.length_map]
          exact Nat.le_trans (m := 2048) (by omega) (by decide)
        · refine ⟨q', _, _, rfl, (si.trans sn).trans (same_upd nq'), (si.trans sn).free nq', ?_⟩
          rw [et, subs_snoc]
          exact LL.app (q := q') nq' (ll.ext sn) ll2 (sn _ _ k1) b1
    · obtain ⟨p, z, y, rfl, si, np, ll⟩ := hp
      rw [List.length_map, List.take_of_length_le (Nat.le_refl _)] at ll
      exact ⟨_, rfl, q Hn p si np ll⟩
end

/-! ### lists of numbers and of truth values as data -/
theorem dpa_map {K : PySem.W.Frag} {H : Hp} {α : Type} (f : α → V) (g : α → PyData) (h : ∀ a, Dp K H (f a) (g a)) : ∀ l : List α, DpAll K H (l.map f) (l.map g)
  | [] => .nil
  | a :: l => .cons (h a) (dpa_map f g h l)
theorem dp_ints {K : PySem.W.Frag} {H : Hp} {a : Addr} {ps : List Int} (h : SqL K H a (ps.map V.int)) : Dp K H (.ref a) (.list (ps.map PyData.int)) := .lst h (dpa_map _ _ (fun i => .int i) ps)
theorem dp_bls {K : PySem.W.Frag} {H : Hp} {a : Addr} {ps : List Bool} (h : SqL K H a (ps.map V.bl)) : Dp K H (.ref a) (.list (ps.map PyData.bool)) := .lst h (dpa_map _ _ (fun i => .bl i) ps)
theorem flat_shaped {α : Type} (g : α → PyData) (h1 : ∀ a, PyData.canLay0 (g a) = true) (h2 : ∀ a, PyData.depth (g a) = 0) (l : List α) : SeqAt.shaped (.list (l.map g)) = true := by
  have e1 : PyData.canLayAll0 (l.map g) = true := by
    induction l with
    | nil => rfl
    | cons x xs ih =>
      rw [List.map_cons]
      unfold PyData.canLayAll0
      rw [ih, h1]
      rfl
  have e2 : PyData.depthAll (l.map g) = 0 := by
    clear e1
    induction l with
    | nil => rfl
    | cons x xs ih =>
      rw [List.map_cons]
      unfold PyData.depthAll
      rw [ih, h2]
      rfl
  unfold SeqAt.shaped
  rw [Bool.and_eq_true]
  refine ⟨by unfold PyData.canLay0; exact e1, decide_eq_true ?_⟩
  unfold PyData.depth
  omega
theorem ints_shaped (l : List Int) : SeqAt.shaped (.list (l.map PyData.int)) = true := flat_shaped _ (fun _ => rfl) (fun _ => rfl) l
theorem bls_shaped (l : List Bool) : SeqAt.shaped (.list (l.map PyData.bool)) = true := flat_shaped _ (fun _ => rfl) (fun _ => rfl) l
theorem ints_eqv (l : List Int) : PyData.eqv (.list (l.map PyData.int)) (.list (l.map PyData.int)) = true := SeqAt.eqv_refl _ (SeqAt.canLay_of_shaped (ints_shaped l))
theorem Sto.fd {C : Addr} {K : PySem.W.Frag} {H H' : Hp} {s : SA} {N : Nds} {es : List Int} {L : Nat} {d : Addr} (st : Sto C K H s N es L) (hd : ∃ zs, H d = some (.lst zs)) (n : d ≠ s.k) (f : Fd d H H') : Sto C K H' s N es L := by
  obtain ⟨⟨dx, h1⟩, ⟨xs, h2, h3⟩, ⟨kvs, h4, h5⟩, ⟨cvs, h6, h7⟩, h8⟩ := st
  obtain ⟨zs, hz⟩ := hd
  exact ⟨⟨dx, f _ _ (ne_of h1 hz (fun z => nomatch z)) h1⟩, ⟨xs, f _ _ n.symm h2, DpAll.fd ⟨zs, hz⟩ f _ _ (nD_only _) h3⟩, ⟨kvs, f _ _ (ne_of h4 hz (fun z => nomatch z)) h4, h5⟩, ⟨cvs, f _ _ (ne_of h6 hz (fun z => nomatch z)) h6, h7⟩, h8⟩
theorem andV {c b : Bool} {i : Nat} {σ : L2.St} {H : Hp} {Q : VK} (hs : σ[i]? = some (some (.bl b))) (h : Q (.bl (c && b)) H) : if c = true then tVar i σ H Q else Q (.bl false) H := by
  cases c with
  | true => exact iteT ⟨_, hs, h⟩
  | false => exact iteF h
theorem orV {c b : Bool} {i : Nat} {σ : L2.St} {H : Hp} {Q : VK} (hs : σ[i]? = some (some (.bl b))) (h : Q (.bl (c || b)) H) : if c = true then Q (.bl true) H else tVar i σ H Q := by
  cases c with
  | true => exact iteT h
  | false => exact iteF ⟨_, hs, h⟩
theorem bne_dec (a b : Bool) : (!decide (V.bl a = V.bl b)) = bne a b := by cases a <;> cases b <;> rfl
/-- the store made, beside what was there -/
theorem made_same {p dx C : Addr} {H H' : Hp} (np : H p = none) (nd : H dx = none) (f : Fd p (upd (upd H dx (.own p)) p (.ins C dx [])) H') : Same H H' := fun b o e => by
  have h1 : b ≠ p := ne_of_none e np
  have h2 : b ≠ dx := ne_of_none e nd
  refine f b o h1 ?_
  rw [upd_ne h1, upd_ne h2]
  exact e
theorem made_free {p dx C k : Addr} {H : Hp} (h : (upd (upd H dx (.own p)) p (.ins C dx [])) k = none) : H k = none := by
  by_cases h1 : k = p
  · subst h1
    rw [upd_same] at h
    cases h
  by_cases h2 : k = dx
  · subst h2
    rw [upd_ne h1, upd_same] at h
    cases h
  rw [upd_ne h1, upd_ne h2] at h
  exact h
/-- what stood before the store was made stands behind all its operations -/
theorem FdS.same {s : SA} {H0 H H' : Hp} (h : Same H0 H) (nk : H0 s.k = none) (nu : H0 s.u = none) (nm : H0 s.m = none) (f : FdS s H H') : Same H0 H' := fun b o e => f b o (ne_of_none e nk) (ne_of_none e nu) (ne_of_none e nm) (h b o e)

/-! ### two data that are the same -/
/-- data of some depth, their lists not too long -/
inductive Sh : Nat → PyData → Prop
  | non {n : Nat} : Sh n .none
  | bl {n : Nat} (b : Bool) : Sh n (.bool b)
  | int {n : Nat} (i : Int) : Sh n (.int i)
  | str {n : Nat} (x : Str) : Sh n (.str x)
  | lst {n : Nat} {ds : List PyData} (l : ds.length ≤ 100000) (h : ∀ d ∈ ds, Sh n d) : Sh (n + 1) (.list ds)
  | tup {n : Nat} {ds : List PyData} (l : ds.length ≤ 100000) (h : ∀ d ∈ ds, Sh n d) : Sh (n + 1) (.tuple ds)
def tnm : PyData → String
  | .none => "NoneType"
  | .bool _ => "bool"
  | .int _ => "int"
  | .str _ => "str"
  | .list _ => "list"
  | .tuple _ => "tuple"
  | .dict _ => "dict"
theorem tyD {K : PySem.W.Frag} {H : Hp} {v : V} {d : PyData} (h : Dp K H v d) : TyX K H v (.type (tnm d)) := by
  cases h with
  | non => exact .base .non
  | bl b => exact .base (.bl b)
  | int i => exact .base (.int i)
  | str x => exact .base (.str x)
  | lst hs _ => exact tyL hs
  | tup hs _ => exact tyT hs
theorem k_any2 {K : PySem.W.Frag} {tn c1 c2 : String} {r1 r2 : Bool} (h1 : kitB tn c1 = some r1) (h2 : kitB tn c2 = some r2) : PySem.W.kitAny K (.type tn) [.type c1, .type c2] = some (r1 || r2) :=
  kitAny_cons (kit_ty h1) (fun e => by
    rw [e, Bool.false_or]
    exact kitAny_cons (b := r2) (kit_ty h2) (fun e2 => by rw [e2]; exact kitAny_nil) (fun e2 => e2)) (fun e => by rw [e, Bool.true_or])
theorem rep_bl (n : Nat) : (List.replicate n true).all id = true := by
  rw [List.all_replicate]
  simp
def sp_same (K : PySem.W.Frag) (n : Nat) : Sp := fun vs H Q _ => ∃ (x y : V) (D : PyData) (m : Nat), n = m + 1 ∧ vs = [x, y] ∧ Sh m D ∧ Dp K H x D ∧ Dp K H y D ∧ ∀ H', Same H H' → Q (.bl true) H'
section
variable {P : Program} {w : World} {K : PySem.W.Frag} {mg : Str → Option Value} {base : Heap}
theorem ok_same {f : Addr} {fd : FuncData} {n l : Nat} (F : Fun K "_law_same" "_law_same" s__law_same f fd) (M : Mg mg) (c__law_same : Cl P w K mg base l "_law_same" (sp_same K n)) : FnOk P w K mg base CX0 (l + 1) f fd ["actual", "due"] (sp_same K (n + 1)) := by
  refine F.ok sc__law_same (fun vs H Q E h => ?_) (fun cdv A outer s H vs Q E hr h => ?_)
  · obtain ⟨x, y, D, m, _, rfl, _⟩ := h
    rfl
  · obtain ⟨x, y, D, m, em, rfl, sh, hx, hy, q⟩ := h
    refine ⟨_, (pss_cons (ps_if (pt_val (pe_callB (isiTK K) (by rfl) M.isinstance (by decide +kernel) (pa_cons (pv 1) (pa_cons (pe_tup (pa_cons (pe_bltn (v := .ty "list") (by rfl) M.list (by decide +kernel) rfl) (pa_cons (pe_bltn (v := .ty "tuple") (by rfl) M.tuple (by decide +kernel) rfl) pa_nil))) pa_nil)))) (pss_cons (ps_if (PW.pt (pw_or (pt_cmpR op_ne (pe_callB (isiK K) (by rfl) M.isinstance (by decide +kernel) (pa_cons (pv 1) (pa_cons (pe_bltn (v := .ty "list") (by rfl) M.list (by decide +kernel) rfl) pa_nil))) (pe_callB (isiK K) (by rfl) M.isinstance (by decide +kernel) (pa_cons (pv 0) (pa_cons (pe_bltn (v := .ty "list") (by rfl) M.list (by decide +kernel) rfl) pa_nil))) (nomark _)) (pw_or1 (pt_cmpR op_ne (pe_callB (isiK K) (by rfl) M.isinstance (by decide +kernel) (pa_cons (pv 1) (pa_cons (pe_bltn (v := .ty "tuple") (by rfl) M.tuple (by decide +kernel) rfl) pa_nil))) (pe_callB (isiK K) (by rfl) M.isinstance (by decide +kernel) (pa_cons (pv 0) (pa_cons (pe_bltn (v := .ty "tuple") (by rfl) M.tuple (by decide +kernel) rfl) pa_nil))) (nomark _))))) (pss_one (ps_ret pe_bl)) pss_nil)
      (pss_cons (ps_if (pt_cmpR op_ne (pe_callB (len_seqK K) (by rfl) M.len PySem.boot_len (pa_cons (pv 0) pa_nil)) (pe_callB (len_seqK K) (by rfl) M.len PySem.boot_len (pa_cons (pv 1) pa_nil)) (nomark _)) (pss_one (ps_ret pe_bl)) pss_nil)
      (pss_one (ps_ret (pe_callB (allK K rfl) (by rfl) M.all (by decide +kernel) (pa_cons (pe_lc (own := [("k", 2)]) (g := gName 2) (tt := tYes) rfl sc__law_same.nd (pi_range1 (by rfl) M.range (pa_cons (pe_callB (len_seqK K) (by rfl) M.len PySem.boot_len (pa_cons (pv 1) pa_nil)) pa_nil)) (blkOk_by (N := N__law_same) (sc := defScope s__law_same) (by decide +kernel)) (fun _ _ _ _ _ => (pg_name (i := 2) sc__law_same.nd rfl (.inl rfl))) (fun _ _ _ _ _ => pts_nil) (fun _ _ _ _ _ => (pe_u c__law_same hr (by first | decide | omega) (by rfl) (pa_cons (pe_ix (ix_seqK K) (pv 0) (pv 2) (fun _ _ => rfl)) (pa_cons (pe_ix (ix_seqK K) (pv 1) (pv 2) (fun _ _ => rfl)) pa_nil))))) pa_nil)))))) pss_nil)
      (pss_cons (ps_if (pt_cmpR op_isN (pv 1) pe_non (nomark _)) (pss_one (ps_ret (pe_cmpR op_isN (pv 0) pe_non (nomark _)))) pss_nil)
      (pss_cons (ps_if (pt_cmpR op_ne (pe_callB (isiK K) (by rfl) M.isinstance (by decide +kernel) (pa_cons (pv 1) (pa_cons (pe_bltn (v := .ty "bool") (by rfl) M.bool (by decide +kernel) rfl) pa_nil))) (pe_callB (isiK K) (by rfl) M.isinstance (by decide +kernel) (pa_cons (pv 0) (pa_cons (pe_bltn (v := .ty "bool") (by rfl) M.bool (by decide +kernel) rfl) pa_nil))) (nomark _)) (pss_one (ps_ret pe_bl)) pss_nil)
      (pss_cons (ps_if (pt_val (pe_callB (isiK K) (by rfl) M.isinstance (by decide +kernel) (pa_cons (pv 1) (pa_cons (pe_bltn (v := .ty "str") (by rfl) M.str (by decide +kernel) rfl) pa_nil)))) (pss_one (ps_ret (pe_and (pe_callB (isiK K) (by rfl) M.isinstance (by decide +kernel) (pa_cons (pv 0) (pa_cons (pe_bltn (v := .ty "str") (by rfl) M.str (by decide +kernel) rfl) pa_nil))) (pe_one (pe_cmpR op_eq (pv 0) (pv 1) (nomark _)))))) pss_nil)
      (pss_one (ps_ret (pe_and (pe_callB (isiK K) (by rfl) M.isinstance (by decide +kernel) (pa_cons (pv 0) (pa_cons (pe_bltn (v := .ty "int") (by rfl) M.int (by decide +kernel) rfl) pa_nil))) (pe_one (pe_cmpR op_eq (pv 0) (pv 1) (nomark _)))))))))), ?_⟩
    refine ⟨_, rfl, by show 2 ≤ sizeLine; decide, fun p np => ?_⟩
    have s1 : Same H (upd H p (.tup [.ty "list", .ty "tuple"])) := same_upd np
    have h1 : (upd H p (.tup [.ty "list", .ty "tuple"])) p = some (.tup [.ty "list", .ty "tuple"]) := upd_same
    generalize upd H p (.tup [.ty "list", .ty "tuple"]) = H1 at s1 h1
    have hx1 := Dp.ext s1 D x hx
    have hy1 := Dp.ext s1 D y hy
    have key : (∃ (a b : Addr) (xs ys : List V) (ds : List PyData) (k : Nat) (tn : String) (r1 r2 : Bool), x = .ref a ∧ y = .ref b ∧ (SqL K H1 a xs ∧ SqL K H1 b ys ∨ SqT K H1 a xs ∧ SqT K H1 b ys) ∧ DpAll K H1 xs ds ∧ DpAll K H1 ys ds ∧ ds.length ≤ 100000 ∧ m = k + 1 ∧ (∀ d ∈ ds, Sh k d) ∧
        TyX K H1 x (.type tn) ∧ TyX K H1 y (.type tn) ∧ kitB tn "list" = some r1 ∧ kitB tn "tuple" = some r2 ∧ (r1 || r2) = true) ∨
        (∃ (tn : String), TyX K H1 x (.type tn) ∧ TyX K H1 y (.type tn) ∧ kitB tn "list" = some false ∧ kitB tn "tuple" = some false ∧ (x = .non ∧ y = .non ∨ (∃ b, x = .bl b ∧ y = .bl b ∧ tn = "bool") ∨ (∃ i, x = .int i ∧ y = .int i ∧ tn = "int") ∨ (∃ z, x = .str z ∧ y = .str z ∧ tn = "str"))) := by
      cases sh with
      | non => cases hx1; cases hy1; exact .inr ⟨"NoneType", .base .non, .base .non, by decide +kernel, by decide +kernel, .inl ⟨rfl, rfl⟩⟩
      | bl b => cases hx1; cases hy1; exact .inr ⟨"bool", .base (.bl b), .base (.bl b), by decide +kernel, by decide +kernel, .inr (.inl ⟨b, rfl, rfl, rfl⟩)⟩
      | int i => cases hx1; cases hy1; exact .inr ⟨"int", .base (.int i), .base (.int i), by decide +kernel, by decide +kernel, .inr (.inr (.inl ⟨i, rfl, rfl, rfl⟩))⟩
      | str z => cases hx1; cases hy1; exact .inr ⟨"str", .base (.str z), .base (.str z), by decide +kernel, by decide +kernel, .inr (.inr (.inr ⟨z, rfl, rfl, rfl⟩))⟩
      | lst l h =>
        cases hx1 with
        | lst hs ha =>
          cases hy1 with
          | lst hs' ha' => exact .inl ⟨_, _, _, _, _, _, "list", true, false, rfl, rfl, .inl ⟨hs, hs'⟩, ha, ha', l, rfl, h, tyL hs, tyL hs', by decide +kernel, by decide +kernel, rfl⟩
      | tup l h =>
        cases hx1 with
        | tup hs ha =>
          cases hy1 with
          | tup hs' ha' => exact .inl ⟨_, _, _, _, _, _, "tuple", false, true, rfl, rfl, .inr ⟨hs, hs'⟩, ha, ha', l, rfl, h, tyT hs, tyT hs', by decide +kernel, by decide +kernel, rfl⟩
    rcases key with ⟨a, b, xs, ys, ds, k, tn, r1, r2, rfl, rfl, hq, ha, hb, hl, ek, hk, tx, ty, k1, k2, kr⟩ | ⟨tn, tx, ty, k1, k2, hs⟩
    · -- a list or a tuple
      have ex := DpAll.len ha
      have ey := DpAll.len hb
      have hqa : SqL K H1 a xs ∨ SqT K H1 a xs := hq.elim (fun z => .inl z.1) (fun z => .inr z.1)
      have hqb : SqL K H1 b ys ∨ SqT K H1 b ys := hq.elim (fun z => .inl z.2) (fun z => .inr z.2)
      refine ⟨_, _, _, _, _, _, rfl, h1, .cons (.ty _) (.cons (.ty _) .nil), ty, k_any2 k1 k2, ?_⟩
      refine ⟨_, rfl, ?_⟩
      rw [kr]
      refine iteT ?_
      -- the kinds
      refine ⟨_, rfl, ⟨_, _, _, _, _, rfl, .ty _, ty, kit_ty k1, _, rfl, ⟨_, _, _, _, _, rfl, .ty _, tx, kit_ty k1, rfl, _, rfl, ?_⟩⟩⟩
      rw [decide_eq_true (rfl : V.bl r1 = V.bl r1)]
      refine iteF ?_
      refine ⟨_, rfl, ⟨_, _, _, _, _, rfl, .ty _, ty, kit_ty k2, _, rfl, ⟨_, _, _, _, _, rfl, .ty _, tx, kit_ty k2, rfl, _, rfl, ?_⟩⟩⟩
      rw [decide_eq_true (rfl : V.bl r2 = V.bl r2)]
      refine iteF ?_
      -- the lengths
      refine ⟨_, rfl, a, xs, rfl, hqa, ⟨_, rfl, b, ys, rfl, hqb, rfl, _, rfl, ?_⟩⟩
      rw [ex, ey, decide_eq_true (rfl : V.int (ds.length : Int) = V.int (ds.length : Int))]
      refine iteF ?_
      -- by places
      refine ⟨_, rfl, b, ys, rfl, hqb, _, rfl, by omega, by omega, fun D nD => ?_⟩
      rw [ey]
      refine lc_range (lo := 0) (n := ((ds.length : Nat) : Int).toNat) (fun i Hi => Same H1 Hi ∧ Hi D = some (.lst ((List.replicate i true).map V.bl))) ⟨same_upd nD, upd_same⟩ (fun i Hi hi hp => ?_) (fun Hn hp => ?_)
      · obtain ⟨si, eD⟩ := hp
        have hi2 : i < ds.length := by omega
        obtain ⟨va, hva, da⟩ := DpAll.get (DpAll.ext si ds xs ha) (List.getElem?_eq_getElem hi2)
        obtain ⟨vb, hvb, db⟩ := DpAll.get (DpAll.ext si ds ys hb) (List.getElem?_eq_getElem hi2)
        have ia : rIx K (.ref a) (.int (0 + (i : Int))) Hi = rIx K (.ref a) (.int (0 + (i : Int))) Hi := rfl
        refine ⟨rfl, ?_⟩
        have go : ∀ (c : Addr) (zs : List V) (v : V) (Q : VK), (SqL K H1 c zs ∨ SqT K H1 c zs) → zs[i]? = some v → Q v Hi → rIx K (.ref c) (.int (0 + (i : Int))) Hi Q := fun c zs v Q hz hv hQ => by
          rcases hz with hz | hz
          · exact .inl ⟨c, zs, _, v, rfl, rfl, si.seq hz, at_0 hv, hQ⟩
          · exact .inr (.inl ⟨c, zs, _, v, rfl, rfl, SqT.ext si hz, at_0 hv, hQ⟩)
        refine ⟨_, rfl, _, rfl, go a xs va _ hqa hva ⟨_, rfl, _, rfl, go b ys vb _ hqb hvb ?_⟩⟩
        refine ⟨va, vb, ds[i], k, by omega, rfl, hk _ (List.getElem_mem hi2), da, db, fun H' s' => ?_⟩
        refine ⟨_, s' _ _ eD, ?_, fun b o e => ?_, ?_⟩
        · rw [List.length_map, List.length_replicate]
          exact Nat.lt_of_lt_of_le (m := 100000) (by omega) (by decide)
        · have nb : b ≠ D := ne_of_none e nD
          rw [upd_ne nb]
          exact s' _ _ (si _ _ e)
        · rw [upd_same, List.replicate_succ', List.map_append]
          rfl
      · obtain ⟨si, eD⟩ := hp
        refine ⟨D, _, rfl, .of eD, ?_⟩
        rw [rep_bl]
        exact q _ (s1.trans si)
    · -- neither
      refine ⟨_, _, _, _, _, _, rfl, h1, .cons (.ty _) (.cons (.ty _) .nil), ty, k_any2 k1 k2, ?_⟩
      refine ⟨_, rfl, iteF ?_⟩
      rcases hs with ⟨rfl, rfl⟩ | ⟨b, rfl, rfl, rfl⟩ | ⟨i, rfl, rfl, rfl⟩ | ⟨z, rfl, rfl, rfl⟩
      · -- None
        refine ⟨_, rfl, rfl, _, rfl, iteT ?_⟩
        refine ⟨_, rfl, rfl, ?_⟩
        exact q _ s1
      · refine ⟨_, rfl, rfl, _, rfl, iteF ?_⟩
        refine ⟨_, rfl, ⟨_, _, _, _, _, rfl, .ty _, ty, kit_ty (show kitB _ _ = some true by decide +kernel), _, rfl, ⟨_, _, _, _, _, rfl, .ty _, tx, kit_ty (show kitB _ _ = some true by decide +kernel), rfl, _, rfl, iteF ?_⟩⟩⟩
        refine ⟨_, rfl, ⟨_, _, _, _, _, rfl, .ty _, ty, kit_ty (show kitB _ _ = some false by decide +kernel), _, rfl, iteF ?_⟩⟩
        refine ⟨_, rfl, ⟨_, _, _, _, _, rfl, .ty _, tx, kit_ty (show kitB _ _ = some true by decide +kernel), _, rfl, iteT ?_⟩⟩
        refine ⟨_, rfl, _, rfl, by cases b <;> rfl, ?_⟩
        rw [decide_eq_true (rfl : V.bl b = V.bl b)]
        exact q _ s1
      · refine ⟨_, rfl, rfl, _, rfl, iteF ?_⟩
        refine ⟨_, rfl, ⟨_, _, _, _, _, rfl, .ty _, ty, kit_ty (show kitB _ _ = some false by decide +kernel), _, rfl, ⟨_, _, _, _, _, rfl, .ty _, tx, kit_ty (show kitB _ _ = some false by decide +kernel), rfl, _, rfl, iteF ?_⟩⟩⟩
        refine ⟨_, rfl, ⟨_, _, _, _, _, rfl, .ty _, ty, kit_ty (show kitB _ _ = some false by decide +kernel), _, rfl, iteF ?_⟩⟩
        refine ⟨_, rfl, ⟨_, _, _, _, _, rfl, .ty _, tx, kit_ty (show kitB _ _ = some true by decide +kernel), _, rfl, iteT ?_⟩⟩
        refine ⟨_, rfl, _, rfl, rfl, ?_⟩
        rw [decide_eq_true (rfl : V.int i = V.int i)]
        exact q _ s1
      · refine ⟨_, rfl, rfl, _, rfl, iteF ?_⟩
        refine ⟨_, rfl, ⟨_, _, _, _, _, rfl, .ty _, ty, kit_ty (show kitB _ _ = some false by decide +kernel), _, rfl, ⟨_, _, _, _, _, rfl, .ty _, tx, kit_ty (show kitB _ _ = some false by decide +kernel), rfl, _, rfl, iteF ?_⟩⟩⟩
        refine ⟨_, rfl, ⟨_, _, _, _, _, rfl, .ty _, ty, kit_ty (show kitB _ _ = some true by decide +kernel), _, rfl, iteT ?_⟩⟩
        refine ⟨_, rfl, ⟨_, _, _, _, _, rfl, .ty _, tx, kit_ty (show kitB _ _ = some true by decide +kernel), _, rfl, iteT ?_⟩⟩
        refine ⟨_, rfl, _, rfl, rfl, ?_⟩
        rw [decide_eq_true (rfl : V.str z = V.str z)]
        exact q _ s1
/-- no data at all: where the recursion ends -/
theorem ok_same0 {f : Addr} {fd : FuncData} (F : Fun K "_law_same" "_law_same" s__law_same f fd) : FnOk P w K mg base CX0 1 f fd ["actual", "due"] (sp_same K 0) := by
  refine F.ok sc__law_same (fun vs H Q E h => ?_) (fun cdv A outer s H vs Q E hr h => ?_)
  · obtain ⟨x, y, D, m, e, _⟩ := h
    exact absurd e (by omega)
  · obtain ⟨x, y, D, m, e, _⟩ := h
    exact absurd e (by omega)
/-- of any depth -/
theorem cl_same {f : Addr} {fd : FuncData} (F : Fun K "_law_same" "_law_same" s__law_same f fd) (M : Mg mg) (g : mg "_law_same" = some (.ref f)) (b : Binds K fd ["actual", "due"] []) : ∀ n : Nat, Cl P w K mg base (n + 1) "_law_same" (sp_same K n)
  | 0 => FnOk.cl (ok_same0 F) F g b
  | n + 1 => FnOk.cl (ok_same F M (cl_same F M g b n)) F g b
end

/-! ### the nodes of diagrams in their order -/
def Bd.sz : Bd → Nat
  | .lf _ => 0
  | .nd _ w t => w.sz + t.sz + 1
def knw (acc : List Bd) : Bd → Bool
  | .lf _ => true
  | a => decide (a ∈ acc)
/-- all of one side, all of the other, then the node: what is known already is passed over -/
def post : List Bd → Bd → List Bd
  | acc, .lf _ => acc
  | acc, .nd e w t => if Bd.nd e w t ∈ acc then acc else post (post acc w) t ++ [.nd e w t]
def Clo (acc : List Bd) : Prop := ∀ e w t, Bd.nd e w t ∈ acc → knw acc w = true ∧ knw acc t = true
theorem knw_nd {acc : List Bd} {e : Int} {w t : Bd} : knw acc (.nd e w t) = true ↔ Bd.nd e w t ∈ acc := by
  unfold knw
  exact decide_eq_true_iff
theorem post_knw {acc : List Bd} {a : Bd} (h : knw acc a = true) : post acc a = acc := by
  cases a with
  | lf b => rfl
  | nd e w t => unfold post; exact if_pos (knw_nd.mp h)
theorem post_pre : ∀ (a : Bd) (acc : List Bd), acc <+: post acc a
  | .lf _, acc => List.prefix_refl acc
  | .nd e w t, acc => by
    unfold post
    split
    · exact List.prefix_refl acc
    · exact ((post_pre w acc).trans (post_pre t _)).trans (List.prefix_append _ _)
theorem knw_pre {acc bcc : List Bd} (h : acc <+: bcc) {a : Bd} (k : knw acc a = true) : knw bcc a = true := by
  cases a with
  | lf b => rfl
  | nd e w t => exact knw_nd.mpr (h.subset (knw_nd.mp k))
theorem post_self : ∀ (a : Bd) (acc : List Bd), knw (post acc a) a = true
  | .lf _, _ => rfl
  | .nd e w t, acc => by
    rw [knw_nd]
    unfold post
    split
    · assumption
    · exact List.mem_append_right _ (List.mem_singleton.mpr rfl)
theorem post_mem : ∀ (a : Bd) (acc : List Bd) (b : Bd), b ∈ post acc a → b ∈ acc ∨ b.sz ≤ a.sz
  | .lf _, acc, b, h => .inl h
  | .nd e w t, acc, b, h => by
    unfold post at h
    split at h
    · exact .inl h
    · rcases List.mem_append.mp h with h | h
      · rcases post_mem t _ b h with h | h
        · rcases post_mem w acc b h with h | h
          · exact .inl h
          · right; show _ ≤ w.sz + t.sz + 1; omega
        · right; show _ ≤ w.sz + t.sz + 1; omega
      · rw [List.mem_singleton.mp h]
        exact .inr (Nat.le_refl _)
theorem post_new {e : Int} {w t : Bd} {acc : List Bd} (h : Bd.nd e w t ∉ acc) : Bd.nd e w t ∉ post (post acc w) t := by
  intro z
  rcases post_mem t _ _ z with z | z
  · rcases post_mem w _ _ z with z | z
    · exact h z
    · have : w.sz + t.sz + 1 ≤ w.sz := z
      omega
  · have : w.sz + t.sz + 1 ≤ t.sz := z
    omega
theorem post_nd {e : Int} {w t : Bd} {acc : List Bd} (h : Bd.nd e w t ∉ acc) : post acc (.nd e w t) = post (post acc w) t ++ [.nd e w t] := by
  rw [post]
  exact if_neg h
/-- once more behind its sides -/
theorem post_again {e : Int} {w t : Bd} {acc : List Bd} (h : Bd.nd e w t ∉ acc) : post (post (post acc w) t) (.nd e w t) = post acc (.nd e w t) := by
  have k1 : knw (post (post acc w) t) w = true := knw_pre (post_pre t _) (post_self w acc)
  have k2 : knw (post (post acc w) t) t = true := post_self t _
  rw [post_nd (post_new h), post_nd h, post_knw k1, post_knw k2]
theorem post_clo : ∀ (a : Bd) (acc : List Bd), Clo acc → Clo (post acc a)
  | .lf _, _, h => h
  | .nd e w t, acc, h => by
    unfold post
    split
    · exact h
    · have h2 := post_clo t _ (post_clo w acc h)
      have k1 : knw (post (post acc w) t) w = true := knw_pre (post_pre t _) (post_self w acc)
      have k2 : knw (post (post acc w) t) t = true := post_self t _
      intro e' w' t' hm
      rcases List.mem_append.mp hm with hm | hm
      · obtain ⟨g1, g2⟩ := h2 _ _ _ hm
        exact ⟨knw_pre (List.prefix_append _ _) g1, knw_pre (List.prefix_append _ _) g2⟩
      · rw [List.mem_singleton] at hm
        cases hm
        exact ⟨knw_pre (List.prefix_append _ _) k1, knw_pre (List.prefix_append _ _) k2⟩
theorem post_nodup : ∀ (a : Bd) (acc : List Bd), acc.Nodup → (post acc a).Nodup
  | .lf _, _, h => h
  | .nd e w t, acc, h => by
    unfold post
    split
    · exact h
    · rename_i hn
      rw [List.nodup_append]
      refine ⟨post_nodup t _ (post_nodup w acc h), List.nodup_cons.mpr ⟨List.not_mem_nil, List.nodup_nil⟩, fun x hx y hy z => ?_⟩
      rw [List.mem_singleton] at hy
      subst z hy
      exact post_new hn hx
/-- how many turns of the loop -/
def itn : List Bd → Bd → Nat
  | _, .lf _ => 1
  | acc, .nd e w t => if Bd.nd e w t ∈ acc then 1 else if (knw acc w && knw acc t) = true then 2 else 3 + (if knw acc w = true then 0 else itn acc w) + (if knw acc t = true then 0 else itn (post acc w) t)
def itns : List Bd → List Bd → Nat
  | _, [] => 0
  | acc, a :: as => itn acc a + itns (post acc a) as
theorem itn_knw {acc : List Bd} {a : Bd} (h : knw acc a = true) : itn acc a = 1 := by
  cases a with
  | lf b => rfl
  | nd e w t => unfold itn; exact if_pos (knw_nd.mp h)
/-- what is put on the pile -/
def wts (acc : List Bd) (w t : Bd) : List Bd := (if knw acc w = true then [] else [w]) ++ (if knw acc t = true then [] else [t])
theorem wts_nil {acc : List Bd} {w t : Bd} : wts acc w t = [] ↔ knw acc w = true ∧ knw acc t = true := by
  unfold wts
  cases knw acc w <;> cases knw acc t <;> simp
theorem foldl_wts {acc : List Bd} {w t : Bd} : (wts acc w t).foldl post acc = post (post acc w) t := by
  unfold wts
  by_cases h1 : knw acc w = true
  · rw [if_pos h1, post_knw h1]
    by_cases h2 : knw acc t = true
    · rw [if_pos h2, post_knw h2]
      rfl
    · rw [if_neg h2]
      rfl
  · rw [if_neg h1]
    by_cases h2 : knw acc t = true
    · rw [if_pos h2, post_knw (knw_pre (post_pre w acc) h2)]
      rfl
    · rw [if_neg h2]
      rfl
theorem itns_app : ∀ (as bs : List Bd) (acc : List Bd), itns acc (as ++ bs) = itns acc as + itns (as.foldl post acc) bs
  | [], bs, acc => by rw [List.nil_append]; show _ = 0 + _; rw [Nat.zero_add]; rfl
  | a :: as, bs, acc => by
    rw [List.cons_append]
    show itn acc a + itns (post acc a) (as ++ bs) = itn acc a + itns (post acc a) as + _
    rw [itns_app as bs, List.foldl_cons, Nat.add_assoc]
theorem itns_push {acc : List Bd} {e : Int} {w t : Bd} {as : List Bd} (h : Bd.nd e w t ∉ acc) (hw : wts acc w t ≠ []) : itns acc (wts acc w t ++ .nd e w t :: as) + 1 = itns acc (.nd e w t :: as) ∧ (wts acc w t ++ .nd e w t :: as).foldl post acc = (Bd.nd e w t :: as).foldl post acc := by
  have hk : ¬ (knw acc w && knw acc t) = true := fun z => hw (wts_nil.mpr (by rw [Bool.and_eq_true] at z; exact z))
  constructor
  · rw [itns_app, foldl_wts]
    have k1 : knw (post (post acc w) t) w = true := knw_pre (post_pre t _) (post_self w acc)
    have k2 : knw (post (post acc w) t) t = true := post_self t _
    have e1 : itn (post (post acc w) t) (.nd e w t) = 2 := by
      unfold itn
      rw [if_neg (post_new h), k1, k2]
      rfl
    have e2 : itn acc (.nd e w t) = 3 + (if knw acc w = true then 0 else itn acc w) + (if knw acc t = true then 0 else itn (post acc w) t) := by
      rw [itn]
      rw [if_neg h, if_neg hk]
    show itns acc (wts acc w t) + (itn _ _ + itns _ as) + 1 = itn acc _ + itns _ as
    rw [e1, e2, post_again h]
    have e3 : itns acc (wts acc w t) = (if knw acc w = true then 0 else itn acc w) + (if knw acc t = true then 0 else itn (post acc w) t) := by
      unfold wts
      by_cases h1 : knw acc w = true
      · rw [if_pos h1, if_pos h1]
        by_cases h2 : knw acc t = true
        · rw [if_pos h2, if_pos h2]; rfl
        · rw [if_neg h2, if_neg h2, List.nil_append, post_knw h1]
          show itn acc t + 0 = 0 + itn acc t
          omega
      · rw [if_neg h1, if_neg h1]
        by_cases h2 : knw acc t = true
        · rw [if_pos h2, if_pos h2, List.append_nil]
          rfl
        · rw [if_neg h2, if_neg h2]
          show itn acc w + (itn (post acc w) t + 0) = _
          omega
    omega
  · rw [List.foldl_append, foldl_wts, List.foldl_cons, List.foldl_cons, post_again h]
/-- both sides known: it gets its number -/
theorem itns_num {acc : List Bd} {e : Int} {w t : Bd} {as : List Bd} (h : Bd.nd e w t ∉ acc) (k1 : knw acc w = true) (k2 : knw acc t = true) : itns (acc ++ [.nd e w t]) (.nd e w t :: as) + 1 = itns acc (.nd e w t :: as) ∧ (Bd.nd e w t :: as).foldl post (acc ++ [.nd e w t]) = (Bd.nd e w t :: as).foldl post acc := by
  have e0 : post acc (.nd e w t) = acc ++ [.nd e w t] := by rw [post_nd h, post_knw k1, post_knw k2]
  have hm : Bd.nd e w t ∈ acc ++ [.nd e w t] := List.mem_append_right _ (List.mem_singleton.mpr rfl)
  have e1 : post (acc ++ [.nd e w t]) (.nd e w t) = acc ++ [.nd e w t] := post_knw (knw_nd.mpr hm)
  constructor
  · show itn _ _ + itns _ as + 1 = itn _ _ + itns _ as
    rw [e0, e1, itn_knw (knw_nd.mpr hm)]
    have : itn acc (.nd e w t) = 2 := by
      unfold itn
      rw [if_neg h, k1, k2]
      rfl
    omega
  · rw [List.foldl_cons, List.foldl_cons, e0, e1]
/-- the numbers by which nodes tell conditions -/
def nmb (acc : List Bd) : Bd → Nat
  | .lf b => if b = true then 1 else 0
  | a => acc.idxOf a + 2
theorem nmb_pre {acc bcc : List Bd} (h : acc <+: bcc) {a : Bd} (k : knw acc a = true) : nmb bcc a = nmb acc a := by
  cases a with
  | lf b => rfl
  | nd e w t =>
    obtain ⟨r, rfl⟩ := h
    show (acc ++ r).idxOf _ + 2 = acc.idxOf _ + 2
    rw [List.idxOf_append, if_pos (knw_nd.mp k)]

/-! ### the table of a condition -/
def Rel2 (N : Nds) : List Nat → List Bd → Prop
  | [], [] => True
  | c :: cs, a :: as => At N c a ∧ Rel2 N cs as
  | _, _ => False
theorem Rel2.len {N : Nds} : ∀ {cs : List Nat} {as : List Bd}, Rel2 N cs as → cs.length = as.length
  | [], [], _ => rfl
  | [], _ :: _, h => h.elim
  | _ :: _, [], h => h.elim
  | _ :: cs, _ :: as, h => congrArg (· + 1) (Rel2.len h.2)
theorem Rel2.app {N : Nds} : ∀ {cs : List Nat} {as : List Bd} {ds : List Nat} {bs : List Bd}, Rel2 N cs as → Rel2 N ds bs → Rel2 N (cs ++ ds) (as ++ bs)
  | [], [], _, _, _, h => h
  | [], _ :: _, _, _, h, _ => h.elim
  | _ :: _, [], _, _, h, _ => h.elim
  | _ :: cs, _ :: as, _, _, h, g => ⟨h.1, Rel2.app h.2 g⟩
def nbl : Nat → List Nat → List (Key × V)
  | _, [] => []
  | n, c :: cs => (.inl (c : Int), .int (n : Int)) :: nbl (n + 1) cs
/-- the numbers that are told so far -/
def nbs (cs : List Nat) : List (Key × V) := (.inl 0, .int 0) :: (.inl 1, .int 1) :: nbl 2 cs
theorem nbl_len : ∀ (cs : List Nat) (n : Nat), (nbl n cs).length = cs.length
  | [], _ => rfl
  | _ :: cs, n => congrArg (· + 1) (nbl_len cs (n + 1))
theorem nbs_len (cs : List Nat) : (nbs cs).length = cs.length + 2 := by
  unfold nbs
  rw [List.length_cons, List.length_cons, nbl_len]
theorem nbl_snoc : ∀ (cs : List Nat) (n c : Nat), nbl n (cs ++ [c]) = nbl n cs ++ [(.inl (c : Int), .int ((n + cs.length : Nat) : Int))]
  | [], n, c => rfl
  | d :: cs, n, c => by
    show _ :: nbl (n + 1) (cs ++ [c]) = _ :: (nbl (n + 1) cs ++ _)
    rw [nbl_snoc cs (n + 1) c, List.length_cons, show n + 1 + cs.length = n + (cs.length + 1) by omega]
theorem nbs_snoc (cs : List Nat) (c : Nat) : nbs (cs ++ [c]) = nbs cs ++ [(.inl (c : Int), .int ((cs.length + 2 : Nat) : Int))] := by
  unfold nbs
  rw [nbl_snoc, Nat.add_comm 2]
  rfl
theorem key_ne {c d : Nat} (h : c ≠ d) : ¬ (Sum.inl (c : Int) : Key) = Sum.inl (d : Int) := fun z => h (by
  injection z with z
  omega)
theorem nbl_val {N : Nds} (hN : N.Nodup) {c : Nat} {a : Bd} (hA : At N c a) : ∀ {cs : List Nat} {as : List Bd} {n : Nat}, Rel2 N cs as → valV (nbl n cs) (.inl (c : Int)) = if a ∈ as then some (.int ((as.idxOf a + n : Nat) : Int)) else none
  | [], [], n, _ => by
    rw [if_neg List.not_mem_nil]
    rfl
  | [], _ :: _, _, h => h.elim
  | _ :: _, [], _, h => h.elim
  | d :: cs, b :: as, n, h => by
    by_cases e : d = c
    · subst e
      have eb := h.1.fn hA
      subst eb
      rw [if_pos List.mem_cons_self, List.idxOf_cons_self, Nat.zero_add]
      exact valV_pos rfl
    · have eb : b ≠ a := fun z => e (by subst z; exact h.1.inj hN hA)
      show valV ((.inl (d : Int), .int (n : Int)) :: nbl (n + 1) cs) _ = _
      rw [valV_neg (key_ne e), nbl_val hN hA h.2]
      by_cases ha : a ∈ as
      · rw [if_pos ha, if_pos (List.mem_cons_of_mem _ ha), show (b :: as).idxOf a = as.idxOf a + 1 by rw [List.idxOf_cons, beq_false_of_ne eb]; rfl]
        exact congrArg (fun z => some (V.int z)) (by omega)
      · rw [if_neg ha, if_neg (fun z => by
          rcases List.mem_cons.mp z with z | z
          · exact eb z.symm
          · exact ha z)]
theorem nbs_val {N : Nds} (hN : N.Nodup) {c : Nat} {a : Bd} (hA : At N c a) {cs : List Nat} {as : List Bd} (h : Rel2 N cs as) : valV (nbs cs) (.inl (c : Int)) = if knw as a = true then some (.int ((nmb as a : Nat) : Int)) else none := by
  unfold nbs
  cases hA with
  | f => exact valV_pos (p := ((.inl 0 : Key), V.int 0)) rfl
  | t => exact (valV_neg (p := ((.inl 0 : Key), V.int 0)) (by intro z; cases z)).trans (valV_pos (p := ((.inl 1 : Key), V.int 1)) rfl)
  | @nd k e w t A B hk ha hb =>
    have e1 : ¬ (Sum.inl 0 : Key) = Sum.inl ((k + 2 : Nat) : Int) := fun z => by
      injection z with z
      omega
    have e2 : ¬ (Sum.inl 1 : Key) = Sum.inl ((k + 2 : Nat) : Int) := fun z => by
      injection z with z
      omega
    rw [valV_neg (p := ((.inl 0 : Key), V.int 0)) e1, valV_neg (p := ((.inl 1 : Key), V.int 1)) e2, nbl_val hN (.nd hk ha hb) h]
    by_cases hm : Bd.nd e A B ∈ as
    · rw [if_pos hm, if_pos (knw_nd.mpr hm)]
      rfl
    · rw [if_neg hm, if_neg (fun z => hm (knw_nd.mp z))]
def rowD (acc : List Bd) : Bd → PyData
  | .nd e w t => .tuple [.int e, .int ((nmb acc w : Nat) : Int), .int ((nmb acc t : Nat) : Int)]
  | .lf _ => .none
theorem row_pre {acc bcc : List Bd} (hc : Clo acc) (h : acc <+: bcc) {a : Bd} (ha : a ∈ acc) : rowD bcc a = rowD acc a := by
  cases a with
  | lf b => rfl
  | nd e w t =>
    obtain ⟨k1, k2⟩ := hc _ _ _ ha
    show PyData.tuple _ = PyData.tuple _
    rw [nmb_pre h k1, nmb_pre h k2]
theorem rows_snoc {acc : List Bd} (hc : Clo acc) (a : Bd) : (acc ++ [a]).map (rowD (acc ++ [a])) = acc.map (rowD acc) ++ [rowD (acc ++ [a]) a] := by
  rw [List.map_append]
  refine congrArg (· ++ _) ?_
  exact List.map_congr_left fun b hb => row_pre hc (List.prefix_append _ _) hb
theorem rows_only (acc bcc : List Bd) : tupOnlys (bcc.map (rowD acc)) = true := by
  induction bcc with
  | nil => rfl
  | cons a bcc ih =>
    rw [List.map_cons]
    unfold tupOnlys
    rw [ih]
    cases a <;> rfl
theorem foldl_pre : ∀ (as acc : List Bd), acc <+: as.foldl post acc
  | [], acc => List.prefix_refl acc
  | a :: as, acc => (post_pre a acc).trans (foldl_pre as _)
theorem itns_len : ∀ (as acc : List Bd), as.length ≤ itns acc as
  | [], _ => Nat.le_refl _
  | a :: as, acc => by
    have h1 := itns_len as (post acc a)
    have h2 : 1 ≤ itn acc a := by
      cases a with
      | lf b => exact Nat.le_refl _
      | nd e w t =>
        unfold itn
        split
        · exact Nat.le_refl _
        · split <;> omega
    show as.length + 1 ≤ itn acc a + itns _ as
    omega
theorem itn_le : ∀ (a : Bd) (acc : List Bd), itn acc a ≤ 4 * a.sz + 1
  | .lf _, _ => Nat.le_refl _
  | .nd e w t, acc => by
    have h1 := itn_le w acc
    have h2 := itn_le t (post acc w)
    unfold itn
    show _ ≤ 4 * (w.sz + t.sz + 1) + 1
    split
    · omega
    · split
      · omega
      · split <;> split <;> omega
theorem itns_le : ∀ (as acc : List Bd) (b : Nat), (∀ a ∈ as, a.sz ≤ b) → itns acc as ≤ as.length * (4 * b + 1)
  | [], _, _, _ => Nat.zero_le _
  | a :: as, acc, b, h => by
    have h1 := itn_le a acc
    have h2 := itns_le as (post acc a) b fun x hx => h x (List.mem_cons_of_mem _ hx)
    have h3 := h a List.mem_cons_self
    show itn acc a + itns _ as ≤ (as.length + 1) * _
    rw [Nat.succ_mul]
    omega
theorem post_len : ∀ (a : Bd) (acc : List Bd), (post acc a).length ≤ acc.length + a.sz
  | .lf _, _ => Nat.le_refl _
  | .nd e w t, acc => by
    have h1 := post_len w acc
    have h2 := post_len t (post acc w)
    unfold post
    show _ ≤ acc.length + (w.sz + t.sz + 1)
    split
    · omega
    · rw [List.length_append]
      show _ + 1 ≤ _
      omega
theorem posts_len : ∀ (as acc : List Bd) (b : Nat), (∀ a ∈ as, a.sz ≤ b) → (as.foldl post acc).length ≤ acc.length + as.length * b
  | [], acc, _, _ => by simp
  | a :: as, acc, b, h => by
    have h1 := post_len a acc
    have h2 := posts_len as (post acc a) b fun x hx => h x (List.mem_cons_of_mem _ hx)
    have h3 := h a List.mem_cons_self
    rw [List.foldl_cons, List.length_cons, Nat.succ_mul]
    omega
theorem wf_sz {es : List Int} {a : Bd} (h : Wf es a) : a.sz + 1 ≤ 2 ^ es.length := by
  induction h with
  | lf => exact Nat.one_le_two_pow
  | @here x es w t _ _ _ iw it =>
    show w.sz + t.sz + 1 + 1 ≤ 2 ^ (es.length + 1)
    rw [Nat.pow_succ]
    omega
  | @skip x es a _ ih =>
    show _ ≤ 2 ^ (es.length + 1)
    rw [Nat.pow_succ]
    omega
def natsV (cs : List Nat) : List V := cs.map fun c => .int ((c : Nat) : Int)
theorem post_nds : ∀ (a : Bd) (acc : List Bd), (∀ b ∈ acc, ∃ e w t, b = Bd.nd e w t) → ∀ b ∈ post acc a, ∃ e w t, b = Bd.nd e w t
  | .lf _, _, h => h
  | .nd e w t, acc, h => by
    unfold post
    split
    · exact h
    · intro b hb
      rcases List.mem_append.mp hb with hb | hb
      · exact post_nds t _ (post_nds w acc h) b hb
      · rw [List.mem_singleton.mp hb]
        exact ⟨_, _, _, rfl⟩
theorem Rel2.get {N : Nds} : ∀ {cs : List Nat} {as : List Bd} {i : Nat} {c : Nat} {a : Bd}, Rel2 N cs as → cs[i]? = some c → as[i]? = some a → At N c a
  | [], _, _, _, _, _, h, _ => by simp at h
  | _ :: _, [], _, _, _, h, _, _ => h.elim
  | c :: cs, a :: as, 0, c', a', h, h1, h2 => by
    have e1 : c = c' := Option.some.inj h1
    have e2 : a = a' := Option.some.inj h2
    subst e1 e2
    exact h.1
  | c :: cs, a :: as, i + 1, c', a', h, h1, h2 => Rel2.get h.2 (by simpa using h1) (by simpa using h2)
/-- what listed leaves: the nodes and the numbers -/
def sp_listed (C : Addr) (K : PySem.W.Frag) : Sp := fun vs H Q _ => ∃ s N es L a cs as, vs = [.ref s.p, .ref a] ∧ Sto C K H s N es L ∧ SqL K H a (natsV cs) ∧ Rel2 N cs as ∧ cs.length ≤ 100 ∧ (∀ b ∈ as, b.sz ≤ 1000) ∧
  ∀ H' q nl nu xs ks, Same H H' → H' q = some (.tup [.ref nl, .ref nu]) → H nl = none → H' nl = some (.lst xs) → H' nu = some (.dK (nbs ks)) → Rel2 N ks (as.reverse.foldl post []) → DpAll K H' xs ((as.reverse.foldl post []).map (rowD (as.reverse.foldl post []))) → Q (.ref q) H'
def sp_table (C : Addr) (K : PySem.W.Frag) : Sp := fun vs H Q _ => ∃ s N es L c a, vs = [.ref s.p, .int ((c : Nat) : Int)] ∧ Sto C K H s N es L ∧ At N c a ∧ a.sz ≤ 1000 ∧
  ∀ H' q nl xs, Same H H' → H' q = some (.tup [.ref nl, .int ((nmb (post [] a) a : Nat) : Int)]) → H nl = none → H' nl = some (.lst xs) → DpAll K H' xs ((post [] a).map (rowD (post [] a))) → Q (.ref q) H'
section
variable {P : Program} {w : World} {K : PySem.W.Frag} {mg : Str → Option Value} {base : Heap}
theorem Rel2.rev {N : Nds} : ∀ {cs : List Nat} {as : List Bd}, Rel2 N cs as → Rel2 N cs.reverse as.reverse
  | [], [], h => h
  | [], _ :: _, h => h.elim
  | _ :: _, [], h => h.elim
  | c :: cs, a :: as, h => by
    rw [List.reverse_cons, List.reverse_cons]
    exact Rel2.app (Rel2.rev h.2) ⟨h.1, trivial⟩
/-- the state of listed's loop: a pile, top first; the numbers and nodes so far -/
def LiW (K : PySem.W.Frag) (H : Hp) (N : Nds) (s : SA) (a nl nu lf : Addr) (fin : List Bd) (m : Nat) (σ : L2.St) (Hi : Hp) : Prop :=
  ∃ ks acc sc sT xs z5 z6 z7 z8 z9 z10, m = itns acc sT ∧ itns acc sT ≤ 500000 ∧ σ = [some (.ref s.p), some (.ref a), some (.ref nl), some (.ref nu), some (.ref lf), z5, z6, z7, z8, z9, z10] ∧ Same H Hi ∧ Hi nl = some (.lst xs) ∧ DpAll K Hi xs (acc.map (rowD acc)) ∧ Hi nu = some (.dK (nbs ks)) ∧
    Hi lf = some (.lst (natsV sc.reverse)) ∧ Rel2 N ks acc ∧ Rel2 N sc sT ∧ Clo acc ∧ sT.foldl post acc = fin
theorem natsV_app (as bs : List Nat) : natsV (as ++ bs) = natsV as ++ natsV bs := by unfold natsV; rw [List.map_append]
theorem mk_nbs : mergeK ([] : List (Key × V)) [(.inl 0, .int 0), (.inl 1, .int 1)] = nbs [] := by rfl
set_option maxHeartbeats 4000000 in
theorem ok_listed {f C : Addr} {fd : FuncData} (F : Fun K "listed" "Diagrams.listed" s_Diagrams_listed f fd) (M : Mg mg) (G : DgC K C mg) (c_Diagrams_node_of : ClM P w K mg base 1 C "node_of" (sp_nof C K)) : FnOk P w K mg base CX0 2 f fd ["self", "conditions"] (sp_listed C K) := by
  refine F.ok sc_Diagrams_listed (fun vs H Q E h => ?_) (fun cdv A outer s H vs Q E hr h => ?_)
  · obtain ⟨s, N, es, L, a, cs, as, rfl, _⟩ := h
    rfl
  · obtain ⟨s, N, es, L, a, cs, as, rfl, st, ha, rel, hl, hsz, q⟩ := h
    have hnd := st.nd
    generalize hfin : as.reverse.foldl post [] = fin at q
    have lfin : fin.length ≤ 100000 := by
      have h1 := posts_len as.reverse [] 1000 fun b hb => hsz b (List.mem_reverse.mp hb)
      rw [hfin, List.length_reverse, ← rel.len] at h1
      have h2 : ([] : List Bd).length = 0 := rfl
      have h3 := Nat.mul_le_mul_right 1000 hl
      omega
    have sl : (1000000 : Nat) < sizeLine := by decide
    refine ⟨_, (pss_cons (ps_set (i := 2) sc_Diagrams_listed.nd rfl (.inl rfl) (pe_lst pa_nil))
      (pss_cons (ps_set (i := 3) sc_Diagrams_listed.nd rfl (.inr rfl) (pe_disp (pps_cons (C8.pe_gc (by rfl) G.NEVER) pe_int (pps_cons (C8.pe_gc (by rfl) G.ALWAYS) pe_int pps_nil)) (by rfl) (by rfl) (fun z => by cases z) (by decide)))
      (pss_cons (ps_set (i := 4) sc_Diagrams_listed.nd rfl (.inl rfl) (pe_callTy (listK K) (by rfl) M.list (by decide +kernel) (pa_cons (pv 1) pa_nil)))
      (pss_cons (ps_while PassesOwn.never (pt_truthK K (pv 4) (by intro _; rfl)) (pss_cons (ps_set (i := 5) sc_Diagrams_listed.nd rfl (.inl rfl) (pe_ix (ix_listK K) (pv 4) (pe_un un_neg pe_int) (fun _ _ => rfl)))
      (pss_cons (ps_if (pt_cmp (pc_din (hu_of hr) (pv 5) (pv 3))) (pss_cons (ps_expr (pe_bm0 PySem.F.plainAttrs_list PySem.F.slot_list_pop PySem.F.type_list_pop mt_pop (pv 4)))
      (pss_one ps_continue)) pss_nil)
      (pss_cons (ps_asg (pe_mt c_Diagrams_node_of hr (by first | decide | omega) (pv 0) (pa_cons (pv 5) pa_nil)) (pg_tup (by rfl) (pgs_cons (pg_name (i := 6) sc_Diagrams_listed.nd rfl (.inl rfl)) (pgs_cons (pg_name (i := 7) sc_Diagrams_listed.nd rfl (.inl rfl)) (pgs_cons (pg_name (i := 8) sc_Diagrams_listed.nd rfl (.inl rfl)) pgs_nil)))))
      (pss_cons (ps_setLc (i := 9) (own := [("part", 10)]) (g := gName 10) rfl sc_Diagrams_listed.nd rfl rfl (sw_true rfl rfl rfl (by decide +kernel)) (pi_tup (pe_tup (pa_cons (pv 8) (pa_cons (pv 7) pa_nil)))) (blkOk_by (N := N_Diagrams_listed) (sc := defScope s_Diagrams_listed) (by decide +kernel)) (fun _ _ _ _ _ => (pg_name (i := 10) sc_Diagrams_listed.nd rfl (.inl rfl))) (fun _ _ _ _ _ => (pts_one (pt_cmp (pc_dnotin (hu_of hr) (pv 10) (pv 3))))) (fun _ _ _ _ _ => (pv 10)))
      (pss_cons (ps_expr (pe_bmK K PySem.F.plainAttrs_list PySem.F.slot_list_extend PySem.F.type_list_extend mt_extend (pv 4) (pa_cons (pv 9) pa_nil)))
      (pss_one (ps_if (pt_not (pt_truthK K (pv 9) (by intro _; rfl))) (pss_cons (ps_dput (hu_of hr) (pv 3) (pv 5) (pe_callB call_lenD (by rfl) M.len PySem.boot_len (pa_cons (pv 3) pa_nil)) rfl)
      (pss_one (ps_expr (pe_bmK K PySem.F.plainAttrs_list PySem.F.slot_list_append PySem.F.type_list_append mt_append (pv 2) (pa_cons (pe_tup (pa_cons (pv 6) (pa_cons (pe_dget (hu_of hr) (pv 3) (pv 7) (fun _ _ => rfl)) (pa_cons (pe_dget (hu_of hr) (pv 3) (pv 8) (fun _ _ => rfl)) pa_nil)))) pa_nil))))) pss_nil))))))))
      (pss_one (ps_ret (pe_tup (pa_cons (pv 2) (pa_cons (pv 3) pa_nil))))))))), ?_⟩
    refine ⟨by show 0 ≤ sizeLine; decide, fun nl nnl => ?_⟩
    have s1 := same_upd nnl (o := .lst [])
    have e1 : (upd H nl (.lst [])) nl = some (.lst []) := upd_same
    generalize upd H nl (.lst []) = H1 at s1 e1
    intro nu nnu
    refine ⟨upd_same, [(.inl 0, .int 0), (.inl 1, .int 1)], rfl, by decide, ?_⟩
    rw [mk_nbs, upd_upd]
    have s2 := same_upd nnu (o := .dK (nbs []))
    have e2 : (upd H1 nu (.dK (nbs []))) nu = some (.dK (nbs [])) := upd_same
    generalize upd H1 nu (.dK (nbs [])) = H2 at s2 e2
    refine ⟨_, rfl, a, _, rfl, .inl ((s1.trans s2).seq ha), fun lf nlf => ?_⟩
    have s3 := same_upd nlf (o := .lst (natsV cs))
    have e3 : (upd H2 lf (.lst (natsV cs))) lf = some (.lst (natsV cs)) := upd_same
    have nlfl : lf ≠ nl := (ne_of_none (s2 _ _ e1) nlf).symm
    generalize upd H2 lf (.lst (natsV cs)) = H3 at s3 e3
    have nnu0 := s1.free nnu
    have nlf0 := (s1.trans s2).free nlf
    have fresh : ∀ {Hi : Hp} {p : Addr} {o : HO}, Same H Hi → H p = none → Same H (upd Hi p o) := fun sm np b o e => by
      rw [upd_ne (ne_of_none e np)]
      exact sm b o e
    refine ⟨LiW K H N s a nl nu lf fin, ⟨_, [], [], cs.reverse, as.reverse, [], none, none, none, none, none, none, rfl, ?_, rfl, (s1.trans s2).trans s3, (s2.trans s3) _ _ e1, .nil, s3 _ _ e2, by rw [List.reverse_reverse]; exact e3, trivial, rel.rev, (by intro _ _ _ h; cases h), hfin⟩, ?_⟩
    · have h1 := itns_le as.reverse [] 1000 fun b hb => hsz b (List.mem_reverse.mp hb)
      rw [List.length_reverse, ← rel.len] at h1
      have h3 := Nat.mul_le_mul_right (4 * 1000 + 1) hl
      omega
    rintro m σ Hi ⟨ks, acc, sc, sT, xs, z5, z6, z7, z8, z9, z10, rfl, hm, rfl, si, enl, dxs, enu, elf, rk, rs, hclo, hf⟩
    have nnlu : nl ≠ nu := ne_of enl enu (fun z => nomatch z)
    have nlfu : lf ≠ nu := ne_of elf enu (fun z => nomatch z)
    have lacc : acc.length ≤ 100000 := by
      have := (foldl_pre sT acc).length_le
      rw [hf] at this
      omega
    have lks : ks.length ≤ 100000 := by rw [rk.len]; exact lacc
    have lxs : xs.length = acc.length := by rw [DpAll.len dxs, List.length_map]
    refine ⟨_, rfl, _, .inl ⟨_, .of elf, rfl⟩, ?_⟩
    cases sc with
    | nil =>
      cases sT with
      | cons b sT => exact rs.elim
      | nil =>
        refine iteF ?_
        have hf : acc = fin := hf
        refine ⟨_, rfl, _, rfl, by show 2 ≤ sizeLine; decide, fun q' nq' => ?_⟩
        subst hf
        exact q _ q' nl nu xs ks (si.trans (same_upd nq')) upd_same nnl (same_upd nq' _ _ enl) (same_upd nq' _ _ enu) rk (DpAll.ext (same_upd nq') _ _ dxs)
    | cons c sc =>
      cases sT with
      | nil => exact rs.elim
      | cons b sT =>
        rw [List.reverse_cons, natsV_app] at elf ⊢
        have hne : (natsV sc.reverse ++ natsV [c]).isEmpty = false := by
          cases natsV sc.reverse <;> rfl
        rw [hne]
        refine iteT ⟨fun σ' H' => ∃ m', m' < itns acc (b :: sT) ∧ LiW K H N s a nl nu lf fin m' σ' H', fun _ _ h => h, ?_⟩
        have hb := rs.1
        have sti := st.ext si
        refine ⟨_, rfl, _, rfl, lf, _, _, .int ((c : Nat) : Int), rfl, rfl, .of elf, atI_last _ _, ?_⟩
        refine ⟨_, rfl, _, rfl, nu, _, rfl, DGet.k (k := .inl (c : Int)) enu, _, rfl, ?_⟩
        rw [nbs_val hnd hb rk]
        by_cases hk : knw acc b = true
        · -- known: it goes off the pile
          rw [if_pos hk]
          refine iteT ⟨_, rfl, .inl ⟨rfl, _, .inl (.inl elf)⟩, lf, _, .int ((c : Nat) : Int), rfl, rfl, elf, ?_, ?_⟩
          · rw [List.length_append]
            show (natsV sc.reverse ++ [V.int ((c : Nat) : Int)])[(natsV sc.reverse).length + 1 - 1]? = _
            rw [Nat.add_sub_cancel, List.getElem?_append_right (Nat.le_refl _), Nat.sub_self]
            rfl
          · have ed : (natsV sc.reverse ++ natsV [c]).dropLast = natsV sc.reverse := by
              show (natsV sc.reverse ++ [V.int ((c : Nat) : Int)]).dropLast = _
              rw [List.dropLast_concat]
            rw [ed]
            have ei := itn_knw hk
            have ep := post_knw hk
            refine ⟨itns acc sT, ?_, ks, acc, sc, sT, xs, _, _, _, _, _, _, rfl, ?_, rfl, fresh si nlf0, by rw [upd_ne nlfl.symm]; exact enl, DpAll.away elf _ _ (rows_only acc acc) dxs, by rw [upd_ne nlfu.symm]; exact enu, upd_same, rk, rs.2, hclo, ?_⟩
            · show _ < itn acc b + itns (post acc b) sT
              rw [ei, ep]
              omega
            · have : itns acc (b :: sT) = itn acc b + itns (post acc b) sT := rfl
              rw [this, ep] at hm
              omega
            · rw [List.foldl_cons, ep] at hf
              exact hf
        · rw [if_neg hk]
          refine iteF ?_
          have h2 : 2 ≤ c := by
            cases hb with
            | f => exact absurd rfl hk
            | t => exact absurd rfl hk
            | nd _ _ _ => omega
          obtain ⟨e1, w1, t1, A1, B1, hn, hw1, ht1, rfl⟩ := hb.ge h2
          have hnm : Bd.nd e1 A1 B1 ∉ acc := fun z => hk (knw_nd.mpr z)
          refine ⟨_, rfl, sti.go (by decide +kernel) (by decide +kernel) (by decide +kernel) ⟨_, rfl, ?_⟩⟩
          refine ⟨s, N, es, L, c, _, rfl, sti, h2, hn, fun qa hq => ?_⟩
          refine ⟨qa, _, rfl, hq, rfl, _, _, rfl, _, _, rfl, _, _, rfl, rfl, ?_⟩
          -- those that wait
          refine ⟨_, rfl, _, rfl, by show 2 ≤ sizeLine; decide, fun tp ntp => ?_⟩
          have s4 := same_upd ntp (o := .tup [.int ((t1 : Nat) : Int), .int ((w1 : Nat) : Int)])
          have e4 : (upd Hi tp (.tup [.int ((t1 : Nat) : Int), .int ((w1 : Nat) : Int)])) tp = some (.tup (([(t1, B1), (w1, A1)] : List (Nat × Bd)).map fun p => .int ((p.1 : Nat) : Int))) := upd_same
          generalize upd Hi tp (.tup [.int ((t1 : Nat) : Int), .int ((w1 : Nat) : Int)]) = H4 at s4 e4
          refine ⟨tp, rfl, ⟨_, .of e4⟩, fun D nD => ?_⟩
          refine lc_tup (K := K) (a := tp) (xs := ([(t1, B1), (w1, A1)] : List (Nat × Bd)).map fun p => .int ((p.1 : Nat) : Int)) (fun i Hj => Same H4 Hj ∧ Hj D = some (.lst (natsV (((([(t1, B1), (w1, A1)] : List (Nat × Bd)).take i).filter fun p => !knw acc p.2).map (·.1))))) ⟨same_upd nD, upd_same⟩ (fun i Hj _ hp => .of (hp.1 _ _ e4)) (fun i x Hj hx hp => ?_) (fun Hm hp => ?_)
          · obtain ⟨sj, eD⟩ := hp
            rw [List.getElem?_map] at hx
            obtain ⟨p, hpv, rfl⟩ := Option.map_eq_some_iff.mp hx
            have hp2 : At N p.1 p.2 := by
              have := List.mem_of_getElem? hpv
              simp only [List.mem_cons, List.not_mem_nil, or_false] at this
              rcases this with rfl | rfl
              · exact ht1
              · exact hw1
            refine ⟨rfl, ?_⟩
            refine ⟨_, rfl, _, rfl, nu, _, rfl, DGet.k (k := .inl (p.1 : Int)) ((s4.trans sj) _ _ enu), _, rfl, ?_⟩
            rw [nbs_val hnd hp2 rk]
            have etk : (([(t1, B1), (w1, A1)] : List (Nat × Bd)).take (i + 1)).filter (fun p => !knw acc p.2) = (([(t1, B1), (w1, A1)] : List (Nat × Bd)).take i).filter (fun p => !knw acc p.2) ++ (if knw acc p.2 = true then [] else [p]) := by
              rw [List.take_add_one, hpv, List.filter_append]
              congr 1
              show List.filter _ [p] = _
              rw [List.filter_cons]
              cases knw acc p.2 <;> rfl
            by_cases hkp : knw acc p.2 = true
            · rw [if_pos hkp] at etk ⊢
              rw [List.append_nil] at etk
              refine iteF ⟨sj, ?_⟩
              rw [etk]
              exact eD
            · rw [if_neg hkp] at etk ⊢
              refine iteT ⟨_, rfl, _, eD, ?_, fun z o hz => ?_, ?_⟩
              · unfold natsV
                rw [List.length_map, List.length_map]
                have h1 := List.length_filter_le (fun p : Nat × Bd => !knw acc p.2) (([(t1, B1), (w1, A1)] : List (Nat × Bd)).take i)
                have h2 : (([(t1, B1), (w1, A1)] : List (Nat × Bd)).take i).length ≤ 2 := by
                  rw [List.length_take]
                  exact Nat.min_le_right _ _
                omega
              · rw [upd_ne (ne_of_none hz nD)]
                exact sj _ _ hz
              · rw [upd_same, etk, List.map_append, natsV_app]
                rfl
          · obtain ⟨sm, eD⟩ := hp
            have s4m := s4.trans sm
            have efl : (((([(t1, B1), (w1, A1)] : List (Nat × Bd)).take ((([(t1, B1), (w1, A1)] : List (Nat × Bd)).map fun p => (V.int ((p.1 : Nat) : Int))).length)).filter fun p => !knw acc p.2).map (·.1)) = ((if knw acc A1 = true then [] else [w1]) ++ (if knw acc B1 = true then [] else [t1])).reverse := by
              show (List.filter (fun p : Nat × Bd => !knw acc p.2) [(t1, B1), (w1, A1)]).map (·.1) = _
              rw [List.filter_cons, List.filter_cons]
              cases knw acc A1 <;> cases knw acc B1 <;> rfl
            rw [efl] at eD
            have rw2 : Rel2 N ((if knw acc A1 = true then [] else [w1]) ++ (if knw acc B1 = true then [] else [t1])) (wts acc A1 B1) := by
              unfold wts
              refine Rel2.app ?_ ?_
              · cases knw acc A1
                · exact ⟨hw1, trivial⟩
                · exact trivial
              · cases knw acc B1
                · exact ⟨ht1, trivial⟩
                · exact trivial
            have lwt : ((if knw acc A1 = true then [] else [w1]) ++ (if knw acc B1 = true then [] else [t1])).length ≤ 2 := by
              cases knw acc A1 <;> cases knw acc B1 <;> simp
            generalize ((if knw acc A1 = true then [] else [w1]) ++ (if knw acc B1 = true then [] else [t1])) = wt at eD rw2 lwt
            have elf4 := s4m _ _ elf
            have enl4 := s4m _ _ enl
            have enu4 := s4m _ _ enu
            have dx4 := DpAll.ext s4m _ _ dxs
            have nDlf : D ≠ lf := (ne_of_none (s4 _ _ elf) nD).symm
            have nDnl : D ≠ nl := (ne_of_none (s4 _ _ enl) nD).symm
            have lsc := itns_len (Bd.nd e1 A1 B1 :: sT) acc
            have lsc2 : sc.length = sT.length := rs.2.len
            refine ⟨_, rfl, .inl ⟨rfl, _, .inl (.inl elf4)⟩, _, rfl, lf, D, _, _, rfl, rfl, elf4, eD, ?_, ?_⟩
            · unfold natsV
              rw [List.length_append, List.length_map, List.length_map, List.length_map, List.length_reverse, List.length_reverse]
              rw [List.length_cons] at lsc
              show sc.length + 1 + wt.length ≤ _
              omega
            have elf5 : (upd Hm lf (.lst (natsV sc.reverse ++ natsV [c] ++ natsV wt.reverse))) lf = some (.lst (natsV (wt ++ c :: sc).reverse)) := by
              rw [upd_same, List.reverse_append, List.reverse_cons, natsV_app, natsV_app]
            have enl5 : (upd Hm lf (.lst (natsV sc.reverse ++ natsV [c] ++ natsV wt.reverse))) nl = some (.lst xs) := by rw [upd_ne nlfl.symm]; exact enl4
            have enu5 : (upd Hm lf (.lst (natsV sc.reverse ++ natsV [c] ++ natsV wt.reverse))) nu = some (.dK (nbs ks)) := by rw [upd_ne nlfu.symm]; exact enu4
            have eD5 : (upd Hm lf (.lst (natsV sc.reverse ++ natsV [c] ++ natsV wt.reverse))) D = some (.lst (natsV wt.reverse)) := by rw [upd_ne nDlf]; exact eD
            have dx5 : DpAll K (upd Hm lf (.lst (natsV sc.reverse ++ natsV [c] ++ natsV wt.reverse))) xs (acc.map (rowD acc)) := DpAll.away elf4 _ _ (rows_only acc acc) dx4
            have s5 : Same H (upd Hm lf (.lst (natsV sc.reverse ++ natsV [c] ++ natsV wt.reverse))) := fresh (si.trans s4m) nlf0
            generalize upd Hm lf (.lst (natsV sc.reverse ++ natsV [c] ++ natsV wt.reverse)) = H5 at elf5 enl5 enu5 eD5 dx5 s5
            refine ⟨_, rfl, _, .inl ⟨_, .of eD5, rfl⟩, ?_⟩
            by_cases hwn : wts acc A1 B1 = []
            · -- both sides known
              have hwt : wt = [] := by
                rw [hwn] at rw2
                cases wt with
                | nil => rfl
                | cons _ _ => exact rw2.elim
              subst hwt
              obtain ⟨k1, k2⟩ := wts_nil.mp hwn
              show if (!!true) = true then _ else _
              refine iteT ?_
              refine ⟨_, rfl, nu, _, rfl, enu5, _, rfl, _, rfl, nu, _, rfl, DPut.k (k := .inl (c : Int)) enu5 (by rw [nbs_len]; omega), ?_⟩
              have hnone : valV (nbs ks) (.inl (c : Int)) = none := by
                rw [nbs_val hnd hb rk, if_neg hk]
              rw [putK_new _ hnone, nbs_len, ← nbs_snoc]
              have enl6 : (upd H5 nu (.dK (nbs (ks ++ [c])))) nl = some (.lst xs) := by rw [upd_ne nnlu]; exact enl5
              have elf6 : (upd H5 nu (.dK (nbs (ks ++ [c])))) lf = some (.lst (natsV (c :: sc).reverse)) := by rw [upd_ne nlfu]; exact elf5
              have enu6 : (upd H5 nu (.dK (nbs (ks ++ [c])))) nu = some (.dK (nbs (ks ++ [c]))) := upd_same
              have dx6 : DpAll K (upd H5 nu (.dK (nbs (ks ++ [c])))) xs (acc.map (rowD acc)) := DpAll.tsn (fun b o ho hb => by
                rw [upd_ne]
                · exact hb
                · rintro rfl
                  rw [enu5] at hb
                  rcases ho with ⟨ys, rfl⟩ | ⟨q, u, rfl⟩ <;> cases hb) _ _ (rows_only acc acc) dx5
              have s6 : Same H (upd H5 nu (.dK (nbs (ks ++ [c])))) := fresh s5 nnu0
              generalize upd H5 nu (.dK (nbs (ks ++ [c]))) = H6 at enl6 elf6 enu6 dx6 s6
              have rk6 : Rel2 N (ks ++ [c]) (acc ++ [Bd.nd e1 A1 B1]) := rk.app ⟨hb, trivial⟩
              have pre := List.prefix_append acc [Bd.nd e1 A1 B1]
              have getv : ∀ (x : Nat) (X : Bd), At N x X → knw acc X = true → DGet H6 nu (.int ((x : Nat) : Int)) (some (.int ((nmb (acc ++ [Bd.nd e1 A1 B1]) X : Nat) : Int))) := fun x X hX kX => by
                have := DGet.k (k := .inl (x : Int)) enu6
                rw [nbs_val hnd hX rk6, if_pos (knw_pre pre kX)] at this
                exact this
              refine ⟨_, rfl, .inl ⟨rfl, _, .inl (.inl enl6)⟩, ?_⟩
              refine ⟨_, rfl, _, rfl, _, rfl, nu, _, rfl, getv w1 A1 hw1 k1, _, rfl, _, rfl, nu, _, rfl, getv t1 B1 ht1 k2, by show 3 ≤ sizeLine; decide, fun tq ntq => ?_⟩
              have s7 := same_upd ntq (o := .tup [.int e1, .int ((nmb (acc ++ [Bd.nd e1 A1 B1]) A1 : Nat) : Int), .int ((nmb (acc ++ [Bd.nd e1 A1 B1]) B1 : Nat) : Int)])
              have d7 : Dp K (upd H6 tq (.tup [.int e1, .int ((nmb (acc ++ [Bd.nd e1 A1 B1]) A1 : Nat) : Int), .int ((nmb (acc ++ [Bd.nd e1 A1 B1]) B1 : Nat) : Int)])) (.ref tq) (rowD (acc ++ [Bd.nd e1 A1 B1]) (Bd.nd e1 A1 B1)) := .tup (.of upd_same) (.cons (.int _) (.cons (.int _) (.cons (.int _) .nil)))
              generalize upd H6 tq (.tup [.int e1, .int ((nmb (acc ++ [Bd.nd e1 A1 B1]) A1 : Nat) : Int), .int ((nmb (acc ++ [Bd.nd e1 A1 B1]) B1 : Nat) : Int)]) = H7 at s7 d7
              have enl7 := s7 _ _ enl6
              refine ⟨nl, _, _, rfl, rfl, enl7, by omega, ?_⟩
              obtain ⟨j1, j2⟩ := itns_num (as := sT) hnm k1 k2
              refine ⟨itns (acc ++ [Bd.nd e1 A1 B1]) (Bd.nd e1 A1 B1 :: sT), by omega, ks ++ [c], acc ++ [Bd.nd e1 A1 B1], c :: sc, Bd.nd e1 A1 B1 :: sT, xs ++ [.ref tq], _, _, _, _, _, _, rfl, by omega, rfl, fresh (s6.trans s7) nnl, upd_same, ?_, by rw [upd_ne nnlu.symm]; exact s7 _ _ enu6, by rw [upd_ne nlfl]; exact s7 _ _ elf6, rk6, rs, ?_, ?_⟩
              · rw [rows_snoc hclo]
                exact DpAll.snoc (DpAll.away enl7 _ _ (rows_only acc acc) (DpAll.ext s7 _ _ dx6)) (Dp.away enl7 _ _ rfl d7)
              · have := post_clo (Bd.nd e1 A1 B1) acc hclo
                rw [post_nd hnm, post_knw k1, post_knw k2] at this
                exact this
              · rw [j2]
                exact hf
            · -- some wait
              have hwt : wt.reverse ≠ [] := fun z => by
                rw [List.reverse_eq_nil_iff] at z
                subst z
                have := rw2.len
                exact hwn (List.eq_nil_of_length_eq_zero this.symm)
              have hne2 : (natsV wt.reverse).isEmpty = false := by
                cases h : wt.reverse with
                | nil => exact absurd h hwt
                | cons _ _ => rfl
              rw [hne2]
              show if (!!false) = true then _ else _
              refine iteF ?_
              obtain ⟨j1, j2⟩ := itns_push (as := sT) hnm hwn
              exact ⟨itns acc (wts acc A1 B1 ++ Bd.nd e1 A1 B1 :: sT), by omega, ks, acc, wt ++ c :: sc, wts acc A1 B1 ++ Bd.nd e1 A1 B1 :: sT, xs, _, _, _, _, _, _, rfl, by omega, rfl, s5, enl5, dx5, enu5, elf5, rk, rw2.app rs, hclo, by rw [j2]; exact hf⟩
theorem ok_table {f C : Addr} {fd : FuncData} (F : Fun K "table" "Diagrams.table" s_Diagrams_table f fd) (M : Mg mg) (G : DgC K C mg) (c_Diagrams_listed : ClM P w K mg base 2 C "listed" (sp_listed C K)) : FnOk P w K mg base CX0 3 f fd ["self", "condition"] (sp_table C K) := by
  refine F.ok sc_Diagrams_table (fun vs H Q E h => ?_) (fun cdv A outer s H vs Q E hr h => ?_)
  · obtain ⟨s, N, es, L, c, a, rfl, _⟩ := h
    rfl
  · obtain ⟨s, N, es, L, c, a, rfl, st, hA, hsz, q⟩ := h
    refine ⟨_, (pss_cons (ps_asg (pe_mt c_Diagrams_listed hr (by first | decide | omega) (pv 0) (pa_cons (pe_lst (pa_cons (pv 1) pa_nil)) pa_nil)) (pg_tup (by rfl) (pgs_cons (pg_name (i := 2) sc_Diagrams_table.nd rfl (.inl rfl)) (pgs_cons (pg_name (i := 3) sc_Diagrams_table.nd rfl (.inl rfl)) pgs_nil))))
      (pss_one (ps_ret (pe_tup (pa_cons (pv 2) (pa_cons (pe_dget (hu_of hr) (pv 3) (pv 1) (fun _ _ => rfl)) pa_nil)))))), ?_⟩
    refine ⟨_, rfl, st.go (by decide +kernel) (by decide +kernel) (by decide +kernel) ⟨_, rfl, by show 1 ≤ sizeLine; decide, fun p np => ?_⟩⟩
    have s1 := same_upd np (o := .lst [.int ((c : Nat) : Int)])
    have e1 : (upd H p (.lst [.int ((c : Nat) : Int)])) p = some (.lst (natsV [c])) := upd_same
    generalize upd H p (.lst [.int ((c : Nat) : Int)]) = H1 at s1 e1
    refine ⟨s, N, es, L, p, [c], [a], rfl, st.ext s1, .of e1, ⟨hA, trivial⟩, by show 1 ≤ 100; decide, fun b hb => by rw [List.mem_singleton.mp hb]; exact hsz, fun H2 q2 nl nu xs ks s2 e2 nnl enl enu rk dx => ?_⟩
    have rk : Rel2 N ks (post [] a) := rk
    have dx : DpAll K H2 xs ((post [] a).map (rowD (post [] a))) := dx
    refine ⟨q2, _, rfl, .of e2, rfl, _, _, rfl, _, _, rfl, rfl, ?_⟩
    have hv : DGet H2 nu (.int ((c : Nat) : Int)) (some (.int ((nmb (post [] a) a : Nat) : Int))) := by
      have := DGet.k (k := .inl (c : Int)) enu
      rw [nbs_val st.nd hA rk, if_pos (post_self a [])] at this
      exact this
    refine ⟨_, rfl, _, rfl, _, rfl, nu, _, rfl, hv, by show 2 ≤ sizeLine; decide, fun q3 nq3 => ?_⟩
    exact q _ q3 nl xs ((s1.trans s2).trans (same_upd nq3)) upd_same (s1.free nnl) (same_upd nq3 _ _ enl) (DpAll.ext (same_upd nq3) _ _ dx)
end

/-- where a node's question stands, and what comes ahead of it does not matter -/
theorem wf_nd {es : List Int} {x : Int} {w t : Bd} (h : Wf es (.nd x w t)) : ∃ pre post, es = pre ++ x :: post ∧ Wf post w ∧ Wf post t ∧ w ≠ t := by
  generalize e : Bd.nd x w t = a at h
  induction h with
  | lf => cases e
  | @here y es w' t' hw ht hn _ _ =>
    cases e
    exact ⟨[], _, rfl, hw, ht, hn⟩
  | @skip y es a _ ih =>
    obtain ⟨pre, po, rfl, h1, h2, h3⟩ := ih e
    exact ⟨y :: pre, po, rfl, h1, h2, h3⟩
theorem wf_kids {es : List Int} {x : Int} {w t : Bd} (h : Wf es (.nd x w t)) : Wf es w ∧ Wf es t := by
  obtain ⟨pre, po, rfl, h1, h2, _⟩ := wf_nd h
  exact ⟨(Wf.skip h1).skips pre, (Wf.skip h2).skips pre⟩
/-- all nodes of a diagram -/
def subN : Bd → List Bd
  | .lf _ => []
  | .nd e w t => .nd e w t :: (subN w ++ subN t)
theorem clo_sub {acc : List Bd} (h : Clo acc) : ∀ {a : Bd}, knw acc a = true → ∀ x ∈ subN a, x ∈ acc
  | .lf _, _, x, hx => by cases hx
  | .nd e w t, hk, x, hx => by
    have hm := knw_nd.mp hk
    obtain ⟨k1, k2⟩ := h e w t hm
    rcases List.mem_cons.mp hx with rfl | hx
    · exact hm
    · rcases List.mem_append.mp hx with hx | hx
      · exact clo_sub h k1 x hx
      · exact clo_sub h k2 x hx
theorem post_iff : ∀ {a : Bd} {acc : List Bd}, Clo acc → ∀ x, x ∈ post acc a ↔ x ∈ acc ∨ x ∈ subN a
  | .lf _, acc, _, x => by
    show x ∈ acc ↔ _
    exact ⟨.inl, fun h => h.elim id (fun z => by cases z)⟩
  | .nd e w t, acc, hc, x => by
    by_cases hm : Bd.nd e w t ∈ acc
    · rw [post_knw (knw_nd.mpr hm)]
      exact ⟨.inl, fun h => h.elim id (clo_sub hc (knw_nd.mpr hm) x)⟩
    · rw [post_nd hm, List.mem_append, List.mem_singleton, post_iff (post_clo w acc hc), post_iff hc]
      constructor
      · rintro (((h | h) | h) | h)
        · exact .inl h
        · exact .inr (List.mem_cons_of_mem _ (List.mem_append_left _ h))
        · exact .inr (List.mem_cons_of_mem _ (List.mem_append_right _ h))
        · subst h; exact .inr List.mem_cons_self
      · rintro (h | h)
        · exact .inl (.inl (.inl h))
        · rcases List.mem_cons.mp h with h | h
          · exact .inr h
          · rcases List.mem_append.mp h with h | h
            · exact .inl (.inl (.inr h))
            · exact .inl (.inr h)
theorem posts_iff : ∀ {as acc : List Bd}, Clo acc → ∀ x, x ∈ as.foldl post acc ↔ x ∈ acc ∨ ∃ a ∈ as, x ∈ subN a
  | [], acc, _, x => ⟨.inl, fun h => h.elim id (fun ⟨a, h, _⟩ => by cases h)⟩
  | a :: as, acc, hc, x => by
    rw [List.foldl_cons, posts_iff (post_clo a acc hc), post_iff hc]
    constructor
    · rintro ((h | h) | ⟨b, hb, h⟩)
      · exact .inl h
      · exact .inr ⟨a, List.mem_cons_self, h⟩
      · exact .inr ⟨b, List.mem_cons_of_mem _ hb, h⟩
    · rintro (h | ⟨b, hb, h⟩)
      · exact .inl (.inl h)
      · rcases List.mem_cons.mp hb with rfl | hb
        · exact .inl (.inr h)
        · exact .inr ⟨b, hb, h⟩
theorem posts_nodup : ∀ (as acc : List Bd), acc.Nodup → (as.foldl post acc).Nodup
  | [], _, h => h
  | a :: as, acc, h => posts_nodup as _ (post_nodup a acc h)
theorem same_len {xs ys : List Bd} (h1 : xs.Nodup) (h2 : ys.Nodup) (h : ∀ x, x ∈ xs ↔ x ∈ ys) : xs.length = ys.length := ((List.perm_ext_iff_of_nodup h1 h2).mpr h).length_eq
theorem post_wf {es : List Int} : ∀ (a : Bd) (acc : List Bd), Wf es a → (∀ b ∈ acc, Wf es b) → ∀ b ∈ post acc a, Wf es b
  | .lf _, _, _, h => h
  | .nd e w t, acc, hw, h => by
    obtain ⟨w1, w2⟩ := wf_kids hw
    unfold post
    split
    · exact h
    · intro b hb
      rcases List.mem_append.mp hb with hb | hb
      · exact post_wf t _ w2 (post_wf w acc w1 h) b hb
      · rw [List.mem_singleton.mp hb]
        exact hw
def Ordd (acc : List Bd) : Prop := ∀ (i : Nat) e w t, acc[i]? = some (Bd.nd e w t) → knw (acc.take i) w = true ∧ knw (acc.take i) t = true
theorem post_ord : ∀ (a : Bd) (acc : List Bd), Ordd acc → Ordd (post acc a)
  | .lf _, _, h => h
  | .nd e w t, acc, h => by
    unfold post
    split
    · exact h
    · have h2 := post_ord t _ (post_ord w acc h)
      intro i e' w' t' hi
      by_cases hl : i < (post (post acc w) t).length
      · rw [List.getElem?_append_left hl] at hi
        rw [List.take_append_of_le_length (Nat.le_of_lt hl)]
        exact h2 i e' w' t' hi
      · rw [List.getElem?_append_right (by omega)] at hi
        have hk : i = (post (post acc w) t).length := by
          cases hh : i - (post (post acc w) t).length with
          | zero => omega
          | succ j => rw [hh] at hi; simp at hi
        subst hk
        rw [Nat.sub_self] at hi
        cases hi
        rw [List.take_append_of_le_length (Nat.le_refl _), List.take_of_length_le (Nat.le_refl _)]
        exact ⟨knw_pre (post_pre t _) (post_self w acc), post_self t _⟩

/-! ### the first set of input rows that meets a condition -/
def isF : Bd → Bool
  | .lf b => !b
  | .nd _ _ _ => false
def fset : Bd → List Int
  | .lf _ => []
  | .nd e w t => if isF w = true then e :: fset t else fset w
theorem isF_iff {a : Bd} : isF a = true ↔ a = .lf false := by
  cases a with
  | lf b => cases b <;> simp [isF]
  | nd e w t => simp [isF]
theorem At.isF {N : Nds} {c : Nat} {a : Bd} (h : At N c a) : decide (V.int ((c : Nat) : Int) = V.int 0) = Lw.isF a := by
  cases h with
  | f => exact decide_eq_true rfl
  | t => exact decide_eq_false (by intro z; have := V.int.inj z; omega)
  | nd _ _ _ => exact decide_eq_false (by intro z; have := V.int.inj z; omega)
theorem fset_sub {es : List Int} {a : Bd} (h : Wf es a) : (fset a).Sublist es := by
  induction h with
  | lf => exact List.nil_sublist _
  | @here x es w t hw ht hne iw it =>
    unfold fset
    split
    · exact it.cons₂ x
    · exact iw.cons x
  | @skip y es a _ ih => exact ih.cons y
theorem fset_ev {es : List Int} (hn : es.Nodup) {a : Bd} (h : Wf es a) (h0 : isF a = false) : a.ev (fun e => decide (e ∈ fset a)) = true := by
  induction h with
  | @lf es b =>
    cases b with
    | true => rfl
    | false => cases h0
  | @skip y es a _ ih =>
    rw [List.nodup_cons] at hn
    exact ih hn.2 h0
  | @here x es w t hw ht hne iw it =>
    rw [List.nodup_cons] at hn
    have ev : ∀ r : Int → Bool, (Bd.nd x w t).ev r = if r x = true then t.ev r else w.ev r := fun _ => rfl
    rw [ev]
    unfold fset
    cases hw0 : isF w with
    | true =>
      rw [if_pos rfl, decide_eq_true List.mem_cons_self, if_pos rfl]
      have ht0 : isF t = false := by
        cases h : isF t with
        | false => rfl
        | true => exact absurd ((isF_iff.mp hw0).trans (isF_iff.mp h).symm) hne
      have key : (fun e => decide (e ∈ x :: fset t)) = setR (fun e => decide (e ∈ fset t)) x true := by
        funext z
        unfold setR
        by_cases h : z = x
        · subst h
          simp
        · simp [h]
      rw [key, ht.away hn.1]
      exact it hn.2 ht0
    | false =>
      rw [if_neg Bool.false_ne_true]
      have : x ∉ fset w := fun z => hn.1 ((fset_sub hw).subset z)
      rw [decide_eq_false this, if_neg Bool.false_ne_true]
      exact iw hn.2 hw0
/-- no set that meets it comes earlier -/
theorem fset_min {es : List Int} (hn : es.Nodup) {a : Bd} (h : Wf es a) : ∀ r : Int → Bool, a.ev r = true → (∀ e ∈ es, r e = decide (e ∈ fset a)) ∨ ∃ (l1 l2 : List Int) (x : Int), es = l1 ++ x :: l2 ∧ (∀ e ∈ l1, r e = decide (e ∈ fset a)) ∧ decide (x ∈ fset a) = false ∧ r x = true := by
  induction h with
  | @lf es b =>
    intro r _
    have h : ∀ es : List Int, (∀ e ∈ es, r e = decide (e ∈ ([] : List Int))) ∨ ∃ (l1 l2 : List Int) (x : Int), es = l1 ++ x :: l2 ∧ (∀ e ∈ l1, r e = decide (e ∈ ([] : List Int))) ∧ decide (x ∈ ([] : List Int)) = false ∧ r x = true := by
      intro es
      induction es with
      | nil => exact .inl (by intro _ h; cases h)
      | cons y es ih =>
        cases hy : r y with
        | true => exact .inr ⟨[], es, y, rfl, (by intro _ h; cases h), rfl, hy⟩
        | false =>
          rcases ih with h | ⟨l1, l2, x, rfl, h1, h2, h3⟩
          · refine .inl fun e he => ?_
            rcases List.mem_cons.mp he with rfl | he
            · exact hy
            · exact h e he
          · refine .inr ⟨y :: l1, l2, x, rfl, fun e he => ?_, h2, h3⟩
            rcases List.mem_cons.mp he with rfl | he
            · exact hy
            · exact h1 e he
    exact h es
  | @skip y es a ha ih =>
    intro r hr
    rw [List.nodup_cons] at hn
    have ny : decide (y ∈ fset a) = false := decide_eq_false fun z => hn.1 ((fset_sub ha).subset z)
    cases hy : r y with
    | true => exact .inr ⟨[], es, y, rfl, (by intro _ h; cases h), ny, hy⟩
    | false =>
      rcases ih hn.2 r hr with h | ⟨l1, l2, x, rfl, h1, h2, h3⟩
      · refine .inl fun e he => ?_
        rcases List.mem_cons.mp he with rfl | he
        · rw [hy, ny]
        · exact h e he
      · refine .inr ⟨y :: l1, l2, x, rfl, fun e he => ?_, h2, h3⟩
        rcases List.mem_cons.mp he with rfl | he
        · rw [hy, ny]
        · exact h1 e he
  | @here x es w t hw ht hne iw it =>
    intro r hr
    rw [List.nodup_cons] at hn
    have ev : (if r x = true then t.ev r else w.ev r) = true := hr
    unfold fset
    cases hw0 : isF w with
    | true =>
      rw [if_pos rfl]
      cases hx : r x with
      | false =>
        rw [hx, if_neg Bool.false_ne_true, isF_iff.mp hw0] at ev
        cases ev
      | true =>
        rw [hx, if_pos rfl] at ev
        have tail : ∀ e ∈ es, decide (e ∈ x :: fset t) = decide (e ∈ fset t) := fun e he => by
          have : e ≠ x := fun z => hn.1 (z ▸ he)
          simp [this]
        have hd : r x = decide (x ∈ x :: fset t) := by rw [hx, decide_eq_true List.mem_cons_self]
        rcases it hn.2 r ev with h | ⟨l1, l2, y, rfl, h1, h2, h3⟩
        · refine .inl fun e he => ?_
          rcases List.mem_cons.mp he with rfl | he
          · exact hd
          · rw [tail e he]
            exact h e he
        · refine .inr ⟨x :: l1, l2, y, rfl, fun e he => ?_, ?_, h3⟩
          · rcases List.mem_cons.mp he with rfl | he
            · exact hd
            · rw [tail e (List.mem_append_left _ he)]
              exact h1 e he
          · rw [tail y (List.mem_append_right _ List.mem_cons_self)]
            exact h2
    | false =>
      rw [if_neg Bool.false_ne_true]
      have nx : decide (x ∈ fset w) = false := decide_eq_false fun z => hn.1 ((fset_sub hw).subset z)
      cases hx : r x with
      | true => exact .inr ⟨[], es, x, rfl, (by intro _ h; cases h), nx, hx⟩
      | false =>
        rw [hx, if_neg Bool.false_ne_true] at ev
        rcases iw hn.2 r ev with h | ⟨l1, l2, y, rfl, h1, h2, h3⟩
        · refine .inl fun e he => ?_
          rcases List.mem_cons.mp he with rfl | he
          · rw [hx, nx]
          · exact h e he
        · refine .inr ⟨x :: l1, l2, y, rfl, fun e he => ?_, h2, h3⟩
          rcases List.mem_cons.mp he with rfl | he
          · rw [hx, nx]
          · exact h1 e he
theorem wf_ne {es : List Int} {a : Bd} (h : Wf es a) : ∀ {e : Int} {w t : Bd}, a = .nd e w t → w ≠ t := by
  induction h with
  | lf => intro _ _ _ z; cases z
  | here _ _ hne _ _ => intro _ _ _ z; cases z; exact hne
  | skip _ ih => exact ih
def sp_fset (C : Addr) (K : PySem.W.Frag) : Sp := fun vs H Q _ => ∃ s N es L c A, vs = [.ref s.p, .int ((c : Nat) : Int)] ∧ Sto C K H s N es L ∧ At N c A ∧ Wf es A ∧ A.ht ≤ 1000 ∧ (isF A = true → Q .non H) ∧ (isF A = false → ∀ H' p, Same H H' → H p = none → H' p = some (.lst ((fset A).map V.int)) → Q (.ref p) H')
section
variable {P : Program} {w : World} {K : PySem.W.Frag} {mg : Str → Option Value} {base : Heap}
theorem ok_fset {f C : Addr} {fd : FuncData} (F : Fun K "first_set" "Diagrams.first_set" s_Diagrams_first_set f fd) (M : Mg mg) (G : DgC K C mg) (c_Diagrams_node_of : ClM P w K mg base 1 C "node_of" (sp_nof C K)) : FnOk P w K mg base CX0 2 f fd ["self", "condition"] (sp_fset C K) := by
  refine F.ok sc_Diagrams_first_set (fun vs H Q E h => ?_) (fun cdv A0 outer s H vs Q E hr h => ?_)
  · obtain ⟨s, N, es, L, c, A, rfl, _⟩ := h
    rfl
  · obtain ⟨s, N, es, L, c, A, rfl, st, hA, wA, hh, q0, q⟩ := h
    refine ⟨_, (pss_cons (ps_if (pt_cmpR op_eq (pv 1) (C8.pe_gc (by rfl) G.NEVER) (nomark _)) (pss_one (ps_ret pe_non)) pss_nil)
      (pss_cons (ps_set (i := 2) sc_Diagrams_first_set.nd rfl (.inl rfl) (pe_lst pa_nil))
      (pss_cons (ps_set (i := 3) sc_Diagrams_first_set.nd rfl (.inl rfl) (pv 1))
      (pss_cons (ps_while PassesOwn.never (pt_cmpR op_ge (pv 3) (C8.pe_gc (by rfl) G.FIRST_NODE) (nomark _)) (pss_cons (ps_asg (pe_mt c_Diagrams_node_of hr (by first | decide | omega) (pv 0) (pa_cons (pv 3) pa_nil)) (pg_tup (by rfl) (pgs_cons (pg_name (i := 4) sc_Diagrams_first_set.nd rfl (.inl rfl)) (pgs_cons (pg_name (i := 5) sc_Diagrams_first_set.nd rfl (.inl rfl)) (pgs_cons (pg_name (i := 6) sc_Diagrams_first_set.nd rfl (.inl rfl)) pgs_nil)))))
      (pss_one (ps_if (pt_cmpR op_eq (pv 5) (C8.pe_gc (by rfl) G.NEVER) (nomark _)) (pss_cons (ps_expr (pe_bmK K PySem.F.plainAttrs_list PySem.F.slot_list_append PySem.F.type_list_append mt_append (pv 2) (pa_cons (pv 4) pa_nil)))
      (pss_one (ps_set (i := 3) sc_Diagrams_first_set.nd rfl (.inl rfl) (pv 6)))) (pss_one (ps_set (i := 3) sc_Diagrams_first_set.nd rfl (.inl rfl) (pv 5)))))))
      (pss_one (ps_ret (pv 2))))))), ?_⟩
    refine ⟨_, rfl, rfl, _, rfl, ?_⟩
    rw [hA.isF]
    refine ite2 (fun e => q0 e) (fun e => ?_)
    have e0 : isF A = false := by simpa using e
    have q := q e0
    refine ⟨by show 0 ≤ sizeLine; decide, fun p np => ?_⟩
    have sp := same_upd np (o := .lst [])
    refine ⟨_, rfl, ?_⟩
    refine ⟨fun m σ Hi => Same H Hi ∧ ∃ (pre : List Int) (c' : Nat) (A' : Bd) (z1 z2 z3 : Option V), m = Bd.ht A' ∧ At N c' A' ∧ Wf es A' ∧ isF A' = false ∧ pre ++ fset A' = fset A ∧ pre.length + A'.ht ≤ A.ht ∧ Hi p = some (.lst (pre.map V.int)) ∧ σ = [some (.ref s.p), some (.int ((c : Nat) : Int)), some (.ref p), some (.int ((c' : Nat) : Int)), z1, z2, z3], ⟨A.ht, sp, [], c, A, none, none, none, rfl, hA, wA, e0, rfl, by show 0 + _ ≤ _; omega, upd_same, rfl⟩, ?_⟩
    rintro m σ Hi ⟨si, pre, c', A', z1, z2, z3, rfl, hA', wA', f0, epre, lpre, ep, rfl⟩
    refine ⟨_, rfl, _, _, rfl, rfl, _, rfl, ?_⟩
    refine ite2 (fun e => ?_) (fun e => ?_)
    · have h2 : 2 ≤ c' := by
        have := of_decide_eq_true e
        omega
      obtain ⟨e1, w1, t1, a1, b1, hn, hw1, ht1, ea⟩ := hA'.ge h2
      subst ea
      have sti := st.ext si
      refine ⟨fun σ' H' => ∃ m', m' < (Bd.nd e1 a1 b1).ht ∧ (Same H H' ∧ ∃ (pre : List Int) (c' : Nat) (A' : Bd) (z1 z2 z3 : Option V), m' = Bd.ht A' ∧ At N c' A' ∧ Wf es A' ∧ isF A' = false ∧ pre ++ fset A' = fset A ∧ pre.length + A'.ht ≤ A.ht ∧ H' p = some (.lst (pre.map V.int)) ∧ σ' = [some (.ref s.p), some (.int ((c : Nat) : Int)), some (.ref p), some (.int ((c' : Nat) : Int)), z1, z2, z3]), fun _ _ h => h, ?_⟩
      refine ⟨_, rfl, sti.go (by decide +kernel) (by decide +kernel) (by decide +kernel) ⟨_, rfl, ?_⟩⟩
      refine ⟨s, N, es, L, c', _, rfl, sti, h2, hn, fun qa hq => ?_⟩
      refine ⟨qa, _, rfl, hq, rfl, _, _, rfl, _, _, rfl, _, _, rfl, rfl, ?_⟩
      refine ⟨_, rfl, rfl, _, rfl, ?_⟩
      rw [hw1.isF]
      have hht : (Bd.nd e1 a1 b1).ht = max a1.ht b1.ht + 1 := rfl
      have nt : isF a1 = true → isF b1 = false := fun h1 => by
        cases h : isF b1 with
        | false => rfl
        | true =>
          have := wf_ne wA' rfl
          exact absurd ((isF_iff.mp h1).trans (isF_iff.mp h).symm) this
      refine ite2 (fun e => ?_) (fun e => ?_)
      · have ef : fset (Bd.nd e1 a1 b1) = e1 :: fset b1 := by
          show (if isF a1 = true then e1 :: fset b1 else fset a1) = _
          exact if_pos e
        rw [ef] at epre
        refine ⟨_, rfl, .inl ⟨rfl, _, .inl (.inl ep)⟩, _, rfl, p, _, _, rfl, rfl, ep, by rw [List.length_map]; exact Nat.lt_of_le_of_lt (m := 1000) (by omega) (by decide), ?_⟩
        refine ⟨_, rfl, b1.ht, by omega, ?_, pre ++ [e1], t1, b1, _, _, _, rfl, ht1, (wf_kids wA').2, nt e, by rw [List.append_assoc]; exact epre, by rw [List.length_append]; show _ + 1 + _ ≤ _; omega, by rw [upd_same, List.map_append]; rfl, rfl⟩
        intro z o hz
        rw [upd_ne (ne_of_none hz np)]
        exact si _ _ hz
      · have e : isF a1 = false := by simpa using e
        have ef : fset (Bd.nd e1 a1 b1) = fset a1 := by
          show (if isF a1 = true then e1 :: fset b1 else fset a1) = _
          rw [if_neg (by rw [e]; exact Bool.false_ne_true)]
        rw [ef] at epre
        exact ⟨_, rfl, a1.ht, by omega, si, pre, w1, a1, _, _, _, rfl, hw1, (wf_kids wA').1, e, epre, by omega, ep, rfl⟩
    · have ef : fset A' = [] := by
        cases hA' with
        | f => rfl
        | t => rfl
        | nd _ _ _ => exact absurd (decide_eq_true (by omega)) e
      rw [ef, List.append_nil] at epre
      subst epre
      exact ⟨_, rfl, q Hi p si np ep⟩
end

/-! ### a name set to a dict by comprehension, on one line -/
section
variable {X : Cx}
theorem ps_setDc {i : Nat} {y : Str} {py : Pos} {kx vx tg iter : Expr} {ifs : List Expr} {scope : Scope} {own : List (Str × Nat)} {pos spos : Pos} {wi : TI} {g : TG} {tt : TT} {tk tv : TE} (hc : X.calm = true) (hN : X.N.Nodup) (hy : X.N[i]? = some y) (hyl : X.env.scope.names.lookup y = some .local)
    (hsw : swapsWith (.DictComp kx vx [⟨tg, iter, ifs, 0⟩] scope pos) (some (.Name y py)) spos.line X.env = pure true) (hi : PI X tg iter wi) (ok : BlkOk X.N X.env.scope scope own)
    (hg : ∀ (s : Shared) (H : Hp) (C : Addr) (cl : List (Str × Addr)) (fp : List Addr), PG (X.blk s H scope (compEnvC scope cl C X.env) fp) tg g) (ht : ∀ (s : Shared) (H : Hp) (C : Addr) (cl : List (Str × Addr)) (fp : List Addr), PTs (X.blk s H scope (compEnvC scope cl C X.env) fp) ifs tt)
    (hk : ∀ (s : Shared) (H : Hp) (C : Addr) (cl : List (Str × Addr)) (fp : List Addr), PE (X.blk s H scope (compEnvC scope cl C X.env) fp) kx tk)
    (he : ∀ (s : Shared) (H : Hp) (C : Addr) (cl : List (Str × Addr)) (fp : List Addr), PE (X.blk s H scope (compEnvC scope cl C X.env) fp) vx tv) (hs : ∀ x, foldedSetIterable iter X.env x = pure x := by intro _; rfl) :
    PS X (.Assign [.Name y py] (.DictComp kx vx [⟨tg, iter, ifs, 0⟩] scope pos) spos) (tAsg (tDc wi g tt tk tv (own.map (·.2))) (gName i)) := by
  refine ⟨fun pins s σ H D I h => ?_⟩
  rw [exec_Assign_Name_used _ _ _ _ hsw]
  refine wpAny_bind (wpAny_standAt (wpAny_bind ?_))
  show wpAny _ X.A (do let _ ← comprehension (.DictComp kx vx [⟨tg, iter, ifs, 0⟩] scope pos) scope X.env (firstIterPos [⟨tg, iter, ifs, 0⟩] pos) newDict false (eval iter X.env) (some (assign (.Name y py) X.env))) _ _ s
  have h : tDc wi g tt tk tv (own.map (·.2)) σ H (fun x H1 => gName i x σ H1 D.nx) := h
  refine wpAny_bind (thn (dc_core (Qf := fun _ s' => SP X pins D .next s') hc hN I hi ok hg ht hk he hs h fun L C s' m H' I' q hn f => ?_) fun _ s' hq => wpAny_pure (wpAny_pure hq))
  show wpAny _ _ (assign (.Name y py) X.env (.ref L)) _ _ _
  refine wpAny_assign_Name (store_ok2 (v := V.ref L) I' hN hy (.inl hyl) rfl (fun s2 I2 ⟨a, sb, ha⟩ => ?_) (.inr hyl))
  obtain ⟨f0, f1, f2, f3, f4, f5⟩ := f
  have haC : C ≠ a := by
    rcases ha with z | z
    · rw [z]; exact f1
    · exact fun e => f4 y a z e.symm
  refine ⟨m, hn.sameBut sb haC, fun h3 sb3 => ?_⟩
  exact ⟨_, H', I2.turned (t' := s2.toks) (fun b o hb e => (sb3.2 b hb).trans e) f0 f1 f3 f4 f5, q⟩
theorem sw_trueD {kx vx : Expr} {gs : List Comprehension} {scope : Scope} {pos py : Pos} {y : Str} {l : Nat} {env : Env} (hk : env.scope.kind = .function) (hy : env.scope.names.lookup y = some .local) (hl : (py.line == pos.line) = true)
    (ha : (scope.names.any fun (n, k) => n == y && (k == .local || k == .cell)) = false) : swapsWith (.DictComp kx vx gs scope pos) (some (.Name y py)) l env = pure true := by
  have ky : env.kindOf y = some .local := hy
  have hb : env.blockKind = .function := by unfold Env.blockKind; rw [hk]; rfl
  unfold swapsWith
  simp only [hb, ky, ha, Expr.pos, hl]
  rfl
end

/-! ### how many sets meet a condition -/
def pl (ws : List Int) : Bd → Nat
  | .lf _ => ws.length
  | .nd e _ _ => ws.idxOf e
def ct (ws : List Int) : Bd → Nat
  | .lf b => if b = true then 1 else 0
  | .nd e w t => ct ws w * 2 ^ (pl ws w - (ws.idxOf e + 1)) + ct ws t * 2 ^ (pl ws t - (ws.idxOf e + 1))
def kd (ws : List Int) (a : Bd) : PyData := .tuple [.int ((pl ws a : Nat) : Int), .int ((ct ws a : Nat) : Int)]
theorem putK_le (kvs : List (Key × V)) (k : Key) (v : V) : (putK kvs k v).length ≤ kvs.length + 1 := by
  unfold putK
  split
  · rw [List.length_map]; omega
  · rw [List.length_append]; exact Nat.le_refl _
theorem kd_only (ws : List Int) : ∀ l : List Bd, tupOnlys (l.map (kd ws)) = true
  | [] => rfl
  | a :: l => by
    rw [List.map_cons]
    unfold tupOnlys
    rw [kd_only ws l]
    rfl
theorem kw_get {bs : List Bd} {a : Bd} (hk : knw bs a = true) : (Bd.lf false :: Bd.lf true :: bs)[nmb bs a]? = some a := by
  cases a with
  | lf v => cases v <;> rfl
  | nd e w t =>
    have hm := knw_nd.mp hk
    have hj := List.idxOf_lt_length_of_mem hm
    show bs[bs.idxOf (.nd e w t)]? = _
    rw [List.getElem?_eq_getElem hj, List.getElem_idxOf hj]
theorem idx_lt {ws : List Int} (hs : ws.Pairwise (· < ·)) {x y : Int} (hx : x ∈ ws) (hy : y ∈ ws) (h : x < y) : ws.idxOf x < ws.idxOf y := by
  have h1 := List.idxOf_lt_length_of_mem hx
  have h2 := List.idxOf_lt_length_of_mem hy
  have e1 := List.getElem_idxOf h1
  have e2 := List.getElem_idxOf h2
  rw [List.pairwise_iff_getElem] at hs
  rcases Nat.lt_trichotomy (ws.idxOf x) (ws.idxOf y) with g | g | g
  · exact g
  · have : x = y := by
      rw [← e1, ← e2]
      simp only [g]
    omega
  · have := hs _ _ h2 h1 g
    omega
theorem pl_lt {ws es : List Int} (hs : ws.Pairwise (· < ·)) (he : es.Pairwise (· < ·)) (sub : ∀ x ∈ es, x ∈ ws) {e : Int} {w t : Bd} (h : Wf es (.nd e w t)) : ws.idxOf e + 1 ≤ pl ws w ∧ ws.idxOf e + 1 ≤ pl ws t := by
  have hm := sub e h.none_of
  have hi := List.idxOf_lt_length_of_mem hm
  obtain ⟨pre, po, rfl, h1, h2, _⟩ := wf_nd h
  rw [List.pairwise_append] at he
  have hp := (List.pairwise_cons.mp he.2.1).1
  have one : ∀ a, Wf po a → ws.idxOf e + 1 ≤ pl ws a := fun a ha => by
    cases a with
    | lf b => exact hi
    | nd x p q => exact idx_lt hs hm (sub x (List.mem_append_right _ (List.mem_cons_of_mem _ ha.none_of))) (hp x ha.none_of)
  exact ⟨one w h1, one t h2⟩
theorem ct_le {ws es : List Int} (hs : ws.Pairwise (· < ·)) (he : es.Pairwise (· < ·)) (sub : ∀ x ∈ es, x ∈ ws) : ∀ {a : Bd}, Wf es a → ct ws a * 2 ^ pl ws a ≤ 2 ^ ws.length
  | .lf b, _ => by
    cases b with
    | true => exact Nat.le_of_eq (Nat.one_mul _)
    | false => exact Nat.le_trans (Nat.le_of_eq (Nat.zero_mul _)) (Nat.zero_le _)
  | .nd e w t, h => by
    obtain ⟨w1, w2⟩ := wf_kids h
    obtain ⟨p1, p2⟩ := pl_lt hs he sub h
    have g1 := ct_le hs he sub w1
    have g2 := ct_le hs he sub w2
    show (ct ws w * 2 ^ (pl ws w - (ws.idxOf e + 1)) + ct ws t * 2 ^ (pl ws t - (ws.idxOf e + 1))) * 2 ^ ws.idxOf e ≤ _
    have k1 : 2 ^ (pl ws w - (ws.idxOf e + 1)) * 2 ^ ws.idxOf e * 2 = 2 ^ pl ws w := by
      rw [Nat.mul_assoc, ← Nat.pow_succ, ← Nat.pow_add, Nat.succ_eq_add_one, Nat.sub_add_cancel p1]
    have k2 : 2 ^ (pl ws t - (ws.idxOf e + 1)) * 2 ^ ws.idxOf e * 2 = 2 ^ pl ws t := by
      rw [Nat.mul_assoc, ← Nat.pow_succ, ← Nat.pow_add, Nat.succ_eq_add_one, Nat.sub_add_cancel p2]
    rw [← k1] at g1
    rw [← k2] at g2
    rw [Nat.add_mul, Nat.mul_assoc, Nat.mul_assoc]
    generalize 2 ^ (pl ws w - (ws.idxOf e + 1)) * 2 ^ ws.idxOf e = A at g1 ⊢
    generalize 2 ^ (pl ws t - (ws.idxOf e + 1)) * 2 ^ ws.idxOf e = B at g2 ⊢
    rw [← Nat.mul_assoc] at g1 g2
    omega
theorem ct_lt {ws es : List Int} (hs : ws.Pairwise (· < ·)) (he : es.Pairwise (· < ·)) (sub : ∀ x ∈ es, x ∈ ws) {a : Bd} (h : Wf es a) : ct ws a ≤ 2 ^ ws.length := by
  refine Nat.le_trans ?_ (ct_le hs he sub h)
  exact Nat.le_mul_of_pos_right _ (Nat.two_pow_pos _)
/-- over a list's items with their places, into a dict -/
theorem dc_enum {w : World} {K : PySem.W.Frag} {a : Addr} {xs : List V} {g : TG} {tt : TT} {tk tv : TE} {vs : List Nat} {σ : L2.St} {H1 : Hp} {D : Addr} {Qd : Hp → Prop} (Pv : Nat → Hp → Prop) (h0 : Pv 0 (upd H1 D (.dK []))) (hl : ∀ i H, i ≤ xs.length → Pv i H → SqL K H a xs)
    (hs : ∀ i x H T, xs[i]? = some x → Pv i H → H T = none → g (.ref T) (wipe σ vs) (upd H T (.tup [.int ((i : Nat) : Int), x])) fun σ2 H2 => wipe σ2 vs = wipe σ vs ∧ tt σ2 H2 fun b H3 =>
      if b = true then tk σ2 H3 fun y H4 => tv σ2 H4 fun z H5 => ∃ kvs k, y = kV k ∧ H5 D = some (.dK kvs) ∧ kvs.length < sizeLine ∧ Pv (i + 1) (upd H5 D (.dK (putK kvs k z))) else Pv (i + 1) H3) (hd : ∀ H, Pv xs.length H → Qd H) :
    ∃ W : Nat → Nat → Hp → Prop, (∃ m, W 0 m (upd H1 D (.dK []))) ∧ ∀ i m H, W i m H →
      ((Ite K a).stop i H ∧ Qd H) ∨ ((Ite K a).go i H ∧ ∃ Nx : Hp → Prop, (∀ H', Nx H' → ∃ m', m' < m ∧ W (i + 1) m' H') ∧ ∀ x H', (Ite K a).yld i H x H' → g x (wipe σ vs) H' fun σ2 H2 => wipe σ2 vs = wipe σ vs ∧ tt σ2 H2 fun b H3 =>
        if b = true then tk σ2 H3 fun y H4 => tv σ2 H4 fun z H5 => ∃ kvs k, y = kV k ∧ H5 D = some (.dK kvs) ∧ kvs.length < sizeLine ∧ Nx (upd H5 D (.dK (putK kvs k z))) else Nx H3) := by
  refine ⟨fun i m H => m = xs.length - i ∧ i ≤ xs.length ∧ Pv i H, ⟨xs.length, by simp, Nat.zero_le _, h0⟩, ?_⟩
  rintro i m H ⟨rfl, hi, p⟩
  have q := hl i H hi p
  by_cases hlt : i < xs.length
  · refine .inr ⟨⟨xs, xs[i], q, by simp [hlt]⟩, Pv (i + 1), fun H' p' => ⟨xs.length - (i + 1), by omega, rfl, hlt, p'⟩, fun x H' y => ?_⟩
    obtain ⟨T, z, rfl, nT, rfl, hz⟩ := y
    exact hs i z H T (hz xs q) p nT
  · have e : i = xs.length := by omega
    subst e
    exact .inl ⟨⟨xs, q, Nat.le_refl _⟩, hd H p⟩
def sp_wfr : Sp := fun vs H Q _ => ∃ s p c : Nat, vs = [.int ((s : Nat) : Int), .int ((p : Nat) : Int), .int ((c : Nat) : Int)] ∧ s ≤ p ∧ p ≤ 1000 ∧ c < 2 ^ 64 ∧ Q (.int ((c * 2 ^ (p - s) : Nat) : Int)) H
def sp_ways (C : Addr) (K : PySem.W.Frag) : Sp := fun vs H Q _ => ∃ s N es L c A a ws, vs = [.ref s.p, .int ((c : Nat) : Int), .ref a] ∧ Sto C K H s N es L ∧ At N c A ∧ Wf es A ∧ A.sz ≤ 1000 ∧ H a = some (.lst (List.map V.int ws)) ∧ ws.Pairwise (· < ·) ∧ (∀ x ∈ es, x ∈ ws) ∧ ws.length ≤ 60 ∧
  ∀ H', Same H H' → Q (.int ((ct ws A * 2 ^ pl ws A : Nat) : Int)) H'
section
variable {P : Program} {w : World} {K : PySem.W.Frag} {mg : Str → Option Value} {base : Heap}
theorem ok_wfr {f : Addr} {fd : FuncData} (F : Fun K "ways_from" "ways_from" s_ways_from f fd) (M : Mg mg) : FnOk P w K mg base CX0 1 f fd ["start", "place", "count"] sp_wfr := by
  refine F.ok sc_ways_from (fun vs H Q E h => ?_) (fun cdv A0 outer s H vs Q E hr h => ?_)
  · obtain ⟨s, p, c, rfl, _⟩ := h
    rfl
  · obtain ⟨x, p, c, rfl, h1, h2, h3, q⟩ := h
    refine ⟨_, (pss_one (ps_ret (pe_op op_shl (pv 2) (pe_op op_sub (pv 1) (pv 0))))), ?_⟩
    refine ⟨_, rfl, _, rfl, _, rfl, _, _, rfl, rfl, ?_⟩
    dsimp only
    rw [show (p : Int) - (x : Int) = ((p - x : Nat) : Int) by omega]
    refine ⟨_, _, rfl, rfl, ⟨by omega, by omega, by omega⟩, ?_⟩
    have e : (c : Int) * 2 ^ ((p - x : Nat) : Int).toNat = ((c * 2 ^ (p - x) : Nat) : Int) := by
      rw [Int.toNat_natCast, Int.natCast_mul, Int.natCast_pow]
      rfl
    dsimp only
    rw [e]
    exact q
theorem ok_ways {f C : Addr} {fd : FuncData} (F : Fun K "ways" "Diagrams.ways" s_Diagrams_ways f fd) (M : Mg mg) (G : DgC K C mg) (c_Diagrams_table : ClM P w K mg base 3 C "table" (sp_table C K)) (c_ways_from : Cl P w K mg base 1 "ways_from" sp_wfr) : FnOk P w K mg base CX0 4 f fd ["self", "condition", "entries"] (sp_ways C K) := by
  refine F.ok sc_Diagrams_ways (fun vs H Q E h => ?_) (fun cdv A0 outer s H vs Q E hr h => ?_)
  · obtain ⟨s, N, es, L, c, A, a, ws, rfl, _⟩ := h
    rfl
  · obtain ⟨s, N, es, L, c, A, a, ws, rfl, st, hA, wA, hsz, ha, hws, sub, hl, q⟩ := h
    have hes := st.2.2.2.2.2.2
    refine ⟨_, (pss_cons (ps_asg (pe_mt c_Diagrams_table hr (by first | decide | omega) (pv 0) (pa_cons (pv 1) pa_nil)) (pg_tup (by rfl) (pgs_cons (pg_name (i := 3) sc_Diagrams_ways.nd rfl (.inl rfl)) (pgs_cons (pg_name (i := 4) sc_Diagrams_ways.nd rfl (.inl rfl)) pgs_nil))))
      (pss_cons (ps_setDc (i := 6) (own := [("at", 14), ("entry", 5)]) (g := gTup K 2 (gCons (gName 14) (gCons (gName 5) (gNil)))) (tt := tYes) rfl sc_Diagrams_ways.nd rfl rfl (sw_trueD rfl rfl rfl (by decide +kernel)) (pi_enum (by rfl) M.enumerate (pa_cons (pv 2) pa_nil)) (blkOk_by (N := N_Diagrams_ways) (sc := defScope s_Diagrams_ways) (by decide +kernel)) (fun _ _ _ _ _ => (pg_tup (by rfl) (pgs_cons (pg_name (i := 14) sc_Diagrams_ways.nd rfl (.inl rfl)) (pgs_cons (pg_name (i := 5) sc_Diagrams_ways.nd rfl (.inl rfl)) pgs_nil)))) (fun _ _ _ _ _ => pts_nil) (fun _ _ _ _ _ => (pv 5)) (fun _ _ _ _ _ => (pv 14)))
      (pss_cons (ps_set (i := 7) sc_Diagrams_ways.nd rfl (.inl rfl) (pe_lst (pa_cons (pe_tup (pa_cons (pe_callB (len_seqK K) (by rfl) M.len PySem.boot_len (pa_cons (pv 2) pa_nil)) (pa_cons pe_int pa_nil))) (pa_cons (pe_tup (pa_cons (pe_callB (len_seqK K) (by rfl) M.len PySem.boot_len (pa_cons (pv 2) pa_nil)) (pa_cons pe_int pa_nil))) pa_nil))))
      (pss_cons (ps_for PassesOwn.never rfl (pi_list (pv 3)) (pg_tup (by rfl) (pgs_cons (pg_name (i := 5) sc_Diagrams_ways.nd rfl (.inl rfl)) (pgs_cons (pg_name (i := 8) sc_Diagrams_ways.nd rfl (.inl rfl)) (pgs_cons (pg_name (i := 9) sc_Diagrams_ways.nd rfl (.inl rfl)) pgs_nil)))) (pss_cons (ps_set (i := 10) sc_Diagrams_ways.nd rfl (.inr rfl) (pe_dget (hu_of hr) (pv 6) (pv 5) (fun _ _ => rfl)))
      (pss_cons (ps_set (i := 11) sc_Diagrams_ways.nd rfl (.inl rfl) (pe_tup (pa_cons (pe_ix (ix_listK K) (pv 7) (pv 8) (fun _ _ => rfl)) (pa_cons (pe_ix (ix_listK K) (pv 7) (pv 9) (fun _ _ => rfl)) pa_nil))))
      (pss_one (ps_expr (pe_bmK K PySem.F.plainAttrs_list PySem.F.slot_list_append PySem.F.type_list_append mt_append (pv 7) (pa_cons (pe_tup (pa_cons (pv 10) (pa_cons (pe_callB (cr_sum rfl) (by rfl) M.sum (by decide +kernel) (pa_cons (pe_lc (own := [("place", 12), ("count", 13)]) (g := gTup K 2 (gCons (gName 12) (gCons (gName 13) (gNil)))) (tt := tYes) rfl sc_Diagrams_ways.nd (pi_tup (pv 11)) (blkOk_by (N := N_Diagrams_ways) (sc := defScope s_Diagrams_ways) (by decide +kernel)) (fun _ _ _ _ _ => (pg_tup (by rfl) (pgs_cons (pg_name (i := 12) sc_Diagrams_ways.nd rfl (.inl rfl)) (pgs_cons (pg_name (i := 13) sc_Diagrams_ways.nd rfl (.inl rfl)) pgs_nil)))) (fun _ _ _ _ _ => pts_nil) (fun _ _ _ _ _ => (pe_u c_ways_from hr (by first | decide | omega) (by rfl) (pa_cons (pe_op op_add (pv 10) pe_int) (pa_cons (pv 12) (pa_cons (pv 13) pa_nil)))))) pa_nil)) pa_nil))) pa_nil)))))))
      (pss_cons (ps_asg (pe_ix (ix_listK K) (pv 7) (pv 4) (fun _ _ => rfl)) (pg_tup (by rfl) (pgs_cons (pg_name (i := 12) sc_Diagrams_ways.nd rfl (.inl rfl)) (pgs_cons (pg_name (i := 13) sc_Diagrams_ways.nd rfl (.inl rfl)) pgs_nil))))
      (pss_one (ps_ret (pe_u c_ways_from hr (by first | decide | omega) (by rfl) (pa_cons pe_int (pa_cons (pv 12) (pa_cons (pv 13) pa_nil))))))))))), ?_⟩
    refine ⟨_, rfl, st.go (by decide +kernel) (by decide +kernel) (by decide +kernel) ⟨_, rfl, ?_⟩⟩
    refine ⟨s, N, es, L, c, A, rfl, st, hA, hsz, fun H1 q1 nl xs s1 e1 nnl enl dxs => ?_⟩
    have hlen := post_len A []
    have hord : Ordd (post [] A) := post_ord A [] (by intro _ _ _ _ h; simp at h)
    have hnds := post_nds A [] (by intro _ h; cases h)
    have hwf := post_wf A [] wA (by intro _ h; cases h)
    have hself := post_self A []
    generalize post [] A = acc at e1 dxs hlen hord hnds hself hwf
    have h00 : ([] : List Bd).length = 0 := rfl
    refine ⟨q1, _, rfl, .of e1, rfl, _, _, rfl, _, _, rfl, rfl, ?_⟩
    have ha1 := s1 _ _ ha
    -- the places
    refine ⟨_, rfl, a, _, rfl, .of ha1, fun D nD => ?_⟩
    refine dc_enum (w := w) (K := K) (a := a) (xs := ws.map V.int) (fun i Hi => Same H1 Hi ∧ ∃ kvs, Hi D = some (.dK kvs) ∧ kvs.length ≤ i ∧ ∀ x ∈ ws.take i, valV kvs (.inl x) = some (.int ((ws.idxOf x : Nat) : Int))) ⟨same_upd nD, [], upd_same, Nat.le_refl _, by intro _ h; simp at h⟩ (fun i Hi _ hp => .of (hp.1 _ _ ha1)) (fun i x Hi T hx hp nT => ?_) (fun H2 hp => ?_)
    · obtain ⟨si, kvs, eD, lk, hv⟩ := hp
      rw [List.getElem?_map] at hx
      obtain ⟨y, hy, rfl⟩ := Option.map_eq_some_iff.mp hx
      have hi : i < ws.length := (List.getElem?_eq_some_iff.mp hy).1
      refine ⟨T, _, rfl, .of upd_same, rfl, _, _, rfl, _, _, rfl, rfl, rfl, ?_⟩
      have sT := same_upd nT (o := .tup [.int ((i : Nat) : Int), .int y])
      refine ⟨_, rfl, _, rfl, kvs, .inl y, rfl, sT _ _ eD, Nat.lt_of_le_of_lt (m := 60) (by omega) (by decide), ?_, _, upd_same, ?_, fun z hz => ?_⟩
      · intro b o hb
        rw [upd_ne (ne_of_none hb nD)]
        exact sT _ _ (si _ _ hb)
      · have := putK_le kvs (.inl y : Key) (.int ((i : Nat) : Int))
        omega
      · rw [valV_put]
        have hyi : ws[i] = y := by rw [List.getElem?_eq_getElem hi] at hy; exact Option.some.inj hy
        by_cases g : z = y
        · subst g
          rw [if_pos rfl]
          have : ws.idxOf z = i := by
            rw [← hyi]
            exact List.Nodup.idxOf_getElem (hws.imp (fun h => by omega)) i hi
          rw [this]
        · rw [if_neg (fun q => g (Sum.inl.inj q))]
          refine hv z ?_
          rw [List.take_add_one, hy] at hz
          rcases List.mem_append.mp hz with hz | hz
          · exact hz
          · exact absurd (List.mem_singleton.mp hz) g
    obtain ⟨s2, kvs, eD, _, hv⟩ := hp
    rw [List.length_map, List.take_of_length_le (Nat.le_refl _)] at hv
    have ha2 := s2 _ _ ha1
    -- the first two
    refine ⟨_, rfl, a, _, rfl, .inl (.of ha2), by show 2 ≤ sizeLine; decide, fun T1 nT1 => ?_⟩
    rw [List.length_map]
    have sT1 := same_upd nT1 (o := .tup [.int ((ws.length : Nat) : Int), .int 0])
    refine ⟨_, rfl, a, _, rfl, .inl (.of (sT1 _ _ ha2)), by show 2 ≤ sizeLine; decide, fun T2 nT2 => ?_⟩
    rw [List.length_map]
    have dT1 : Dp K (upd H2 T1 (.tup [.int ((ws.length : Nat) : Int), .int 0])) (.ref T1) (kd ws (.lf false)) := .tup (.of upd_same) (.cons (.int _) (.cons (.int _) .nil))
    generalize upd H2 T1 (.tup [.int ((ws.length : Nat) : Int), .int 0]) = H3 at sT1 nT2 dT1
    have sT2 := same_upd nT2 (o := .tup [.int ((ws.length : Nat) : Int), .int 1])
    have dT2 : Dp K (upd H3 T2 (.tup [.int ((ws.length : Nat) : Int), .int 1])) (.ref T2) (kd ws (.lf true)) := .tup (.of upd_same) (.cons (.int _) (.cons (.int _) .nil))
    generalize upd H3 T2 (.tup [.int ((ws.length : Nat) : Int), .int 1]) = H4 at sT2 dT2
    refine ⟨by show 2 ≤ sizeLine; decide, fun kn nkn => ?_⟩
    have sk := same_upd nkn (o := .lst [.ref T1, .ref T2])
    have s14 := (s2.trans sT1).trans sT2
    have nkH1 := s14.free nkn
    have lxs : xs.length = acc.length := by rw [DpAll.len dxs, List.length_map]
    have two : ∀ {Hi : Hp} {v : V} {b : Bd}, Dp K Hi v (kd ws b) → ∃ p, v = .ref p ∧ SqT K Hi p [.int ((pl ws b : Nat) : Int), .int ((ct ws b : Nat) : Int)] := fun {Hi v b} d => by
      obtain ⟨p, rs, rfl, h1, h2⟩ := dp_tup d
      cases h2 with
      | cons g1 g2 =>
        cases g1
        cases g2 with
        | cons g3 g4 =>
          cases g3
          cases g4
          exact ⟨p, rfl, h1⟩
    have plb : ∀ b, pl ws b ≤ 1000 := fun b => by
      cases b with
      | lf _ => show ws.length ≤ _; omega
      | nd e w t => exact Nat.le_trans List.idxOf_le_length (by omega)
    have ctb : ∀ b, Wf es b → ct ws b < 2 ^ 64 := fun b hb => Nat.lt_of_le_of_lt (ct_lt hws hes sub hb) (Nat.pow_lt_pow_right (by decide) (by omega))
    refine ⟨_, rfl, nl, rfl, ⟨_, .of (sk _ _ (s14 _ _ enl))⟩, ?_⟩
    refine for_list (K := K) (a := nl) (xs := xs) (fun i σ Hi => Same H4 Hi ∧ (∃ z5 z8 z9 z10 z11 z12 z13 z14, σ = [some (.ref s.p), some (.int ((c : Nat) : Int)), some (.ref a), some (.ref nl), some (.int ((nmb acc A : Nat) : Int)), z5, some (.ref D), some (.ref kn), z8, z9, z10, z11, z12, z13, z14]) ∧ ∃ vs, Hi kn = some (.lst vs) ∧ DpAll K Hi vs ((Bd.lf false :: Bd.lf true :: acc.take i).map (kd ws)))
      ⟨sk, ⟨_, _, _, _, _, _, _, _, rfl⟩, _, upd_same, .cons (Dp.ext (sT2.trans sk) _ _ dT1) (.cons (Dp.ext sk _ _ dT2) .nil)⟩ (fun i σ Hi _ hp => .of (hp.1 _ _ (s14 _ _ enl))) (fun i y σ Hi hy hp => ?_) (fun σ Hn hp => ?_)
    · obtain ⟨si, ⟨z5, z8, z9, z10, z11, z12, z13, z14, rfl⟩, vs, ekn, dvs⟩ := hp
      have hi : i < acc.length := by rw [← lxs]; exact (List.getElem?_eq_some_iff.mp hy).1
      obtain ⟨u, hu, hd⟩ := DpAll.get dxs (show (acc.map (rowD acc))[i]? = some (rowD acc acc[i]) by rw [List.getElem?_map, List.getElem?_eq_getElem hi]; rfl)
      obtain rfl : u = y := Option.some.inj (hu.symm.trans hy)
      obtain ⟨e, wt, tt', hei⟩ := hnds acc[i] (List.getElem_mem hi)
      have hwi : Wf es (.nd e wt tt') := by rw [← hei]; exact hwf acc[i] (List.getElem_mem hi)
      obtain ⟨k1, k2⟩ := hord i e wt tt' (by rw [List.getElem?_eq_getElem hi, hei])
      have pt := List.take_prefix i acc
      rw [hei] at hd
      have hd' : Dp K H1 u (.tuple [.int e, .int ((nmb (acc.take i) wt : Nat) : Int), .int ((nmb (acc.take i) tt' : Nat) : Int)]) := by
        rw [← nmb_pre pt k1, ← nmb_pre pt k2]
        exact hd
      obtain ⟨ra, rs, rfl, hrs, hra⟩ := dp_tup hd'
      have : rs = [.int e, .int ((nmb (acc.take i) wt : Nat) : Int), .int ((nmb (acc.take i) tt' : Nat) : Int)] := by
        cases hra with
        | cons g1 g2 =>
          cases g1
          cases g2 with
          | cons g3 g4 =>
            cases g3
            cases g4 with
            | cons g5 g6 =>
              cases g5
              cases g6
              rfl
      subst this
      have s1i := s14.trans si
      obtain ⟨u1, hu1, du1⟩ := DpAll.get dvs (show _ = some (kd ws wt) by rw [List.getElem?_map, kw_get k1]; rfl)
      obtain ⟨u2, hu2, du2⟩ := DpAll.get dvs (show _ = some (kd ws tt') by rw [List.getElem?_map, kw_get k2]; rfl)
      obtain ⟨p1, rfl, sq1⟩ := two du1
      obtain ⟨p2, rfl, sq2⟩ := two du2
      refine ⟨ra, _, rfl, SqT.ext s1i hrs, rfl, _, _, rfl, _, _, rfl, _, _, rfl, rfl, ?_⟩
      have hee := sub e hwi.none_of
      refine ⟨_, rfl, _, rfl, D, _, rfl, .inl ⟨kvs, .inl e, .of ((sT1.trans (sT2.trans si)) _ _ eD), rfl, (hv e hee).symm⟩, ?_⟩
      refine ⟨_, rfl, _, rfl, kn, vs, _, _, rfl, rfl, .of ekn, atI_nat hu1, _, rfl, _, rfl, kn, vs, _, _, rfl, rfl, .of ekn, atI_nat hu2, by show 2 ≤ sizeLine; decide, fun Pp nPp => ?_⟩
      have sP := same_upd nPp (o := .tup [.ref p1, .ref p2])
      have eP : (upd Hi Pp (.tup [.ref p1, .ref p2])) Pp = some (.tup [.ref p1, .ref p2]) := upd_same
      generalize upd Hi Pp (.tup [.ref p1, .ref p2]) = H5 at sP eP
      refine ⟨_, rfl, .inl ⟨rfl, _, .inl (.inl (sP _ _ ekn))⟩, ?_⟩
      refine ⟨_, rfl, _, rfl, Pp, rfl, ⟨_, .of eP⟩, fun D2 nD2 => ?_⟩
      obtain ⟨l1, l2⟩ := pl_lt hws hes sub hwi
      obtain ⟨w1, w2⟩ := wf_kids hwi
      generalize hX1 : ((ct ws wt * 2 ^ (pl ws wt - (ws.idxOf e + 1)) : Nat) : Int) = X1
      generalize hX2 : ((ct ws tt' * 2 ^ (pl ws tt' - (ws.idxOf e + 1)) : Nat) : Int) = X2
      refine lc_tup (K := K) (a := Pp) (xs := [.ref p1, .ref p2]) (fun j Hj => Same H5 Hj ∧ Hj D2 = some (.lst (([X1, X2].take j).map V.int))) ⟨same_upd nD2, upd_same⟩ (fun j Hj _ hp => .of (hp.1 _ _ eP)) (fun j x Hj hx hp => ?_) (fun Hm hp => ?_)
      · obtain ⟨sj, eD2⟩ := hp
        have pick : ∃ b p, x = .ref p ∧ SqT K Hi p [.int ((pl ws b : Nat) : Int), .int ((ct ws b : Nat) : Int)] ∧ ws.idxOf e + 1 ≤ pl ws b ∧ Wf es b ∧ [X1, X2].take (j + 1) = [X1, X2].take j ++ [((ct ws b * 2 ^ (pl ws b - (ws.idxOf e + 1)) : Nat) : Int)] ∧ j < 2 := by
          match j, hx with
          | 0, hx => exact ⟨wt, p1, (Option.some.inj hx).symm, sq1, l1, w1, by rw [hX1]; rfl, by omega⟩
          | 1, hx => exact ⟨tt', p2, (Option.some.inj hx).symm, sq2, l2, w2, by rw [hX2]; rfl, by omega⟩
          | j + 2, hx => simp at hx
        obtain ⟨b, p, rfl, sq, l, wb, etk, hj⟩ := pick
        refine ⟨p, _, rfl, SqT.ext (sP.trans sj) sq, rfl, _, _, rfl, _, _, rfl, rfl, rfl, ?_⟩
        refine ⟨_, rfl, _, _, rfl, rfl, _, rfl, _, rfl, ws.idxOf e + 1, pl ws b, ct ws b, rfl, l, plb b, ctb b wb, ?_⟩
        refine ⟨_, eD2, ?_, ?_, ?_⟩
        · rw [List.length_map, List.length_take]
          exact Nat.lt_of_le_of_lt (m := 2) (Nat.min_le_right _ _) (by decide)
        · intro z o hz
          rw [upd_ne (ne_of_none hz nD2)]
          exact sj _ _ hz
        · rw [upd_same, etk, List.map_append]
          rfl
      obtain ⟨sm, eD2⟩ := hp
      have esum : ([X1, X2] : List Int).sum = ((ct ws (.nd e wt tt') : Nat) : Int) := by
        rw [← hX1, ← hX2]
        show _ + (_ + (0 : Int)) = _
        rw [Int.add_zero]
        exact (Int.natCast_add _ _).symm
      refine ⟨D2, [X1, X2], rfl, .of eD2, by show 2 ≤ sizeLine; decide, fun Tq nTq => ?_⟩
      rw [esum]
      have sq := same_upd nTq (o := .tup [.int ((ws.idxOf e : Nat) : Int), .int ((ct ws (.nd e wt tt') : Nat) : Int)])
      have dq : Dp K (upd Hm Tq (.tup [.int ((ws.idxOf e : Nat) : Int), .int ((ct ws (.nd e wt tt') : Nat) : Int)])) (.ref Tq) (kd ws (.nd e wt tt')) := .tup (.of upd_same) (.cons (.int _) (.cons (.int _) .nil))
      generalize upd Hm Tq (.tup [.int ((ws.idxOf e : Nat) : Int), .int ((ct ws (.nd e wt tt') : Nat) : Int)]) = H6 at sq dq
      have s6 := (sP.trans sm).trans sq
      have ekn6 := s6 _ _ ekn
      have lvs : vs.length = i + 2 := by
        rw [DpAll.len dvs, List.length_map, List.length_cons, List.length_cons, List.length_take]
        omega
      refine ⟨kn, vs, _, rfl, rfl, ekn6, by rw [lvs]; exact Nat.lt_of_le_of_lt (m := 1002) (by omega) (by decide), ?_, ⟨_, _, _, _, _, _, _, _, rfl⟩, vs ++ [.ref Tq], upd_same, ?_⟩
      · intro z o hz
        rw [upd_ne (ne_of_none hz nkn)]
        exact s6 _ _ (si _ _ hz)
      · have etk : (Bd.lf false :: Bd.lf true :: acc.take (i + 1)).map (kd ws) = (Bd.lf false :: Bd.lf true :: acc.take i).map (kd ws) ++ [kd ws (.nd e wt tt')] := by
          rw [List.take_add_one, List.getElem?_eq_getElem hi, hei, ← List.cons_append, ← List.cons_append, List.map_append]
          rfl
        rw [etk]
        exact DpAll.snoc (DpAll.away ekn6 _ _ (kd_only ws _) (DpAll.ext s6 _ _ dvs)) (Dp.away ekn6 _ _ rfl dq)
    · obtain ⟨sn, ⟨z5, z8, z9, z10, z11, z12, z13, z14, rfl⟩, vs, ekn, dvs⟩ := hp
      rw [lxs, List.take_of_length_le (Nat.le_refl _)] at dvs
      obtain ⟨u, hu, du⟩ := DpAll.get dvs (show _ = some (kd ws A) by rw [List.getElem?_map, kw_get hself]; rfl)
      obtain ⟨p, rfl, sq⟩ := two du
      refine ⟨_, rfl, _, rfl, kn, vs, _, _, rfl, rfl, .of ekn, atI_nat hu, p, _, rfl, sq, rfl, _, _, rfl, _, _, rfl, rfl, ?_⟩
      refine ⟨_, rfl, _, rfl, 0, pl ws A, ct ws A, rfl, Nat.zero_le _, plb A, ctb A wA, ?_⟩
      rw [Nat.sub_zero]
      exact q _ ((s1.trans s14).trans sn)
end

/-! ### counting sets -/
def num : List Int → (List Int → Bool) → List Int → Nat
  | [], P, q => if P q = true then 1 else 0
  | x :: es, P, q => num es P q + num es P (q ++ [x])
theorem num_sum (P : List Int → Bool) : ∀ (es : List Int) (f : List (List Int)), ((es.foldl (fun f e => f ++ f.map (· ++ [e])) f).filter P).length = (f.map (num es P)).sum
  | [], f => by
    induction f with
    | nil => rfl
    | cons q f ih =>
      show ((q :: f).filter P).length = num [] P q + (f.map (num [] P)).sum
      rw [← ih, List.filter_cons]
      show _ = (if P q = true then 1 else 0) + (f.filter P).length
      cases P q with
      | true => rw [if_pos rfl, if_pos rfl, List.length_cons]; omega
      | false => rw [if_neg Bool.false_ne_true, if_neg Bool.false_ne_true]; omega
  | x :: es, f => by
    rw [List.foldl_cons, num_sum P es, List.map_append, List.sum_append]
    induction f with
    | nil => rfl
    | cons q f ih =>
      simp only [List.map_cons, List.sum_cons] at ih ⊢
      show _ = num es P q + num es P (q ++ [x]) + _
      omega
theorem num_subs (P : List Int → Bool) (es : List Int) : ((subs es).filter P).length = num es P [] := by
  unfold subs
  rw [num_sum]
  show num es P [] + 0 = _
  omega
def Seen (es : List Int) (P : List Int → Bool) : Prop := ∀ p p' : List Int, (∀ y ∈ es, (y ∈ p ↔ y ∈ p')) → P p = P p'
theorem num_q {es0 : List Int} {P : List Int → Bool} (hP : Seen es0 P) : ∀ (es : List Int) (q q' : List Int), (∀ y ∈ es0, (y ∈ q ↔ y ∈ q')) → num es P q = num es P q'
  | [], q, q', h => by
    show (if P q = true then 1 else 0) = if P q' = true then 1 else 0
    rw [hP q q' h]
  | x :: es, q, q', h => by
    show num es P q + num es P (q ++ [x]) = num es P q' + num es P (q' ++ [x])
    rw [num_q hP es q q' h, num_q hP es (q ++ [x]) (q' ++ [x]) fun y hy => by rw [List.mem_append, List.mem_append, h y hy]]
theorem num_sub {es0 : List Int} {P : List Int → Bool} (hP : Seen es0 P) {es ws : List Int} (h : es.Sublist ws) : (∀ y ∈ ws, y ∈ es0 → y ∈ es) → ∀ q, ws.Nodup → num ws P q = num es P q * 2 ^ (ws.length - es.length) := by
  induction h with
  | slnil => intro _ q _; show _ = _ * 2 ^ (0 - 0); rw [Nat.sub_self, Nat.pow_zero, Nat.mul_one]
  | @cons es ws y h ih =>
    intro hy q hn
    rw [List.nodup_cons] at hn
    have hl := h.length_le
    have g := ih (fun z hz => hy z (List.mem_cons_of_mem _ hz))
    show num ws P q + num ws P (q ++ [y]) = _
    have ny : y ∉ es0 := fun z => hn.1 (h.subset (hy y List.mem_cons_self z))
    rw [num_q hP ws (q ++ [y]) q fun z hz => by
      rw [List.mem_append, List.mem_singleton]
      exact ⟨fun g => g.elim id (fun e => absurd (e ▸ hz) ny), .inl⟩, g q hn.2, List.length_cons, Nat.succ_sub hl, Nat.pow_succ]
    rw [← Nat.mul_assoc]
    omega
  | @cons_cons es ws y h ih =>
    intro hy q hn
    rw [List.nodup_cons] at hn
    have g := ih (fun z hz ze => by
      rcases List.mem_cons.mp (hy z (List.mem_cons_of_mem _ hz) ze) with e | m
      · exact absurd (e ▸ hz) hn.1
      · exact m)
    show num ws P q + num ws P (q ++ [y]) = (num es P q + num es P (q ++ [y])) * _
    rw [g q hn.2, g _ hn.2, List.length_cons, List.length_cons, Nat.add_sub_add_right, Nat.add_mul]
theorem wf_sub {es ws : List Int} (h : es.Sublist ws) : ∀ {a : Bd}, Wf es a → Wf ws a := by
  induction h with
  | slnil => exact fun h => h
  | cons y _ ih => exact fun h => .skip (ih h)
  | cons_cons y _ ih =>
    intro a h
    cases h with
    | lf => exact .lf
    | here hw ht hn => exact .here (ih hw) (ih ht) hn
    | skip h => exact .skip (ih h)
def evP (a : Bd) (p : List Int) : Bool := a.ev fun x => decide (x ∈ p)
theorem num_lf (b : Bool) : ∀ (es q : List Int), num es (evP (.lf b)) q = (if b = true then 1 else 0) * 2 ^ es.length
  | [], q => by
    show (if (evP (.lf b) q) = true then 1 else 0) = _
    show (if b = true then 1 else 0) = _
    rw [List.length_nil, Nat.pow_zero, Nat.mul_one]
  | x :: es, q => by
    show num es _ q + num es _ (q ++ [x]) = _
    rw [num_lf b es, num_lf b es, List.length_cons, Nat.pow_succ, ← Nat.mul_assoc]
    omega
theorem num_congr {P P' : List Int → Bool} : ∀ (es q : List Int), (∀ p, (∀ y, y ∉ es → (y ∈ p ↔ y ∈ q)) → P p = P' p) → num es P q = num es P' q
  | [], q, h => by
    show (if P q = true then 1 else 0) = if P' q = true then 1 else 0
    rw [h q fun _ _ => Iff.rfl]
  | x :: es, q, h => by
    show num es P q + num es P (q ++ [x]) = num es P' q + num es P' (q ++ [x])
    rw [num_congr es q fun p hp => h p fun y hy => hp y fun z => hy (List.mem_cons_of_mem _ z), num_congr es (q ++ [x]) fun p hp => h p fun y hy => by
      rw [hp y fun z => hy (List.mem_cons_of_mem _ z), List.mem_append, List.mem_singleton]
      exact ⟨fun g => g.elim id (fun e => absurd (e ▸ List.mem_cons_self) hy), .inl⟩]
theorem pl_ge {ws : List Int} (hn : ws.Nodup) {es : List Int} {a : Bd} (h : Wf es a) (pre : List Int) (e : ws = pre ++ es) : pre.length ≤ pl ws a := by
  cases a with
  | lf b => show _ ≤ ws.length; rw [e, List.length_append]; omega
  | nd x w t =>
    show _ ≤ ws.idxOf x
    have hx : x ∉ pre := fun z => by
      rw [e, List.nodup_append] at hn
      exact hn.2.2 x z x h.none_of rfl
    rw [e, List.idxOf_append, if_neg hx]
    omega
theorem num_ct {ws : List Int} (hn : ws.Nodup) {es : List Int} {a : Bd} (h : Wf es a) : ∀ (pre : List Int), ws = pre ++ es → ∀ q : List Int, (∀ y ∈ es, y ∉ q) → num es (evP a) q = ct ws a * 2 ^ (pl ws a - pre.length) := by
  induction h with
  | @lf es b =>
    intro pre e q _
    rw [num_lf]
    show _ = (if b = true then 1 else 0) * 2 ^ (ws.length - pre.length)
    rw [e, List.length_append, Nat.add_sub_cancel_left]
  | @skip y es a ha ih =>
    intro pre e q hq
    have e' : ws = (pre ++ [y]) ++ es := by rw [e]; simp
    have ge := pl_ge hn ha (pre ++ [y]) e'
    have hy : y ∉ es := fun z => by
      rw [e, List.nodup_append, List.nodup_cons] at hn
      exact hn.2.1.1 z
    show num es _ q + num es _ (q ++ [y]) = _
    rw [ih _ e' q (fun z hz => hq z (List.mem_cons_of_mem _ hz)), ih _ e' (q ++ [y]) (fun z hz g => by
      rcases List.mem_append.mp g with g | g
      · exact hq z (List.mem_cons_of_mem _ hz) g
      · exact hy (List.mem_singleton.mp g ▸ hz))]
    rw [List.length_append, List.length_singleton] at ge ⊢
    have : pl ws a - pre.length = (pl ws a - (pre.length + 1)) + 1 := by omega
    rw [this, Nat.pow_succ, ← Nat.mul_assoc]
    omega
  | @here x es w t hw ht hne iw it =>
    intro pre e q hq
    have e' : ws = (pre ++ [x]) ++ es := by rw [e]; simp
    have hx : x ∉ es := fun z => by
      rw [e, List.nodup_append, List.nodup_cons] at hn
      exact hn.2.1.1 z
    have hxp : x ∉ pre := fun z => by
      rw [e, List.nodup_append] at hn
      exact hn.2.2 x z x List.mem_cons_self rfl
    have hid : ws.idxOf x = pre.length := by
      rw [e, List.idxOf_append, if_neg hxp, List.idxOf_cons_self]
      omega
    have ev : ∀ p, evP (.nd x w t) p = if decide (x ∈ p) = true then evP t p else evP w p := fun _ => rfl
    have g1 : num es (evP (.nd x w t)) q = num es (evP w) q := num_congr es q fun p hp => by
      rw [ev, decide_eq_false (fun z => hq x List.mem_cons_self ((hp x hx).mp z)), if_neg Bool.false_ne_true]
    have g2 : num es (evP (.nd x w t)) (q ++ [x]) = num es (evP t) (q ++ [x]) := num_congr es _ fun p hp => by
      rw [ev, decide_eq_true ((hp x hx).mpr (List.mem_append_right _ (List.mem_singleton.mpr rfl))), if_pos rfl]
    show num es _ q + num es _ (q ++ [x]) = ct ws (.nd x w t) * 2 ^ (ws.idxOf x - pre.length)
    rw [g1, g2, iw _ e' q (fun z hz => hq z (List.mem_cons_of_mem _ hz)), it _ e' (q ++ [x]) (fun z hz g => by
      rcases List.mem_append.mp g with g | g
      · exact hq z (List.mem_cons_of_mem _ hz) g
      · exact hx (List.mem_singleton.mp g ▸ hz)), hid, Nat.sub_self, Nat.pow_zero, Nat.mul_one]
    show _ = ct ws w * 2 ^ (pl ws w - (ws.idxOf x + 1)) + ct ws t * 2 ^ (pl ws t - (ws.idxOf x + 1))
    rw [hid, List.length_append, List.length_singleton]
/-- the law's count -/
theorem count_ok {es ws : List Int} (hs : es.Sublist ws) (hn : ws.Nodup) {a : Bd} (h : Wf es a) (t : Tr) (ok : t.ok es) (v : ∀ r, a.ev r = t.ev r) : ct ws a * 2 ^ pl ws a = ((subs es).filter fun p => t.ev fun x => decide (x ∈ p)).length * 2 ^ (ws.length - es.length) := by
  have hP : Seen es (evP a) := fun p p' hpp => by
    unfold evP
    rw [v, v]
    exact tr_agree ok fun y hy => decide_eq_decide.mpr (hpp y hy)
  have e1 := num_ct hn (wf_sub hs h) [] rfl [] (by intro _ _ z; cases z)
  rw [List.length_nil, Nat.sub_zero] at e1
  rw [← e1, num_sub hP hs (fun y _ hy => hy) [] hn, ← num_subs]
  congr 2
  refine List.filter_congr fun p _ => ?_
  exact v _

/-! ### lists of truths, ordered; numbers sorted -/
def lexB : List Bool → List Bool → Bool
  | [], [] => false
  | [], _ :: _ => true
  | _ :: _, [] => false
  | x :: xs, y :: ys => if x = y then lexB xs ys else (!x && y)
theorem lt_bls : ∀ xs ys : List Bool, xs.length = ys.length → PyProof.Rows.lexLt PyProof.Rows.itemOrd (PySem.W.keyToksAll (xs.map PyData.bool)) (PySem.W.keyToksAll (ys.map PyData.bool)) = lexB xs ys
  | [], [], _ => by decide +kernel
  | [], _ :: _, h => by cases h
  | _ :: _, [], h => by cases h
  | x :: xs, y :: ys, h => by
    have h' : xs.length = ys.length := by simpa using h
    rw [List.map_cons, List.map_cons]
    unfold lexB
    by_cases e : x = y
    · subst e
      rw [if_pos rfl, PySem.W.dataLt_all_yes rfl (by unfold PyData.eqv; cases x <;> rfl), lt_bls xs ys h']
    · rw [if_neg e, PySem.W.dataLt_all_no rfl (by unfold PyData.eqv; cases x <;> cases y <;> first | rfl | exact absurd rfl e), PySem.W.dataLt_bool]
      cases x <;> cases y <;> first | rfl | exact absurd rfl e
theorem alike_bls : ∀ xs ys : List Bool, PySem.W.alikeAll (xs.map PyData.bool) (ys.map PyData.bool) = true
  | [], _ => by unfold PySem.W.alikeAll; rfl
  | _ :: _, [] => by unfold PySem.W.alikeAll; rfl
  | x :: xs, y :: ys => by
    rw [List.map_cons, List.map_cons]
    unfold PySem.W.alikeAll
    rw [alike_bls xs ys]
    rfl
def rLtB (K : PySem.W.Frag) : R2 := fun x y H Q => ∃ (a b : Addr) (xs ys : List Bool), x = .ref a ∧ y = .ref b ∧ SqL K H a (xs.map V.bl) ∧ SqL K H b (ys.map V.bl) ∧ xs.length = ys.length ∧ Q (.bl (lexB xs ys)) H
theorem ltBK {X : Cx} (K : PySem.W.Frag) (hu : X.A.units + 64 < cLine) (h : X.K = K := by rfl) : OpR X (compareOp .Lt) (rLtB K) := by
  subst h
  intro pins s σ H x y v u Q I rx ry h
  obtain ⟨a, b, xs, ys, rfl, rfl, ha, hb, hl, q⟩ := h
  obtain ⟨as, r1⟩ := Dp.reads I _ _ v (dp_bls ha) rx
  obtain ⟨bs, r2⟩ := Dp.reads I _ _ u (dp_bls hb) ry
  have go := PySem.W.rcLt_alike _ _ X.A s v u as bs r1 r2 (by unfold PySem.W.alike; exact alike_bls xs ys) (by intro z; cases z) (SeqAt.room_of_shaped (bls_shaped xs) hu)
  rw [PySem.W.dataLt_list, lt_bls xs ys hl] at go
  exact go X.prog X.w X.xe _ ⟨.bl _, H, I, rfl, q⟩
theorem sortedK {X : Cx} (K : PySem.W.Frag) (h : X.K = K := by rfl) : CallR X (.builtin "sorted") (rSorted K) := by subst h; exact cr_sorted

/-! ### lists of lists -/
def Lf {α : Type} (f : α → V) (H : Hp) (p : Addr) (ls : List (List α)) : Prop := ∃ as : List Addr, H p = some (.lst (as.map V.ref)) ∧ as.length = ls.length ∧ ∀ (i : Nat) b l, as[i]? = some b → ls[i]? = some l → b ≠ p ∧ H b = some (.lst (l.map f))
theorem Lf.ext {α : Type} {f : α → V} {H H' : Hp} {p : Addr} {ls : List (List α)} (e : Same H H') (h : Lf f H p ls) : Lf f H' p ls := by
  obtain ⟨as, h1, h2, h3⟩ := h
  exact ⟨as, e _ _ h1, h2, fun i b l g1 g2 => ⟨(h3 i b l g1 g2).1, e _ _ (h3 i b l g1 g2).2⟩⟩
theorem Lf.snoc {α : Type} {f : α → V} {H : Hp} {p b : Addr} {ls : List (List α)} {l : List α} {xs : List V} (h : Lf f H p ls) (e : H p = some (.lst xs)) (n : b ≠ p) (hb : H b = some (.lst (l.map f))) : Lf f (upd H p (.lst (xs ++ [.ref b]))) p (ls ++ [l]) := by
  obtain ⟨as, h1, h2, h3⟩ := h
  have ex : xs = as.map V.ref := by rw [h1] at e; exact (HO.lst.inj (Option.some.inj e)).symm
  refine ⟨as ++ [b], by rw [upd_same, ex, List.map_append]; rfl, by rw [List.length_append, List.length_append, h2]; rfl, fun i c m hc hm => ?_⟩
  by_cases hi : i < as.length
  · rw [List.getElem?_append_left hi] at hc
    rw [List.getElem?_append_left (by omega)] at hm
    obtain ⟨g1, g2⟩ := h3 i c m hc hm
    exact ⟨g1, by rw [upd_ne g1]; exact g2⟩
  · rw [List.getElem?_append_right (by omega)] at hc
    rw [List.getElem?_append_right (by omega), ← h2] at hm
    cases hk : i - as.length with
    | zero =>
      rw [hk] at hc hm
      have e1 : b = c := Option.some.inj hc
      have e2 : l = m := Option.some.inj hm
      subst e1 e2
      exact ⟨n, by rw [upd_ne n]; exact hb⟩
    | succ k => rw [hk] at hc; simp at hc
theorem Lf.get {α : Type} {f : α → V} {H : Hp} {p : Addr} {ls : List (List α)} (h : Lf f H p ls) : ∃ as : List Addr, H p = some (.lst (as.map V.ref)) ∧ as.length = ls.length ∧ ∀ (i : Nat) l, ls[i]? = some l → ∃ b, as[i]? = some b ∧ H b = some (.lst (l.map f)) := by
  obtain ⟨as, h1, h2, h3⟩ := h
  refine ⟨as, h1, h2, fun i l hl => ?_⟩
  have hi : i < as.length := by rw [h2]; exact (List.getElem?_eq_some_iff.mp hl).1
  exact ⟨as[i], List.getElem?_eq_getElem hi, (h3 i _ l (List.getElem?_eq_getElem hi) hl).2⟩
/-! ### conditions by their truth -/
theorem subs_all' : ∀ (es pre : List Int) (f : List (List Int)), (pre ++ es).Nodup → (∀ ρ : Int → Bool, ∃ p ∈ f, (∀ e ∈ p, e ∈ pre) ∧ ∀ e ∈ pre, decide (e ∈ p) = ρ e) → ∀ ρ : Int → Bool, ∃ p ∈ es.foldl (fun f e => f ++ f.map (· ++ [e])) f, ∀ e ∈ pre ++ es, decide (e ∈ p) = ρ e
  | [], pre, f, _, h, ρ => by
    obtain ⟨p, hp, _, h2⟩ := h ρ
    exact ⟨p, hp, fun e he => h2 e (by rwa [List.append_nil] at he)⟩
  | x :: es, pre, f, hn, h, ρ => by
    have hx : x ∉ pre := by
      intro hx
      rw [List.nodup_append] at hn
      exact hn.2.2 x hx x List.mem_cons_self rfl
    have hn' : ((pre ++ [x]) ++ es).Nodup := by rw [List.append_assoc]; exact hn
    rw [List.foldl_cons, show pre ++ x :: es = (pre ++ [x]) ++ es by simp]
    refine subs_all' es (pre ++ [x]) _ hn' (fun ρ => ?_) ρ
    obtain ⟨p, hp, h1, h2⟩ := h ρ
    have hxp : x ∉ p := fun z => hx (h1 x z)
    cases e : ρ x with
    | true =>
      refine ⟨p ++ [x], List.mem_append_right _ (List.mem_map.mpr ⟨p, hp, rfl⟩), fun y hy => ?_, fun y hy => ?_⟩
      · rcases List.mem_append.mp hy with hy | hy
        · exact List.mem_append_left _ (h1 y hy)
        · exact List.mem_append_right _ hy
      · rcases List.mem_append.mp hy with hy | hy
        · have hyx : y ≠ x := fun z => hx (z ▸ hy)
          rw [← h2 y hy, decide_eq_decide, List.mem_append, List.mem_singleton]
          exact ⟨fun g => g.elim id (fun z => absurd z hyx), .inl⟩
        · rw [List.mem_singleton.mp hy, e]
          exact decide_eq_true (List.mem_append_right _ (List.mem_singleton.mpr rfl))
    | false =>
      refine ⟨p, List.mem_append_left _ hp, fun y hy => List.mem_append_left _ (h1 y hy), fun y hy => ?_⟩
      rcases List.mem_append.mp hy with hy | hy
      · exact h2 y hy
      · rw [List.mem_singleton.mp hy, e]
        exact decide_eq_false hxp
theorem subs_all {es : List Int} (hn : es.Nodup) (ρ : Int → Bool) : ∃ p ∈ subs es, ∀ e ∈ es, decide (e ∈ p) = ρ e :=
  subs_all' es [] [[]] hn (fun _ => ⟨[], List.mem_singleton.mpr rfl, fun _ h => (nomatch h), fun _ h => (nomatch h)⟩) ρ
def tru (es : List Int) (t : Tr) : List Bool := (subs es).map fun p => t.ev fun e => decide (e ∈ p)
theorem tru_eq {es : List Int} (hn : es.Nodup) {t u : Tr} (ht : t.ok es) (hu : u.ok es) : tru es t = tru es u ↔ ∀ ρ, t.ev ρ = u.ev ρ := by
  constructor
  · intro h ρ
    obtain ⟨p, hp, hr⟩ := subs_all hn ρ
    have := List.map_inj_left.mp h p hp
    rw [tr_agree ht hr, tr_agree hu hr] at this
    exact this
  · intro h
    exact List.map_inj_left.mpr fun p _ => h _
theorem tru_any {es : List Int} (hn : es.Nodup) {t : Tr} (ht : t.ok es) : (tru es t).any id = false ↔ ∀ ρ, t.ev ρ = false := by
  unfold tru
  rw [List.any_map, List.any_eq_false]
  constructor
  · intro h ρ
    obtain ⟨p, hp, hr⟩ := subs_all hn ρ
    have := h p hp
    rw [← tr_agree ht hr]
    simpa using this
  · intro h p _
    show ¬ (t.ev _) = true
    rw [h]
    exact Bool.false_ne_true
theorem tru_all {es : List Int} (hn : es.Nodup) {t : Tr} (ht : t.ok es) : (tru es t).all id = true ↔ ∀ ρ, t.ev ρ = true := by
  unfold tru
  rw [List.all_map, List.all_eq_true]
  constructor
  · intro h ρ
    obtain ⟨p, hp, hr⟩ := subs_all hn ρ
    have := h p hp
    rw [← tr_agree ht hr]
    exact this
  · intro h p _
    exact h _
theorem tru_len (es : List Int) (t : Tr) : (tru es t).length = 2 ^ es.length := by rw [tru, List.length_map, subs_len]
/-- conditions built, one for each tree -/
def Blt (N : Nds) (es : List Int) (ts : List Tr) (cs : List Nat) : Prop := cs.length = ts.length ∧ ∀ (i : Nat) t c, ts[i]? = some t → cs[i]? = some c → ∃ T, At N c T ∧ Wf es T ∧ ∀ ρ, T.ev ρ = t.ev ρ
theorem Blt.mono {N M : Nds} {es : List Int} {ts : List Tr} {cs : List Nat} (h : Blt N es ts cs) : Blt (N ++ M) es ts cs := ⟨h.1, fun i t c h1 h2 => by
  obtain ⟨T, a, b⟩ := h.2 i t c h1 h2
  exact ⟨T, a.mono, b⟩⟩
theorem Blt.snoc {N : Nds} {es : List Int} {ts : List Tr} {cs : List Nat} {t : Tr} {c : Nat} {T : Bd} (h : Blt N es ts cs) (a : At N c T) (b : Wf es T) (v : ∀ ρ, T.ev ρ = t.ev ρ) : Blt N es (ts ++ [t]) (cs ++ [c]) := by
  refine ⟨by rw [List.length_append, List.length_append, h.1]; rfl, fun i t' c' h1 h2 => ?_⟩
  by_cases hi : i < ts.length
  · rw [List.getElem?_append_left hi] at h1
    rw [List.getElem?_append_left (by rw [h.1]; exact hi)] at h2
    exact h.2 i t' c' h1 h2
  · rw [List.getElem?_append_right (by omega)] at h1
    rw [List.getElem?_append_right (by rw [h.1]; omega), h.1] at h2
    cases hk : i - ts.length with
    | zero =>
      rw [hk] at h1 h2
      have e1 : t = t' := Option.some.inj h1
      have e2 : c = c' := Option.some.inj h2
      subst e1 e2
      exact ⟨T, a, b, v⟩
    | succ k => rw [hk] at h1; simp at h1
theorem bls_eqvAll : ∀ a b : List Bool, PyData.eqvAll (a.map PyData.bool) (b.map PyData.bool) = decide (a = b)
  | [], [] => rfl
  | [], _ :: _ => rfl
  | _ :: _, [] => rfl
  | x :: a, y :: b => by
    rw [List.map_cons, List.map_cons]
    unfold PyData.eqvAll
    rw [bls_eqvAll a b]
    unfold PyData.eqv
    cases x <;> cases y <;> simp
theorem bls_eqv (a b : List Bool) : PyData.eqv (.list (a.map PyData.bool)) (.list (b.map PyData.bool)) = decide (a = b) := by
  unfold PyData.eqv
  exact bls_eqvAll a b
/-- one number for one condition -/
theorem num_eq {N : Nds} {es : List Int} (hN : N.Nodup) (hn : es.Nodup) {t u : Tr} (ht : t.ok es) (hu : u.ok es) {c d : Nat} {T U : Bd} (hT : At N c T) (hU : At N d U) (wT : Wf es T) (wU : Wf es U) (vT : ∀ ρ, T.ev ρ = t.ev ρ) (vU : ∀ ρ, U.ev ρ = u.ev ρ) : c = d ↔ tru es t = tru es u := by
  rw [tru_eq hn ht hu]
  constructor
  · intro e ρ
    subst e
    rw [← vT, ← vU, hT.fn hU]
  · intro h
    have := canon hn wT wU fun ρ => by rw [vT, vU, h]
    subst this
    exact hT.inj hN hU
theorem num_0 {N : Nds} {es : List Int} (hN : N.Nodup) (hn : es.Nodup) {t : Tr} (ht : t.ok es) {c : Nat} {T : Bd} (hT : At N c T) (wT : Wf es T) (vT : ∀ ρ, T.ev ρ = t.ev ρ) : c = 0 ↔ (tru es t).any id = false := by
  rw [tru_any hn ht]
  constructor
  · intro e ρ
    subst e
    rw [← vT, hT.fn .f]
    rfl
  · intro h
    have := canon hn wT (.lf (b := false)) fun ρ => by rw [vT, h]; rfl
    subst this
    exact hT.inj hN .f
theorem num_1 {N : Nds} {es : List Int} (hN : N.Nodup) (hn : es.Nodup) {t : Tr} (ht : t.ok es) {c : Nat} {T : Bd} (hT : At N c T) (wT : Wf es T) (vT : ∀ ρ, T.ev ρ = t.ev ρ) : c = 1 ↔ (tru es t).all id = true := by
  rw [tru_all hn ht]
  constructor
  · intro e ρ
    subst e
    rw [← vT, hT.fn .t]
    rfl
  · intro h
    have := canon hn wT (.lf (b := true)) fun ρ => by rw [vT, h]; rfl
    subst this
    exact hT.inj hN .t
/-- a list of conditions' trees -/
def TrL (K : PySem.W.Frag) (H : Hp) (D : Addr) (ts : List Tr) : Prop := ∃ vs, H D = some (.lst vs) ∧ DpAll K H vs (ts.map Tr.d)
theorem trs_only : ∀ ts : List Tr, tupOnlys (ts.map Tr.d) = true
  | [] => rfl
  | t :: ts => by
    rw [List.map_cons]
    unfold tupOnlys
    rw [tr_only, trs_only ts]
    rfl
theorem TrL.ext {K : PySem.W.Frag} {H H' : Hp} {D : Addr} {ts : List Tr} (e : Same H H') (h : TrL K H D ts) : TrL K H' D ts := by
  obtain ⟨vs, h1, h2⟩ := h
  exact ⟨vs, e _ _ h1, DpAll.ext e _ _ h2⟩
theorem TrL.snoc {K : PySem.W.Frag} {H : Hp} {D : Addr} {ts : List Tr} {vs : List V} {v : V} {t : Tr} (h : TrL K H D ts) (e : H D = some (.lst vs)) (hv : Dp K H v t.d) : TrL K (upd H D (.lst (vs ++ [v]))) D (ts ++ [t]) := by
  obtain ⟨vs', h1, h2⟩ := h
  have ev : vs' = vs := by rw [h1] at e; exact HO.lst.inj (Option.some.inj e)
  subst ev
  refine ⟨_, upd_same, ?_⟩
  rw [List.map_append]
  exact DpAll.snoc (DpAll.away h1 _ _ (trs_only ts) h2) (Dp.away h1 _ _ (tr_only t) hv)
theorem TrL.get {K : PySem.W.Frag} {H : Hp} {D : Addr} {ts : List Tr} (h : TrL K H D ts) : ∃ vs, H D = some (.lst vs) ∧ vs.length = ts.length ∧ ∀ (i : Nat) t, ts[i]? = some t → ∃ v, vs[i]? = some v ∧ Dp K H v t.d := by
  obtain ⟨vs, h1, h2⟩ := h
  refine ⟨vs, h1, by rw [DpAll.len h2, List.length_map], fun i t ht => DpAll.get h2 (by rw [List.getElem?_map, ht]; rfl)⟩
theorem TrL.fd {K : PySem.W.Frag} {H H' : Hp} {D d : Addr} {ts : List Tr} (hd : ∃ zs, H d = some (.lst zs)) (n : D ≠ d) (e : Fd d H H') (h : TrL K H D ts) : TrL K H' D ts := by
  obtain ⟨vs, h1, h2⟩ := h
  exact ⟨vs, e _ _ n h1, DpAll.fd hd e _ _ (trs_only ts) h2⟩
def intsV (cs : List Nat) : List V := cs.map fun c => .int ((c : Nat) : Int)
section
variable {P : Program} {w : World} {K : PySem.W.Frag} {mg : Str → Option Value} {base : Heap}
/-- conditions being built, one after another -/
def BuP (C : Addr) (K : PySem.W.Frag) (sa : SA) (N : Nds) (es : List Int) (b : Nat) (ts : List Tr) (H0 H : Hp) (B : Addr) (i : Nat) (Hi : Hp) : Prop := Same H0 Hi ∧ (∀ a o, H a = some o → a ≠ sa.k → a ≠ sa.u → a ≠ sa.m → Hi a = some o) ∧ ∃ M cs, Sto C K Hi sa (N ++ M) es (b + i * 33000) ∧ Hi B = some (.lst (intsV cs)) ∧ Blt (N ++ M) es (ts.take i) cs ∧ (N ++ M).length ≤ b + i * 33000
theorem bu_0 {C : Addr} {sa : SA} {N : Nds} {es : List Int} {L b : Nat} {ts : List Tr} {H0 H : Hp} {B : Addr} (S : Same H0 H) (st : Sto C K H sa N es L) (hb : N.length ≤ b ∧ L ≤ b) (nB : H B = none) : BuP C K sa N es b ts H0 H B 0 (upd H B (.lst [])) := by
  refine ⟨S.trans (same_upd nB), fun a o h _ _ _ => same_upd nB _ _ h, [], [], ?_, upd_same, ⟨rfl, fun i t c h _ => by simp at h⟩, ?_⟩
  · rw [List.append_nil]
    exact (st.ext (same_upd nB)).more (by omega)
  · rw [List.append_nil]
    omega
theorem bu_step {C : Addr} {sa : SA} {N : Nds} {es : List Int} {L b : Nat} {ts : List Tr} {H0 H Hi : Hp} {B : Addr} {i : Nat} {v : V} {t : Tr} {σ : L2.St} {i5 i11 : Nat} (S : Same H0 H) (st : Sto C K H sa N es L) (nk : H0 sa.k = none) (nu : H0 sa.u = none) (nm : H0 sa.m = none) (hl : es.length ≤ 5) (hb2 : b + ts.length * 33000 ≤ 400000) (nB : H B = none) (hp : BuP C K sa N es b ts H0 H B i Hi) (ht : ts[i]? = some t) (ok1 : t.ok es) (ht1 : t.ht < 9) (dp : Dp K H0 v t.d) (h5 : σ[i5]? = some (some (.ref sa.p))) (h11 : σ[i11]? = some (some v)) :
    tCall (sp_build C K 6 9) [] E0 (tCons (tVar i5) (tCons (tVar i11) tNil)) σ Hi fun y H4 => ∃ ys, H4 B = some (.lst ys) ∧ ys.length < sizeLine ∧ BuP C K sa N es b ts H0 H B (i + 1) (upd H4 B (.lst (ys ++ [y]))) := by
  have hob : opB es ≤ 64 := by
    have : 2 ^ es.length ≤ 2 ^ 5 := Nat.pow_le_pow_right (by decide) hl
    unfold opB
    omega
  have sl : (500000 : Nat) < sizeLine := by decide
  have nB0 := S.free nB
  have nBk := bu_ne st nB
  obtain ⟨si, fi, M, cs, sti, eB, bl, ln⟩ := hp
  have hi : i < ts.length := (List.getElem?_eq_some_iff.mp ht).1
  have hz : t.sz ≤ 511 := by
    have h1 := tr_sz t
    have h2 : 2 ^ (t.ht + 1) ≤ 2 ^ 9 := Nat.pow_le_pow_right (by decide) (by omega)
    omega
  have hzb : t.sz * opB es ≤ 511 * 64 := Nat.mul_le_mul hz hob
  have hib : i * 33000 + 33000 ≤ ts.length * 33000 := by
    have := Nat.mul_le_mul_right 33000 (show i + 1 ≤ ts.length by omega)
    omega
  refine ⟨_, h5, _, h11, sa, N ++ M, es, _, v, t, rfl, sti, by omega, ok1, ht1, Dp.ext si _ _ dp, by omega, by omega, fun H1 M1 r1 T1 f1 l1 st1 a1 w1 v1 => ?_⟩
  have eB1 := f1 _ _ nBk.1 nBk.2.1 nBk.2.2 eB
  have lcs : cs.length = i := by rw [bl.1, List.length_take]; omega
  refine ⟨_, eB1, ?_, ?_, ?_, M ++ M1, cs ++ [r1], ?_, ?_, ?_, ?_⟩
  · show (intsV cs).length < sizeLine
    unfold intsV
    rw [List.length_map, lcs]
    omega
  · intro x o e
    rw [upd_ne (ne_of_none e nB0)]
    exact f1.same si nk nu nm x o e
  · intro x o e n1 n2 n3
    rw [upd_ne (ne_of_none e nB)]
    exact f1 x o n1 n2 n3 (fi x o e n1 n2 n3)
  · rw [← List.append_assoc]
    exact (st1.fd ⟨_, eB1⟩ nBk.1 Fd.at).more (by omega)
  · rw [upd_same]
    unfold intsV
    rw [List.map_append]
    rfl
  · rw [← List.append_assoc, List.take_add_one, ht]
    exact bl.mono.snoc a1 w1 v1
  · rw [← List.append_assoc, List.length_append]
    omega
end

/-! ### the laws' sets in lists of their own -/
def LN (H0 H : Hp) (p : Addr) (ls : List (List Int)) : Prop := ∃ as : List Addr, H p = some (.lst (as.map V.ref)) ∧ as.length = ls.length ∧ ∀ (i : Nat) b l, as[i]? = some b → ls[i]? = some l → H0 b = none ∧ H b = some (.lst (l.map V.int))
theorem LN.ext {H0 H H' : Hp} {p : Addr} {ls : List (List Int)} (e : Same H H') (h : LN H0 H p ls) : LN H0 H' p ls := by
  obtain ⟨as, h1, h2, h3⟩ := h
  exact ⟨as, e _ _ h1, h2, fun i b l g1 g2 => ⟨(h3 i b l g1 g2).1, e _ _ (h3 i b l g1 g2).2⟩⟩
theorem LN.get {H0 H : Hp} {p : Addr} {ls : List (List Int)} (h : LN H0 H p ls) : ∃ as : List Addr, H p = some (.lst (as.map V.ref)) ∧ as.length = ls.length ∧ ∀ (i : Nat) v, (as.map V.ref)[i]? = some v → ∃ b l, v = .ref b ∧ ls[i]? = some l ∧ H b = some (.lst (l.map V.int)) := by
  obtain ⟨as, h1, h2, h3⟩ := h
  refine ⟨as, h1, h2, fun i v hv => ?_⟩
  rw [List.getElem?_map] at hv
  obtain ⟨b, hb, rfl⟩ := Option.map_eq_some_iff.mp hv
  have hi : i < ls.length := by rw [← h2]; exact (List.getElem?_eq_some_iff.mp hb).1
  exact ⟨b, ls[i], rfl, List.getElem?_eq_getElem hi, (h3 i b _ hb (List.getElem?_eq_getElem hi)).2⟩
theorem LN.fds {C : Addr} {K : PySem.W.Frag} {sa : SA} {N : Nds} {es : List Int} {L : Nat} {H0 H H' : Hp} {p : Addr} {ls : List (List Int)} (st : Sto C K H0 sa N es L) (n : H0 p = none) (f : FdS sa H H') (h : LN H0 H p ls) : LN H0 H' p ls := by
  obtain ⟨as, h1, h2, h3⟩ := h
  have g := bu_ne st n
  refine ⟨as, f _ _ g.1 g.2.1 g.2.2 h1, h2, fun i b l g1 g2 => ?_⟩
  obtain ⟨k1, k2⟩ := h3 i b l g1 g2
  have g' := bu_ne st k1
  exact ⟨k1, f _ _ g'.1 g'.2.1 g'.2.2 k2⟩
def sp_subsN : Sp := fun vs H Q _ => ∃ a, ∃ es : List Int, vs = [.ref a] ∧ H a = some (.lst (es.map V.int)) ∧ es.length ≤ 10 ∧ ∀ H' p, Same H H' → H p = none → LN H H' p (subs es) → Q (.ref p) H'
theorem LN.app {H0 H : Hp} {p q a b : Addr} {ls ms : List (List Int)} {xs ys : List V} (np : H p = none) (h1 : LN H0 H a ls) (h2 : LN H0 H b ms) (e1 : H a = some (.lst xs)) (e2 : H b = some (.lst ys)) : LN H0 (upd H p (.lst (xs ++ ys))) p (ls ++ ms) := by
  obtain ⟨as, g1, g2, g3⟩ := h1
  obtain ⟨bs, k1, k2, k3⟩ := h2
  have ex : xs = as.map V.ref := by rw [g1] at e1; exact (HO.lst.inj (Option.some.inj e1)).symm
  have ey : ys = bs.map V.ref := by rw [k1] at e2; exact (HO.lst.inj (Option.some.inj e2)).symm
  refine ⟨as ++ bs, by rw [upd_same, ex, ey, List.map_append], by rw [List.length_append, List.length_append, g2, k2], fun i c l hc hl => ?_⟩
  suffices z : H0 c = none ∧ H c = some (.lst (l.map V.int)) from ⟨z.1, same_upd np _ _ z.2⟩
  by_cases hi : i < as.length
  · rw [List.getElem?_append_left hi] at hc
    rw [List.getElem?_append_left (by omega)] at hl
    exact g3 i c l hc hl
  · rw [List.getElem?_append_right (by omega)] at hc
    rw [List.getElem?_append_right (by omega), ← g2] at hl
    exact k3 _ c l hc hl
section
variable {P : Program} {w : World} {K : PySem.W.Frag} {mg : Str → Option Value} {base : Heap}
theorem ok_subsN {f : Addr} {fd : FuncData} (F : Fun K "_law_subsets" "_law_subsets" s__law_subsets f fd) (M : Mg mg) : FnOk P w K mg base CX0 1 f fd ["entries"] sp_subsN := by
  refine F.ok sc__law_subsets (fun vs H Q E h => ?_) (fun cdv A outer s H vs Q E hr h => ?_)
  · obtain ⟨a, es, rfl, _⟩ := h
    rfl
  · obtain ⟨a, es, rfl, ha, hl, q⟩ := h
    refine ⟨_, (pss_cons (ps_set (i := 1) sc__law_subsets.nd rfl (.inl rfl) (pe_lst (pa_cons (pe_lst pa_nil) pa_nil)))
      (pss_cons (ps_for PassesOwn.never rfl (pi_list (pv 0)) (pg_name (i := 2) sc__law_subsets.nd rfl (.inr rfl)) (pss_one (ps_set (i := 1) sc__law_subsets.nd rfl (.inl rfl) (pe_op op_cat (pv 1) (pe_lc (own := [("part", 3)]) (g := gName 3) (tt := tYes) rfl sc__law_subsets.nd (pi_list (pv 1)) (blkOk_by (N := N__law_subsets) (sc := defScope s__law_subsets) (by decide +kernel)) (fun _ _ _ _ _ => (pg_name (i := 3) sc__law_subsets.nd rfl (.inl rfl))) (fun _ _ _ _ _ => pts_nil) (fun _ _ _ _ _ => (pe_op op_cat (pv 3) (pe_lst (pa_cons (pv 2) pa_nil)))))))))
      (pss_one (ps_ret (pv 1))))), ?_⟩
    refine ⟨by show 0 ≤ sizeLine; decide, fun p1 n1 => ?_⟩
    have s1 := same_upd n1 (o := .lst [])
    have e1 : (upd H p1 (.lst [])) p1 = some (.lst (([] : List Int).map V.int)) := upd_same
    generalize upd H p1 (.lst []) = H1 at s1 e1
    refine ⟨by show 1 ≤ sizeLine; decide, fun p2 n2 => ?_⟩
    have s2 := same_upd n2 (o := .lst [.ref p1])
    have e2 : (upd H1 p2 (.lst [.ref p1])) p2 = some (.lst ([p1].map V.ref)) := upd_same
    generalize upd H1 p2 (.lst [.ref p1]) = H2 at s2 e2
    refine ⟨_, rfl, a, rfl, ⟨_, .of ((s1.trans s2) _ _ ha)⟩, ?_⟩
    refine for_list (K := K) (a := a) (xs := es.map V.int) (fun i σ Hi => ∃ (p : Addr) (z y : Option V), σ = [some (.ref a), some (.ref p), z, y] ∧ Same H Hi ∧ H p = none ∧ LN H Hi p (subs (es.take i))) ⟨p2, none, none, rfl, s1.trans s2, s1.free n2, [p1], e2, rfl, fun i b l hb hl => ?_⟩ (fun i σ Hi _ hp => by obtain ⟨p, z, y, rfl, si, _⟩ := hp; exact .of (si _ _ ha)) (fun i x σ Hi hx hp => ?_) (fun σ Hn hp => ?_)
    · match i, hb, hl with
      | 0, hb, hl =>
        cases hb
        cases hl
        exact ⟨n1, s2 _ _ e1⟩
      | i + 1, hb, _ => simp at hb
    · obtain ⟨p, z, y, rfl, si, np, ll⟩ := hp
      rw [List.getElem?_map] at hx
      obtain ⟨e, he, rfl⟩ := Option.map_eq_some_iff.mp hx
      have hi : i < es.length := (List.getElem?_eq_some_iff.mp he).1
      have et : es.take (i + 1) = es.take i ++ [e] := by rw [List.take_add_one, he]; rfl
      have lsub : (subs (es.take i)).length ≤ 1024 := by
        rw [subs_len, List.length_take]
        exact Nat.le_trans (Nat.pow_le_pow_right (by decide) (show min i es.length ≤ 10 by omega)) (by decide)
      obtain ⟨as, g1, g2, g3⟩ := id ll
      obtain ⟨as', k1, k2, k3⟩ := ll.get
      refine ⟨_, rfl, _, rfl, p, rfl, ⟨_, .of k1⟩, fun D nD => ?_⟩
      refine lc_list (K := K) (a := p) (xs := as'.map V.ref) (fun j Hj => Same Hi Hj ∧ LN H Hj D ((subs (es.take i)).take j |>.map (· ++ [e]))) ⟨same_upd nD, [], upd_same, rfl, fun i b l hb _ => by simp at hb⟩ (fun j Hj _ hp => .of (hp.1 _ _ k1)) (fun j x Hj hx hp => ?_) (fun Hn hp => ?_)
      · obtain ⟨sj, cs, c1, c2, c3⟩ := hp
        obtain ⟨b, l, rfl, hl, hb⟩ := k3 j x hx
        have hj : j < (subs (es.take i)).length := (List.getElem?_eq_some_iff.mp hl).1
        refine ⟨rfl, ?_⟩
        refine ⟨_, rfl, _, rfl, by show 1 ≤ sizeLine; decide, fun q1 nq1 => ?_⟩
        have t1 := same_upd nq1 (o := .lst [.int e])
        have eq1 : (upd Hj q1 (.lst [.int e])) q1 = some (.lst [.int e]) := upd_same
        generalize upd Hj q1 (.lst [.int e]) = Hj1 at t1 eq1
        have ll1 : l.length ≤ 10 := by
          have := subs_le _ l (List.mem_of_getElem? hl)
          have h2 := this.1
          rw [List.length_take] at h2
          omega
        refine ⟨b, q1, _, _, rfl, rfl, (sj.trans t1) _ _ hb, eq1, by rw [List.length_map]; exact Nat.le_trans (m := 100) (by show _ + 1 ≤ 100; omega) (by decide), fun q2 nq2 => ?_⟩
        have t2 := same_upd nq2 (o := .lst (l.map V.int ++ [.int e]))
        have eq2 : (upd Hj1 q2 (.lst (l.map V.int ++ [.int e]))) q2 = some (.lst ((l ++ [e]).map V.int)) := by rw [upd_same, List.map_append]; rfl
        generalize upd Hj1 q2 (.lst (l.map V.int ++ [.int e])) = Hj2 at t2 eq2
        have sj2 := (sj.trans t1).trans t2
        have cD := (t1.trans t2) _ _ c1
        refine ⟨_, cD, ?_, ?_, ?_⟩
        · rw [List.length_map, c2, List.length_map, List.length_take]
          exact Nat.lt_of_le_of_lt (m := 1024) (by omega) (by decide)
        · intro x o hx'
          rw [upd_ne (ne_of_none hx' nD)]
          exact sj2 _ _ hx'
        · refine ⟨cs ++ [q2], by rw [upd_same, List.map_append]; rfl, ?_, fun i' b' l' hb' hl' => ?_⟩
          · rw [List.length_append, c2, List.take_add_one, hl, List.map_append, List.length_append]
            rfl
          · have lc : cs.length = j := by rw [c2, List.length_map, List.length_take]; omega
            have nbD : b' ≠ D := by
              by_cases hi' : i' < cs.length
              · rw [List.getElem?_append_left hi'] at hb'
                intro z
                subst z
                -- the new list's own address is not one of its items
                have := (c3 i' b' _ hb' (List.getElem?_eq_getElem (by rw [← c2]; exact hi'))).2
                rw [c1] at this
                have e := HO.lst.inj (Option.some.inj this)
                cases cs with
                | nil => simp at hi'
                | cons c cs =>
                  rw [List.map_cons] at e
                  generalize (List.map (fun x => x ++ [_]) _)[i'] = w at e
                  cases w with
                  | nil => cases e
                  | cons w1 w2 => rw [List.map_cons] at e; exact nomatch (List.cons.inj e).1
              · rw [List.getElem?_append_right (by omega)] at hb'
                have : b' = q2 := by
                  cases h : i' - cs.length with
                  | zero => rw [h] at hb'; exact (Option.some.inj hb').symm
                  | succ k => rw [h] at hb'; simp at hb'
                subst this
                exact (ne_of_none (t1 _ _ c1) nq2).symm
            rw [upd_ne nbD]
            rw [List.take_add_one, hl, List.map_append] at hl'
            by_cases hi' : i' < cs.length
            · rw [List.getElem?_append_left hi'] at hb'
              rw [List.getElem?_append_left (by rw [← c2]; exact hi')] at hl'
              exact ⟨(c3 i' b' l' hb' hl').1, (t1.trans t2) _ _ (c3 i' b' l' hb' hl').2⟩
            · rw [List.getElem?_append_right (by omega)] at hb'
              rw [List.getElem?_append_right (by rw [← c2]; omega), ← c2] at hl'
              cases h : i' - cs.length with
              | zero =>
                rw [h] at hb' hl'
                have e1 : q2 = b' := Option.some.inj hb'
                have e2 : l ++ [e] = l' := Option.some.inj hl'
                subst e1 e2
                exact ⟨((si.trans sj).trans t1).free nq2, eq2⟩
              | succ k => rw [h] at hb'; simp at hb'
      · obtain ⟨sn, ll2⟩ := hp
        have el : (as'.map V.ref).length = (subs (es.take i)).length := by rw [List.length_map, k2]
        rw [el, List.take_of_length_le (Nat.le_refl _)] at ll2
        obtain ⟨bs, b1, b2, b3⟩ := id ll2
        refine ⟨p, D, _, _, rfl, rfl, sn _ _ k1, b1, ?_, fun q' nq' => ?_⟩
        · rw [List.length_map, List.length_map, k2, b2, List.length_map]
          exact Nat.le_trans (m := 2048) (by omega) (by decide)
        · refine ⟨q', _, _, rfl, (si.trans sn).trans (same_upd nq'), (si.trans sn).free nq', ?_⟩
          rw [et, subs_snoc]
          exact LN.app (q := q') nq' (ll.ext sn) ll2 (sn _ _ k1) b1
    · obtain ⟨p, z, y, rfl, si, np, ll⟩ := hp
      rw [List.length_map, List.take_of_length_le (Nat.le_refl _)] at ll
      exact ⟨_, rfl, q Hn p si np ll⟩
end

/-! ### the law's marks -/
def mks (es p : List Int) : List Bool := es.map fun e => decide (e ∈ p)
def sp_mk (K : PySem.W.Frag) : Sp := fun vs H Q _ => ∃ (a b : Addr) (es p : List Int), vs = [.ref a, .ref b] ∧ H a = some (.lst (es.map V.int)) ∧ H b = some (.lst (p.map V.int)) ∧ es.length ≤ 10 ∧ ∀ H' d, Same H H' → H d = none → H' d = some (.lst ((mks es p).map V.bl)) → Q (.ref d) H'
theorem lex_mks (p q : List Int) : ∀ es : List Int, lexB (mks es p) (mks es q) = true → ∀ l1 l2 x, es = l1 ++ x :: l2 → (∀ e ∈ l1, decide (e ∈ p) = decide (e ∈ q)) → decide (x ∈ p) = true → decide (x ∈ q) = false → False
  | [], _, l1, l2, x, e, _, _, _ => by simp at e
  | y :: es, h, [], l2, x, e, _, h1, h2 => by
    cases e
    have h : (if decide (y ∈ p) = decide (y ∈ q) then lexB (mks es p) (mks es q) else (!decide (y ∈ p) && decide (y ∈ q))) = true := h
    rw [h1, h2, if_neg (by decide)] at h
    cases h
  | y :: es, h, z :: l1, l2, x, e, g, h1, h2 => by
    cases e
    have h : (if decide (y ∈ p) = decide (y ∈ q) then lexB (mks (l1 ++ x :: l2) p) (mks (l1 ++ x :: l2) q) else (!decide (y ∈ p) && decide (y ∈ q))) = true := h
    rw [if_pos (g y List.mem_cons_self)] at h
    exact lex_mks p q _ h l1 l2 x rfl (fun e he => g e (List.mem_cons_of_mem _ he)) h1 h2
theorem lex_less (p q : List Int) : ∀ (l1 l2 : List Int) (x : Int), (∀ e ∈ l1, decide (e ∈ p) = decide (e ∈ q)) → decide (x ∈ p) = false → decide (x ∈ q) = true → lexB (mks (l1 ++ x :: l2) p) (mks (l1 ++ x :: l2) q) = true
  | [], l2, x, _, h1, h2 => by
    show (if decide (x ∈ p) = decide (x ∈ q) then _ else (!decide (x ∈ p) && decide (x ∈ q))) = true
    rw [h1, h2, if_neg (by decide)]
    rfl
  | y :: l1, l2, x, g, h1, h2 => by
    show (if decide (y ∈ p) = decide (y ∈ q) then lexB (mks (l1 ++ x :: l2) p) (mks (l1 ++ x :: l2) q) else _) = true
    rw [if_pos (g y List.mem_cons_self)]
    exact lex_less p q l1 l2 x (fun e he => g e (List.mem_cons_of_mem _ he)) h1 h2
theorem lex_irr : ∀ xs : List Bool, lexB xs xs = false
  | [] => rfl
  | x :: xs => by
    show (if x = x then lexB xs xs else _) = false
    rw [if_pos rfl]
    exact lex_irr xs
/-- lists of sets are in the rows' order -/
theorem subs_sub (es : List Int) : ∀ p ∈ subs es, p.Sublist es := by
  have h : ∀ (es pre : List Int) (f : List (List Int)), (∀ p ∈ f, p.Sublist pre) → ∀ p ∈ es.foldl (fun f e => f ++ f.map (· ++ [e])) f, p.Sublist (pre ++ es) := by
    intro es
    induction es with
    | nil => intro pre f h p hp; rw [List.append_nil]; exact h p hp
    | cons x es ih =>
      intro pre f h p hp
      rw [List.foldl_cons] at hp
      have := ih (pre ++ [x]) _ (fun q hq => ?_) p hp
      · rw [List.append_assoc] at this
        exact this
      · rcases List.mem_append.mp hq with hq | hq
        · exact (h q hq).trans (List.sublist_append_left _ _)
        · obtain ⟨r, hr, rfl⟩ := List.mem_map.mp hq
          exact List.Sublist.append (h r hr) (List.Sublist.refl _)
  intro p hp
  exact h es [] [[]] (by intro q hq; rw [List.mem_singleton.mp hq]; exact List.Sublist.refl _) p hp
theorem pw_ext : ∀ {a b : List Int}, a.Pairwise (· < ·) → b.Pairwise (· < ·) → (∀ x, x ∈ a ↔ x ∈ b) → a = b
  | [], [], _, _, _ => rfl
  | [], y :: b, _, _, h => absurd ((h y).mpr List.mem_cons_self) List.not_mem_nil
  | x :: a, [], _, _, h => absurd ((h x).mp List.mem_cons_self) List.not_mem_nil
  | x :: a, y :: b, ha, hb, h => by
    rw [List.pairwise_cons] at ha hb
    have e : x = y := by
      rcases List.mem_cons.mp ((h x).mp List.mem_cons_self) with e | m
      · exact e
      · rcases List.mem_cons.mp ((h y).mpr List.mem_cons_self) with e | m2
        · exact e.symm
        · have h1 := hb.1 x m
          have h2 := ha.1 y m2
          omega
    subst e
    refine congrArg (x :: ·) (pw_ext ha.2 hb.2 fun z => ⟨fun hz => ?_, fun hz => ?_⟩)
    · rcases List.mem_cons.mp ((h z).mp (List.mem_cons_of_mem _ hz)) with e | m
      · have := ha.1 z hz
        omega
      · exact m
    · rcases List.mem_cons.mp ((h z).mpr (List.mem_cons_of_mem _ hz)) with e | m
      · have := hb.1 z hz
        omega
      · exact m
theorem sub_of : ∀ {es ws : List Int}, es.Pairwise (· < ·) → ws.Pairwise (· < ·) → (∀ x ∈ es, x ∈ ws) → es.Sublist ws
  | [], _, _, _, _ => List.nil_sublist _
  | x :: es, [], _, _, h => absurd (h x List.mem_cons_self) List.not_mem_nil
  | x :: es, y :: ws, he, hw, h => by
    have he' := List.pairwise_cons.mp he
    have hw' := List.pairwise_cons.mp hw
    by_cases e : x = y
    · subst e
      refine (sub_of he'.2 hw'.2 fun z hz => ?_).cons_cons x
      rcases List.mem_cons.mp (h z (List.mem_cons_of_mem _ hz)) with g | g
      · have := he'.1 z hz
        omega
      · exact g
    · have hx : x ∈ ws := by
        rcases List.mem_cons.mp (h x List.mem_cons_self) with g | g
        · exact absurd g e
        · exact g
      refine (sub_of he hw'.2 fun z hz => ?_).cons y
      rcases List.mem_cons.mp (h z hz) with g | g
      · have h1 := hw'.1 x hx
        rcases List.mem_cons.mp hz with k | k
        · omega
        · have := he'.1 z k
          omega
      · exact g
/-- the least of those that hold -/
theorem best_ok {es : List Int} (hs : es.Pairwise (· < ·)) (hn : es.Nodup) {a : Bd} (h : Wf es a) {t : Tr} (ok : t.ok es) (v : ∀ r, a.ev r = t.ev r) {b : List Int} (hb : b ∈ (subs es).filter fun p => t.ev fun x => decide (x ∈ p)) (hm : ∀ p ∈ (subs es).filter fun p => t.ev fun x => decide (x ∈ p), lexB (mks es p) (mks es b) = false) : isF a = false ∧ fset a = b := by
  obtain ⟨b1, b2⟩ := List.mem_filter.mp hb
  have bs := subs_sub es b b1
  have e0 : a.ev (fun x => decide (x ∈ b)) = true := by rw [v]; exact b2
  have f0 : isF a = false := by
    cases g : isF a with
    | false => rfl
    | true => rw [isF_iff.mp g] at e0; cases e0
  refine ⟨f0, ?_⟩
  have fs := fset_sub h
  rcases fset_min hn h _ e0 with g | ⟨l1, l2, x, el, g1, g2, g3⟩
  · refine pw_ext (hs.sublist fs) (hs.sublist bs) fun x => ⟨fun z => ?_, fun z => ?_⟩
    · have := g x (fs.subset z)
      rw [decide_eq_true z] at this
      exact of_decide_eq_true this
    · have := g x (bs.subset z)
      rw [decide_eq_true z] at this
      exact of_decide_eq_true this.symm
  · obtain ⟨p, hp, hr⟩ := subs_all hn fun x => decide (x ∈ fset a)
    have hh := hm p (List.mem_filter.mpr ⟨hp, by rw [tr_agree ok hr, ← v]; exact fset_ev hn h f0⟩)
    rw [el, lex_less p b l1 l2 x (fun e he => by rw [hr e (by rw [el]; exact List.mem_append_left _ he)]; exact (g1 e he).symm) (by rw [hr x (by rw [el]; simp)]; exact g2) g3] at hh
    cases hh
/-- nothing holds just where the condition is never -/
theorem none_ok {es : List Int} (hn : es.Nodup) {a : Bd} (h : Wf es a) {t : Tr} (ok : t.ok es) (v : ∀ r, a.ev r = t.ev r) (he : ((subs es).filter fun p => t.ev fun x => decide (x ∈ p)) = []) : isF a = true := by
  cases g : isF a with
  | true => rfl
  | false =>
    obtain ⟨p, hp, hr⟩ := subs_all hn fun x => decide (x ∈ fset a)
    have : p ∈ (subs es).filter fun p => t.ev fun x => decide (x ∈ p) := List.mem_filter.mpr ⟨hp, by rw [tr_agree ok hr, ← v]; exact fset_ev hn h g⟩
    rw [he] at this
    cases this
section
variable {P : Program} {w : World} {K : PySem.W.Frag} {mg : Str → Option Value} {base : Heap}
theorem ok_mk {f : Addr} {fd : FuncData} (F : Fun K "_law_marks" "_law_marks" s__law_marks f fd) (M : Mg mg) : FnOk P w K mg base CX0 1 f fd ["entries", "part"] (sp_mk K) := by
  refine F.ok sc__law_marks (fun vs H Q E h => ?_) (fun cdv A0 outer s H vs Q E hr h => ?_)
  · obtain ⟨a, b, es, p, rfl, _⟩ := h
    rfl
  · obtain ⟨a, b, es, p, rfl, ha, hb, hl, q⟩ := h
    refine ⟨_, (pss_one (ps_ret (pe_lc (own := [("entry", 2)]) (g := gName 2) (tt := tYes) rfl sc__law_marks.nd (pi_list (pv 0)) (blkOk_by (N := N__law_marks) (sc := defScope s__law_marks) (by decide +kernel)) (fun _ _ _ _ _ => (pg_name (i := 2) sc__law_marks.nd rfl (.inl rfl))) (fun _ _ _ _ _ => pts_nil) (fun _ _ _ _ _ => (pe_cmpR (inK K) (pv 2) (pv 1) (by rfl)))))), ?_⟩
    refine ⟨_, rfl, a, rfl, ⟨_, .of ha⟩, fun D nD => ?_⟩
    refine lc_list (K := K) (a := a) (xs := es.map V.int) (fun j Hj => Same H Hj ∧ Hj D = some (.lst ((mks (es.take j) p).map V.bl))) ⟨same_upd nD, upd_same⟩ (fun j Hj _ hp => .of (hp.1 _ _ ha)) (fun j y Hj hy hp => ?_) (fun Hm hp => ?_)
    · obtain ⟨sj, eD⟩ := hp
      rw [List.getElem?_map] at hy
      obtain ⟨x, hx, rfl⟩ := Option.map_eq_some_iff.mp hy
      have hj : j < es.length := (List.getElem?_eq_some_iff.mp hx).1
      refine ⟨rfl, ?_⟩
      refine ⟨_, rfl, _, rfl, b, _, rfl, .inl (.of (sj _ _ hb)), rfl, ints_flat p, ?_⟩
      rw [if_neg Bool.false_ne_true, inV_int]
      refine ⟨_, eD, ?_, ?_, ?_⟩
      · unfold mks
        rw [List.length_map, List.length_map, List.length_take]
        exact Nat.lt_of_le_of_lt (m := 100) (by omega) (by decide)
      · intro z o hz
        rw [upd_ne (ne_of_none hz nD)]
        exact sj _ _ hz
      · rw [upd_same, List.take_add_one, hx]
        unfold mks
        rw [List.map_append, List.map_append]
        rfl
    · obtain ⟨sm, eD⟩ := hp
      rw [List.length_map, List.take_of_length_le (Nat.le_refl _)] at eD
      exact q _ D sm nD eD
end

def sp_law (K : PySem.W.Frag) : Sp := fun vs H Q _ => ∃ (a : Addr) (ns : List Int), vs = [.ref a] ∧ SqL K H a (ns.map V.int) ∧ ns.length ≤ 63 ∧ ∀ H', Q (.bl true) H'
theorem ht_le {es : List Int} {a : Bd} (h : Wf es a) : a.ht ≤ es.length := by
  induction h with
  | lf => exact Nat.zero_le _
  | here _ _ _ iw it => exact Nat.succ_le_succ (Nat.max_le.mpr ⟨iw, it⟩)
  | skip _ ih => exact Nat.le_succ_of_le ih
/-- addresses free at first, their lists later on -/
def LP (H8 H9 : Hp) (as : List Addr) (ls : List (List Int)) : Prop := as.length = ls.length ∧ ∀ (i : Nat) b l, as[i]? = some b → ls[i]? = some l → H8 b = none ∧ H9 b = some (.lst (l.map V.int))
theorem LP.snoc {H8 H9 : Hp} {as : List Addr} {ls : List (List Int)} {b : Addr} {l : List Int} (h : LP H8 H9 as ls) (n : H8 b = none) (hb : H9 b = some (.lst (l.map V.int))) : LP H8 H9 (as ++ [b]) (ls ++ [l]) := by
  obtain ⟨h2, h3⟩ := h
  refine ⟨by rw [List.length_append, List.length_append, h2]; rfl, fun i c m hc hm => ?_⟩
  by_cases hi : i < as.length
  · rw [List.getElem?_append_left hi] at hc
    rw [List.getElem?_append_left (by omega)] at hm
    exact h3 i c m hc hm
  · rw [List.getElem?_append_right (by omega)] at hc
    rw [List.getElem?_append_right (by omega), ← h2] at hm
    cases hk : i - as.length with
    | zero =>
      rw [hk] at hc hm
      have e1 : b = c := Option.some.inj hc
      have e2 : l = m := Option.some.inj hm
      subst e1 e2
      exact ⟨n, hb⟩
    | succ k => rw [hk] at hc; simp at hc
theorem lex_trans : ∀ a b c : List Bool, lexB a b = true → lexB b c = true → lexB a c = true
  | [], [], _, h, _ => by cases h
  | [], _ :: _, [], _, h => by cases h
  | [], _ :: _, _ :: _, _, _ => rfl
  | _ :: _, [], _, h, _ => by cases h
  | _ :: _, _ :: _, [], _, h => by cases h
  | x :: a, y :: b, z :: c, h, g => by
    have h : (if x = y then lexB a b else (!x && y)) = true := h
    have g : (if y = z then lexB b c else (!y && z)) = true := g
    show (if x = z then lexB a c else (!x && z)) = true
    cases x <;> cases y <;> cases z <;> simp_all
    all_goals exact lex_trans a b c h g
section
variable {P : Program} {w : World} {K : PySem.W.Frag} {mg : Str → Option Value} {base : Heap}
set_option maxHeartbeats 8000000 in
theorem ok_law {f C : Addr} {fd : FuncData} (F : Fun K "law" "law" s_law f fd) (M : Mg mg) (c__law_draw : Cl P w K mg base 1 "_law_draw" (sp_draw K)) (c__law_next : Cl P w K mg base 1 "_law_next" sp_next) (c__law_entries : Cl P w K mg base 2 "_law_entries" (sp_ents 5)) (c__law_tree : Cl P w K mg base 7 "_law_tree" (sp_ltr K 6)) (c_Diagrams___init__ : ClC P w K mg base 1 "Diagrams" C (sp_dinit C K))
    (c__law_build : Cl P w K mg base 19 "_law_build" (sp_build C K 6 9)) (c__law_subsets : Cl P w K mg base 1 "_law_subsets" sp_subsN) (c__law_true : Cl P w K mg base 10 "_law_true" (sp_true K 9)) (c__law_marks : Cl P w K mg base 1 "_law_marks" (sp_mk K))
    (c__law_same : Cl P w K mg base 6 "_law_same" (sp_same K 5)) (c_Diagrams_ways : ClM P w K mg base 4 C "ways" (sp_ways C K)) (c_Diagrams_first_set : ClM P w K mg base 2 C "first_set" (sp_fset C K)) : FnOk P w K mg base CX0 20 f fd ["script"] (sp_law K) := by
  refine F.ok sc_law (fun vs H Q E h => ?_) (fun cdv A outer s H vs Q E hr h => ?_)
  · obtain ⟨a, ns, rfl, _⟩ := h
    rfl
  · obtain ⟨a, ns, rfl, hS, _, q⟩ := h
    refine ⟨_, (pss_cons (ps_set (i := 1) sc_law.nd rfl (.inr rfl) (pe_u c__law_draw hr (by first | decide | omega) (by rfl) (pa_cons (pv 0) pa_nil)))
      (pss_cons (ps_set (i := 2) sc_law.nd rfl (.inr rfl) (pe_u c__law_entries hr (by first | decide | omega) (by rfl) (pa_cons (pv 1) (pa_cons pe_int pa_nil))))
      (pss_cons (ps_set (i := 3) sc_law.nd rfl (.inr rfl) (pe_u c__law_tree hr (by first | decide | omega) (by rfl) (pa_cons (pv 1) (pa_cons (pv 2) (pa_cons (pe_op op_add pe_int (pe_u c__law_next hr (by first | decide | omega) (by rfl) (pa_cons (pv 1) (pa_cons pe_int pa_nil)))) pa_nil)))))
      (pss_cons (ps_set (i := 4) sc_law.nd rfl (.inl rfl) (pe_mk0 c_Diagrams___init__ hr (by first | decide | omega) (by rfl)))
      (pss_cons (ps_set (i := 5) sc_law.nd rfl (.inl rfl) (pe_u c__law_build hr (by first | decide | omega) (by rfl) (pa_cons (pv 4) (pa_cons (pv 3) pa_nil))))
      (pss_cons (ps_setLc (i := 7) (own := [("part", 6)]) (g := gName 6) rfl sc_law.nd rfl rfl (sw_true rfl rfl rfl (by decide +kernel)) (pi_list (pe_u c__law_subsets hr (by first | decide | omega) (by rfl) (pa_cons (pv 2) pa_nil))) (blkOk_by (N := N_law) (sc := defScope s_law) (by decide +kernel)) (fun _ _ _ _ _ => (pg_name (i := 6) sc_law.nd rfl (.inl rfl))) (fun _ _ _ _ _ => (pts_one (pt_val (pe_u c__law_true hr (by first | decide | omega) (by rfl) (pa_cons (pv 3) (pa_cons (pv 6) pa_nil)))))) (fun _ _ _ _ _ => (pv 6)))
      (pss_cons (ps_setLc (i := 9) (own := [("entry", 8)]) (g := gName 8) rfl sc_law.nd rfl rfl (sw_true rfl rfl rfl (by decide +kernel)) (pi_list (pe_lst (pa_cons pe_int (pa_cons pe_int (pa_cons pe_int pa_nil))))) (blkOk_by (N := N_law) (sc := defScope s_law) (by decide +kernel)) (fun _ _ _ _ _ => (pg_name (i := 8) sc_law.nd rfl (.inl rfl))) (fun _ _ _ _ _ => (pts_one (PW.pt (pw_and (pt_cmpR (notInK K) (pv 8) (pv 2) (by rfl)) (pw_and1 (pt_truthK K (pe_u c__law_next hr (by first | decide | omega) (by rfl) (pa_cons (pv 1) (pa_cons pe_int pa_nil))) (by intro _; rfl))))))) (fun _ _ _ _ _ => (pv 8)))
      (pss_cons (ps_set (i := 10) sc_law.nd rfl (.inl rfl) (pe_callB (sortedK K) (by rfl) M.sorted (by decide +kernel) (pa_cons (pe_op op_cat (pv 2) (pv 9)) pa_nil)))
      (pss_cons (ps_set (i := 11) sc_law.nd rfl (.inl rfl) (pe_callB (len_seqK K) (by rfl) M.len PySem.boot_len (pa_cons (pv 7) pa_nil)))
      (pss_cons (ps_for PassesOwn.never rfl (pi_list (pv 9)) (pg_name (i := 8) sc_law.nd rfl (.inl rfl)) (pss_one (ps_set (i := 11) sc_law.nd rfl (.inl rfl) (pe_op op_mul (pv 11) pe_int))))
      (pss_cons (ps_set (i := 12) sc_law.nd rfl (.inl rfl) (pe_callTy (listK K) (by rfl) M.list (by decide +kernel) (pa_cons (pv 10) pa_nil)))
      (pss_cons (ps_if (PW.pt (pw_or (pt_not (pt_val (pe_u c__law_same hr (by first | decide | omega) (by rfl) (pa_cons (pe_mt c_Diagrams_ways hr (by first | decide | omega) (pv 4) (pa_cons (pv 5) (pa_cons (pv 12) pa_nil))) (pa_cons (pv 11) pa_nil))))) (pw_or1 (pt_cmpR (neDK K hr.units) (pv 12) (pv 10) (nomark _))))) (pss_one (ps_ret pe_bl)) pss_nil)
      (pss_cons (ps_set (i := 13) sc_law.nd rfl (.inl rfl) (pe_mt c_Diagrams_first_set hr (by first | decide | omega) (pv 4) (pa_cons (pv 5) pa_nil)))
      (pss_cons (ps_if (pt_not (pt_truthK K (pv 7) (by intro _; rfl))) (pss_one (ps_ret (pe_cmpR op_isN (pv 13) pe_non (nomark _)))) pss_nil)
      (pss_cons (ps_set (i := 14) sc_law.nd rfl (.inl rfl) (pe_ix (ix_listK K) (pv 7) pe_int (fun _ _ => rfl)))
      (pss_cons (ps_for PassesOwn.never rfl (pi_list (pv 7)) (pg_name (i := 6) sc_law.nd rfl (.inl rfl)) (pss_one (ps_if (pt_cmpR (ltBK K hr.units) (pe_u c__law_marks hr (by first | decide | omega) (by rfl) (pa_cons (pv 2) (pa_cons (pv 6) pa_nil))) (pe_u c__law_marks hr (by first | decide | omega) (by rfl) (pa_cons (pv 2) (pa_cons (pv 14) pa_nil))) (nomark _)) (pss_one (ps_set (i := 14) sc_law.nd rfl (.inl rfl) (pv 6))) pss_nil)))
      (pss_one (ps_ret (pe_u c__law_same hr (by first | decide | omega) (by rfl) (pa_cons (pv 13) (pa_cons (pv 14) pa_nil))))))))))))))))))))), ?_⟩
    refine ⟨_, rfl, a, ns, rfl, hS, fun H1 d c s1 nd dr => ?_⟩
    refine ⟨_, rfl, d, c, rfl, by decide, by decide, dr, fun H2 ea es f2 dr2 na en => ?_⟩
    have hl5 : es.length ≤ 5 := en.2.2.2.2.2.1
    refine ⟨_, rfl, _, rfl, _, rfl, d, c, 5, rfl, dr2, by decide, by decide, fun H3 r f3 _ dr3 r0 r1 => ?_⟩
    obtain ⟨k1, rfl⟩ := Int.eq_ofNat_of_zero_le r0
    have en3 := en.fd f3
    refine ⟨_, _, rfl, rfl, d, c, ea, es, 5, 1 + k1, rfl, by omega, dr3, en3, by decide, fun H4 v1 t1 f4 dr4 ok1 ht1 dp1 => ?_⟩
    have en4 := en3.fd f4
    refine fun x dx nx ndx nex => ⟨x, dx, rfl, upd_same, fun H7 sa hsp f7 hk hu hm stm => ⟨rfl, ?_⟩⟩
    subst hsp
    have s7 := made_same nx ndx f7
    have hk := made_free hk
    have hu := made_free hu
    have hm := made_free hm
    have st7 := stm es en4.2.2.2.1
    have ek : ea ≠ sa.k ∧ ea ≠ sa.u ∧ ea ≠ sa.m := ⟨ne_of_none en4.2.2.1 hk, ne_of_none en4.2.2.1 hu, ne_of_none en4.2.2.1 hm⟩
    have dk : d ≠ sa.k ∧ d ≠ sa.u ∧ d ≠ sa.m := by
      obtain ⟨zs, hz⟩ := dr4.lst
      exact ⟨ne_of_none hz hk, ne_of_none hz hu, ne_of_none hz hm⟩
    have dp1 := Dp.ext s7 _ _ dp1
    have ee7 := s7 _ _ en4.2.2.1
    have dr7 := dr4.ext s7
    have hpow : 2 ^ es.length ≤ 2 ^ 5 := Nat.pow_le_pow_right (by decide) hl5
    have hob : opB es ≤ 64 := by
      unfold opB
      omega
    have sl : (500000 : Nat) < sizeLine := by decide
    have b1 : t1.sz * opB es ≤ 33000 := by
      have h1 := tr_sz t1
      have h2 : 2 ^ (t1.ht + 1) ≤ 2 ^ 6 := Nat.pow_le_pow_right (by decide) (by omega)
      have h3 : t1.sz * opB es ≤ 64 * 64 := Nat.mul_le_mul (by omega) hob
      omega
    refine ⟨_, rfl, _, rfl, sa, [], es, 0, v1, t1, rfl, st7, by omega, ok1, by omega, dp1, by rw [List.length_nil]; omega, by omega, fun H8 N nc T f8 l8 st8 aT wT vT => ?_⟩
    rw [List.nil_append] at st8 aT
    have dp1 := st7.dp f8 (tr_only _) dp1
    have ee8 := f8 _ _ ek.1 ek.2.1 ek.2.2 ee7
    have dr8 : Dr H8 d c := by
      obtain ⟨n1, ns', pos, rest, seed, h1, h2, h3⟩ := dr7
      have hc : c ≠ sa.k ∧ c ≠ sa.u ∧ c ≠ sa.m := by
        obtain ⟨_, _, _, _, _, _, g2, _⟩ := dr4
        exact ⟨ne_of_none g2 hk, ne_of_none g2 hu, ne_of_none g2 hm⟩
      exact ⟨n1, ns', pos, rest, seed, f8 _ _ dk.1 dk.2.1 dk.2.2 h1, f8 _ _ hc.1 hc.2.1 hc.2.2 h2, h3⟩
    have hnd := st8.es_nd
    have hsz : T.sz ≤ 1000 := by
      have := wf_sz wT
      omega
    have hht : T.ht ≤ 1000 := by
      have := ht_le wT
      omega
    have lsub : (subs es).length ≤ 32 := by
      rw [subs_len]
      omega
    generalize hpr : (fun p : List Int => t1.ev fun x => decide (x ∈ p)) = pr
    have prE : ∀ p, pr p = t1.ev fun x => decide (x ∈ p) := fun p => by rw [← hpr]
    -- those that hold
    refine ⟨_, rfl, ea, es, rfl, ee8, by omega, fun H9 sp s9 nsp ll => ?_⟩
    obtain ⟨as0, eS0, las0, g30⟩ := ll
    refine ⟨sp, rfl, ⟨_, .of eS0⟩, fun D nD => ?_⟩
    refine lc_list (K := K) (a := sp) (xs := as0.map V.ref) (fun j Hj => Same H9 Hj ∧ ∃ as : List Addr, Hj D = some (.lst (as.map V.ref)) ∧ LP H8 H9 as (((subs es).take j).filter pr)) ⟨same_upd nD, [], upd_same, rfl, fun i b l hb _ => by simp at hb⟩ (fun j Hj _ hp => .of (hp.1 _ _ eS0)) (fun j y Hj hy hp => ?_) (fun H10 hp => ?_)
    · obtain ⟨sj, as, eD, lp⟩ := hp
      rw [List.getElem?_map] at hy
      obtain ⟨b, hb0, rfl⟩ := Option.map_eq_some_iff.mp hy
      have hj : j < (subs es).length := by rw [← las0]; exact (List.getElem?_eq_some_iff.mp hb0).1
      obtain ⟨nb8, hb⟩ := g30 j b _ hb0 (List.getElem?_eq_getElem hj)
      have hl := List.getElem?_eq_getElem hj
      generalize (subs es)[j] = l at nb8 hb hl
      have etk : ((subs es).take (j + 1)).filter pr = ((subs es).take j).filter pr ++ if pr l = true then [l] else [] := by
        rw [List.take_add_one, hl, List.filter_append]
        show _ ++ List.filter _ [l] = _
        rw [List.filter_cons, List.filter_nil]
      refine ⟨rfl, ?_⟩
      refine ⟨_, rfl, _, rfl, v1, b, t1, l, rfl, Dp.ext (s9.trans sj) _ _ dp1, .of (sj _ _ hb), by omega, _, rfl, ?_⟩
      rw [← prE]
      refine ite2 (fun hc => ?_) (fun hc => ?_)
      · refine ⟨_, rfl, _, eD, ?_, ?_, as ++ [b], ?_, ?_⟩
        · rw [List.length_map, lp.1]
          have h1 : (((subs es).take j).filter pr).length ≤ ((subs es).take j).length := List.length_filter_le _ _
          rw [List.length_take] at h1
          exact Nat.lt_of_le_of_lt (m := 32) (by omega) (by decide)
        · intro z o hz
          rw [upd_ne (ne_of_none hz nD)]
          exact sj _ _ hz
        · rw [upd_same, List.map_append]
          rfl
        · rw [etk, if_pos hc]
          exact lp.snoc nb8 hb
      · refine ⟨sj, as, eD, ?_⟩
        rw [etk, if_neg (by simpa using hc), List.append_nil]
        exact lp
    obtain ⟨s10, as, eD, lp⟩ := hp
    rw [List.length_map, las0, List.take_of_length_le (Nat.le_refl _)] at lp
    obtain ⟨las, gas⟩ := lp
    have s810 := s9.trans s10
    have ee10 := s810 _ _ ee8
    have dr10 := dr8.ext s810
    have st10 := st8.ext s810
    have nDd : D ≠ d := by
      obtain ⟨zs, hz⟩ := (dr8.ext s9).lst
      exact (ne_of_none hz nD).symm
    -- more
    refine ⟨by show 3 ≤ sizeLine; decide, fun q3 nq3 => ?_⟩
    have s3' := same_upd nq3 (o := .lst [.int 1, .int 7, .int 300])
    have e3' : (upd H10 q3 (.lst [.int 1, .int 7, .int 300])) q3 = some (.lst (([1, 7, 300] : List Int).map V.int)) := upd_same
    have nq3d := dr10.nd nq3
    generalize upd H10 q3 (.lst [.int 1, .int 7, .int 300]) = H11 at s3' e3'
    refine ⟨q3, rfl, ⟨_, .of e3'⟩, fun D2 nD2 => ?_⟩
    have dr11 := dr10.ext s3'
    have nD2d := dr11.nd nD2
    refine lc_list (K := K) (a := q3) (xs := ([1, 7, 300] : List Int).map V.int) (fun j Hj => Fd d H11 Hj ∧ Dr Hj d c ∧ ∃ ms : List Int, Hj D2 = some (.lst (ms.map V.int)) ∧ ms.Sublist (([1, 7, 300] : List Int).take j) ∧ ∀ m ∈ ms, m ∉ es) ⟨Fd.new nD2, dr11.ext (same_upd nD2), [], upd_same, List.nil_sublist _, by intro _ h; cases h⟩ (fun j Hj _ hp => .of (hp.1 _ _ nq3d e3')) (fun j y Hj hy hp => ?_) (fun H12 hp => ?_)
    · obtain ⟨fj, drj, ms, eM, sub, hm⟩ := hp
      rw [List.getElem?_map] at hy
      obtain ⟨x, hx, rfl⟩ := Option.map_eq_some_iff.mp hy
      have hj : j < 3 := (List.getElem?_eq_some_iff.mp hx).1
      have etk : ([1, 7, 300] : List Int).take (j + 1) = ([1, 7, 300] : List Int).take j ++ [x] := by rw [List.take_add_one, hx]; rfl
      have lms := sub.length_le
      rw [List.length_take] at lms
      have eej := fj _ _ en4.1 (s3' _ _ ee10)
      refine ⟨rfl, ?_⟩
      refine ⟨_, rfl, _, rfl, ea, _, rfl, .inl (.of eej), rfl, ints_flat es, _, rfl, ?_⟩
      rw [if_pos rfl, inV_int]
      refine ite2 (fun hc => ?_) (fun hc => ?_)
      · refine ⟨_, rfl, d, c, 2, rfl, drj, by decide, by decide, fun H' r f' _ dr' r0 r1 => ?_⟩
        refine ⟨_, rfl, ?_⟩
        have eM' := f' _ _ nD2d eM
        refine ite2 (fun hc2 => ?_) (fun hc2 => ?_)
        · refine ⟨_, rfl, _, eM', ?_, ?_, dr'.upd nD2d (dr11.nc nD2), ms ++ [x], by rw [upd_same, List.map_append]; rfl, by rw [etk]; exact List.Sublist.append sub (List.Sublist.refl _), fun m hm' => ?_⟩
          · rw [List.length_map]
            exact Nat.lt_of_le_of_lt (m := 3) (by omega) (by decide)
          · intro b o nb e
            rw [upd_ne (ne_of_none e nD2)]
            exact f' _ _ nb (fj _ _ nb e)
          · rcases List.mem_append.mp hm' with g | g
            · exact hm m g
            · rw [List.mem_singleton.mp g]
              simpa using hc
        · exact ⟨fj.trans f', dr', ms, eM', by rw [etk]; exact sub.trans (List.sublist_append_left _ _), hm⟩
      · exact ⟨fj, drj, ms, eM, by rw [etk]; exact sub.trans (List.sublist_append_left _ _), hm⟩
    obtain ⟨f12, dr12, ms, eM, sub, hm⟩ := hp
    have sub : ms.Sublist [1, 7, 300] := sub
    have lms : ms.length ≤ 3 := sub.length_le
    have nms : ms.Nodup := List.Nodup.sublist sub (by decide)
    have f1012 : Fd d H10 H12 := (Fd.of s3').trans f12
    have ee12 := f1012 _ _ en4.1 ee10
    have st12 := st10.fd dr10.lst dk.1 f1012
    have eD12 := f1012 _ _ nDd eD
    have gas12 : ∀ (j : Nat) b l, as[j]? = some b → ((subs es).filter pr)[j]? = some l → H12 b = some (.lst (l.map V.int)) := fun j b l g1 g2 => by
      obtain ⟨nb, g4⟩ := gas j b l g1 g2
      obtain ⟨zs, hz⟩ := dr8.lst
      exact f1012 _ _ (ne_of_none hz nb).symm (s10 _ _ g4)
    -- wider
    refine ⟨_, rfl, _, rfl, ea, D2, _, _, rfl, rfl, ee12, eM, by rw [List.length_map, List.length_map]; exact Nat.le_trans (m := 8) (by omega) (by decide), fun p1 np1 => ?_⟩
    rw [← List.map_append]
    have s13 := same_upd np1 (o := .lst ((es ++ ms).map V.int))
    have e13 : (upd H12 p1 (.lst ((es ++ ms).map V.int))) p1 = some (.lst ((es ++ ms).map V.int)) := upd_same
    generalize upd H12 p1 (.lst ((es ++ ms).map V.int)) = H13 at s13 e13
    refine ⟨p1, es ++ ms, rfl, .of e13, by rw [List.length_append]; omega, fun ws p2 perm pw np2 => ?_⟩
    have nd : ws.Nodup := perm.nodup_iff.mpr (List.nodup_append.mpr ⟨hnd, nms, fun x hx y hy z => hm y hy (z ▸ hx)⟩)
    have hws : ws.Pairwise (· < ·) := (pw.and nd).imp fun h => by omega
    have lws : ws.length = es.length + ms.length := by rw [perm.length_eq, List.length_append]
    have inw : ∀ x ∈ es, x ∈ ws := fun x hx => perm.mem_iff.mpr (List.mem_append_left _ hx)
    have s14 := s13.trans (same_upd np2 (o := .lst (ws.map V.int)))
    have e14 : (upd H13 p2 (.lst (ws.map V.int))) p2 = some (.lst (ws.map V.int)) := upd_same
    generalize upd H13 p2 (.lst (ws.map V.int)) = H14 at s14 e14
    refine ⟨_, rfl, D, _, rfl, .inl (.of (s14 _ _ eD12)), ?_⟩
    rw [List.length_map, las]
    generalize hcnt : ((subs es).filter pr).length = cnt
    refine ⟨_, rfl, D2, rfl, ⟨_, .of (s14 _ _ eM)⟩, ?_⟩
    refine for_list (K := K) (a := D2) (xs := ms.map V.int) (fun j σ Hj => Hj = H14 ∧ ∃ z6 z8 z12 z13 z14, σ = [some (.ref a), some (.ref d), some (.ref ea), some v1, some (.ref sa.p), some (.int ((nc : Nat) : Int)), z6, some (.ref D), z8, some (.ref D2), some (.ref p2), some (.int ((cnt * 2 ^ j : Nat) : Int)), z12, z13, z14]) ⟨rfl, _, _, _, _, _, by rw [Nat.pow_zero, Nat.mul_one]; rfl⟩ (fun j σ Hj _ hp => by obtain ⟨rfl, _⟩ := hp; exact .of (s14 _ _ eM)) (fun j x σ Hj hx hp => ?_) (fun σ Hj hp => ?_)
    · obtain ⟨rfl, z6, z8, z12, z13, z14, rfl⟩ := hp
      refine ⟨_, rfl, _, _, rfl, rfl, .inr ⟨by decide, by decide⟩, rfl, z6, some x, z12, z13, z14, ?_⟩
      rw [Nat.pow_succ, ← Nat.mul_assoc]
      rfl
    obtain ⟨rfl, z6, z8, z12, z13, z14, rfl⟩ := hp
    rw [List.length_map]
    have dp14 := Dp.ext s14 _ _ (Dp.fd dr8.lst ((Fd.of s810).trans f1012) _ _ (tr_only _) dp1)
    have ee14 := s14 _ _ ee12
    have st14 := st12.ext s14
    have eD14 := s14 _ _ eD12
    have gas14 : ∀ (j : Nat) b l, as[j]? = some b → ((subs es).filter pr)[j]? = some l → Hj b = some (.lst (l.map V.int)) := fun j b l g1 g2 => s14 _ _ (gas12 j b l g1 g2)
    -- handed
    refine ⟨_, rfl, p2, _, rfl, .inl (.of e14), fun hq nhq => ?_⟩
    have s15 := same_upd nhq (o := .lst (ws.map V.int))
    have e15 : (upd Hj hq (.lst (ws.map V.int))) hq = some (.lst (ws.map V.int)) := upd_same
    generalize upd Hj hq (.lst (ws.map V.int)) = H15 at s15 e15
    have st15 := st14.ext s15
    -- ways
    refine ⟨_, rfl, st15.go (by decide +kernel) (by decide +kernel) (by decide +kernel) ⟨_, rfl, _, rfl, ?_⟩⟩
    refine ⟨sa, N, es, _, nc, T, hq, ws, rfl, st15, aT, wT, hsz, e15, hws, inw, by omega, fun H16 s16 => ?_⟩
    have ewy : ct ws T * 2 ^ pl ws T = cnt * 2 ^ ms.length := by
      rw [count_ok (sub_of st8.srt hws inw) nd wT t1 ok1 vT, lws, Nat.add_sub_cancel_left, ← hcnt]
      congr 2
      exact congrArg (fun z => (subs es).filter z) (funext fun p => (prE p).symm)
    rw [ewy]
    refine ⟨_, rfl, _, _, .int ((cnt * 2 ^ ms.length : Nat) : Int), 4, rfl, rfl, .int _, .int _, .int _, fun H17 s17 => ?_⟩
    refine ⟨_, rfl, ?_⟩
    show if (!true) = true then _ else _
    refine iteF ?_
    have s1517 := s16.trans s17
    have s1417 := s15.trans s1517
    refine ⟨_, rfl, _, rfl, _, _, dp_ints (.of (s1517 _ _ e15)), dp_ints (.of (s1417 _ _ e14)), ints_shaped ws, ints_shaped ws, _, rfl, ?_⟩
    rw [ints_eqv]
    refine iteF ?_
    have st17 := st14.ext s1417
    -- the first set
    refine ⟨_, rfl, st17.go (by decide +kernel) (by decide +kernel) (by decide +kernel) ⟨_, rfl, ?_⟩⟩
    refine ⟨sa, N, es, _, nc, T, rfl, st17, aT, wT, hht, fun hF => ?_, fun hF H18 fp s18 nfp efp => ?_⟩
    · have dnil : (subs es).filter pr = [] := by
        rw [List.filter_eq_nil_iff]
        intro p _ z
        rw [prE, ← vT, isF_iff.mp hF] at z
        exact Bool.false_ne_true z
      have asnil : as = [] := List.eq_nil_of_length_eq_zero (by rw [las, dnil]; rfl)
      subst asnil
      refine ⟨_, rfl, _, .inl ⟨_, .of (s1417 _ _ eD14), rfl⟩, ?_⟩
      show if (!decide ((0 : Nat) ≠ 0)) = true then _ else _
      refine iteT ?_
      refine ⟨_, rfl, rfl, ?_⟩
      rw [decide_eq_true rfl]
      exact q _
    · have dne : (subs es).filter pr ≠ [] := fun z => by
        subst hpr
        have := none_ok hnd wT ok1 vT z
        rw [hF] at this
        cases this
      have lpos : 0 < as.length := by
        rw [las]
        exact List.length_pos_iff.mpr dne
      have s1418 := s1417.trans s18
      have gas18 : ∀ (j : Nat) b l, as[j]? = some b → ((subs es).filter pr)[j]? = some l → H18 b = some (.lst (l.map V.int)) := fun j b l g1 g2 => s1418 _ _ (gas14 j b l g1 g2)
      have eD18 := s1418 _ _ eD14
      have ee18 := s1418 _ _ ee14
      refine ⟨_, rfl, _, .inl ⟨_, .of eD18, rfl⟩, ?_⟩
      have ene : (as.map V.ref).isEmpty = false := by
        cases as with
        | nil => exact absurd lpos (by simp)
        | cons => rfl
      rw [ene]
      show if (!(!false)) = true then _ else _
      refine iteF ?_
      have lpos2 : 0 < ((subs es).filter pr).length := by rw [← las]; exact lpos
      have h0 := gas18 0 as[0] _ (List.getElem?_eq_getElem lpos) (List.getElem?_eq_getElem lpos2)
      refine ⟨_, rfl, D, _, 0, .ref as[0], rfl, rfl, .of eD18, atI_nat (j := 0) (by rw [List.getElem?_map, List.getElem?_eq_getElem lpos]; rfl), ?_⟩
      refine ⟨_, rfl, D, rfl, ⟨_, .of eD18⟩, ?_⟩
      refine for_list (K := K) (a := D) (xs := as.map V.ref) (fun j σ Hj => Same H18 Hj ∧ ∃ z6 z8 z12, ∃ (bb : Addr) (bl : List Int), bl ∈ (subs es).filter pr ∧ H18 bb = some (.lst (bl.map V.int)) ∧ (∀ p ∈ ((subs es).filter pr).take j, lexB (mks es p) (mks es bl) = false) ∧ σ = [some (.ref a), some (.ref d), some (.ref ea), some v1, some (.ref sa.p), some (.int ((nc : Nat) : Int)), z6, some (.ref D), z8, some (.ref D2), some (.ref p2), some (.int ((cnt * 2 ^ ms.length : Nat) : Int)), z12, some (.ref fp), some (.ref bb)]) ⟨fun _ _ h => h, _, _, _, as[0], _, List.getElem_mem lpos2, h0, by intro p hp; simp at hp, rfl⟩ (fun j σ Hj _ hp => .of (hp.1 _ _ eD18)) (fun j x σ Hj hx hp => ?_) (fun σ Hj hp => ?_)
      · obtain ⟨sj, z6, z8, z12, bb, bl, hbl, hbb, hmin, rfl⟩ := hp
        rw [List.getElem?_map] at hx
        obtain ⟨b, hb0, rfl⟩ := Option.map_eq_some_iff.mp hx
        have hj : j < ((subs es).filter pr).length := by rw [← las]; exact (List.getElem?_eq_some_iff.mp hb0).1
        have hl := List.getElem?_eq_getElem hj
        have hb := gas18 j b _ hb0 hl
        generalize hlg : ((subs es).filter pr)[j] = l at hb hl
        have hlm : l ∈ (subs es).filter pr := List.mem_of_getElem? hl
        have etk : ((subs es).filter pr).take (j + 1) = ((subs es).filter pr).take j ++ [l] := by rw [List.take_add_one, hl]; rfl
        refine ⟨_, rfl, _, rfl, ea, b, es, l, rfl, sj _ _ ee18, sj _ _ hb, by omega, fun Ha q1 sa1 nq1 eq1 => ?_⟩
        refine ⟨_, rfl, _, rfl, ea, bb, es, bl, rfl, (sj.trans sa1) _ _ ee18, (sj.trans sa1) _ _ hbb, by omega, fun Hb q2 sb1 nq2 eq2 => ?_⟩
        refine ⟨q1, q2, mks es l, mks es bl, rfl, rfl, .of (sb1 _ _ eq1), .of eq2, by unfold mks; rw [List.length_map, List.length_map], _, rfl, ?_⟩
        refine ite2 (fun hc => ?_) (fun hc => ?_)
        · refine ⟨_, rfl, (sj.trans sa1).trans sb1, _, _, _, b, l, hlm, hb, fun p hp => ?_, rfl⟩
          rw [etk] at hp
          rcases List.mem_append.mp hp with g | g
          · cases h : lexB (mks es p) (mks es l) with
            | false => rfl
            | true =>
              have := lex_trans _ _ _ h hc
              rw [hmin p g] at this
              cases this
          · rw [List.mem_singleton.mp g]
            exact lex_irr _
        · refine ⟨(sj.trans sa1).trans sb1, _, _, _, bb, bl, hbl, hbb, fun p hp => ?_, rfl⟩
          rw [etk] at hp
          rcases List.mem_append.mp hp with g | g
          · exact hmin p g
          · rw [List.mem_singleton.mp g]
            simpa using hc
      · obtain ⟨sj, z6, z8, z12, bb, bl, hbl, hbb, hmin, rfl⟩ := hp
        rw [List.length_map, las, List.take_of_length_le (Nat.le_refl _)] at hmin
        subst hpr
        obtain ⟨_, eb⟩ := best_ok st8.srt hnd wT ok1 vT hbl hmin
        subst eb
        have lb : (fset T).length ≤ es.length := (fset_sub wT).length_le
        refine ⟨_, rfl, _, rfl, .ref fp, .ref bb, .list ((fset T).map PyData.int), 4, rfl, rfl, .lst (by rw [List.length_map]; omega) (fun z hz => ?_), dp_ints (.of (sj _ _ efp)), dp_ints (.of (sj _ _ hbb)), fun H' _ => q H'⟩
        obtain ⟨u, _, rfl⟩ := List.mem_map.mp hz
        exact .int _
end

set_option maxHeartbeats 0 in
theorem all_mk {l : PySem.W.OpenLaw} {w : World} {K : PySem.W.Frag} {h : Heap} {mg : Str → Option Value} {fa : Addr} (X : K.In h) (G : h.Ns mainGlobals mg) (hfa : mg "law" = some (.ref fa))
    {od0 an0 : Option Addr} {sl0 : Array (Option Value)} {oc0 kV0 dc0 pm0 cd0 ct0 : Value} {f0 : Addr}
    {od1 an1 : Option Addr} {sl1 : Array (Option Value)} {oc1 kV1 dc1 pm1 cd1 ct1 : Value} {f1 : Addr}
    {od2 an2 : Option Addr} {sl2 : Array (Option Value)} {oc2 kV2 dc2 pm2 cd2 ct2 : Value} {f2 : Addr}
    {od3 an3 : Option Addr} {sl3 : Array (Option Value)} {oc3 kV3 dc3 pm3 cd3 ct3 : Value} {f3 : Addr}
    {od4 an4 : Option Addr} {sl4 : Array (Option Value)} {oc4 kV4 dc4 pm4 cd4 ct4 : Value} {f4 : Addr}
    {od5 an5 : Option Addr} {sl5 : Array (Option Value)} {oc5 kV5 dc5 pm5 cd5 ct5 : Value} {f5 : Addr}
    {od6 an6 : Option Addr} {sl6 : Array (Option Value)} {oc6 kV6 dc6 pm6 cd6 ct6 : Value} {f6 : Addr}
    {od7 an7 : Option Addr} {sl7 : Array (Option Value)} {oc7 kV7 dc7 pm7 cd7 ct7 : Value} {f7 : Addr}
    {od8 an8 : Option Addr} {sl8 : Array (Option Value)} {oc8 kV8 dc8 pm8 cd8 ct8 : Value} {f8 : Addr}
    {od9 an9 : Option Addr} {sl9 : Array (Option Value)} {oc9 kV9 dc9 pm9 cd9 ct9 : Value} {f9 : Addr}
    {od10 an10 : Option Addr} {sl10 : Array (Option Value)} {oc10 kV10 dc10 pm10 cd10 ct10 : Value} {f10 : Addr}
    {od11 an11 : Option Addr} {sl11 : Array (Option Value)} {oc11 kV11 dc11 pm11 cd11 ct11 : Value} {f11 : Addr}
    {od12 an12 : Option Addr} {sl12 : Array (Option Value)} {oc12 kV12 dc12 pm12 cd12 ct12 : Value} {f12 : Addr}
    {od13 an13 : Option Addr} {sl13 : Array (Option Value)} {oc13 kV13 dc13 pm13 cd13 ct13 : Value} {f13 : Addr}
    {od14 an14 : Option Addr} {sl14 : Array (Option Value)} {oc14 kV14 dc14 pm14 cd14 ct14 : Value} {f14 : Addr}
    {od15 an15 : Option Addr} {sl15 : Array (Option Value)} {oc15 kV15 dc15 pm15 cd15 ct15 : Value} {f15 : Addr}
    {od16 an16 : Option Addr} {sl16 : Array (Option Value)} {oc16 kV16 dc16 pm16 cd16 ct16 : Value} {f16 : Addr}
    {od17 an17 : Option Addr} {sl17 : Array (Option Value)} {oc17 kV17 dc17 pm17 cd17 ct17 : Value} {f17 : Addr}
    {od18 an18 : Option Addr} {sl18 : Array (Option Value)} {oc18 kV18 dc18 pm18 cd18 ct18 : Value} {f18 : Addr}
    {od19 an19 : Option Addr} {sl19 : Array (Option Value)} {oc19 kV19 dc19 pm19 cd19 ct19 : Value} {f19 : Addr}
    {od20 an20 : Option Addr} {sl20 : Array (Option Value)} {oc20 kV20 dc20 pm20 cd20 ct20 : Value} {f20 : Addr}
    {od21 an21 : Option Addr} {sl21 : Array (Option Value)} {oc21 kV21 dc21 pm21 cd21 ct21 : Value} {f21 : Addr}
    {od22 an22 : Option Addr} {sl22 : Array (Option Value)} {oc22 kV22 dc22 pm22 cd22 ct22 : Value} {f22 : Addr}
    {od23 an23 : Option Addr} {sl23 : Array (Option Value)} {oc23 kV23 dc23 pm23 cd23 ct23 : Value} {f23 : Addr}
    {od24 an24 : Option Addr} {sl24 : Array (Option Value)} {oc24 kV24 dc24 pm24 cd24 ct24 : Value} {f24 : Addr}
    {od25 an25 : Option Addr} {sl25 : Array (Option Value)} {oc25 kV25 dc25 pm25 cd25 ct25 : Value} {f25 : Addr}
    {C_Diagrams : Addr}
    (a0 : PySem.W.findIn K (.ref C_Diagrams) "__init__" = some (some (.ref f0))) (i0 : PySem.W.isFn K (.ref f0) = true) (l0 : K.lookup f0 = some ⟨oc0, od0, .func (PySem.W.fnOf "__init__" "Diagrams.__init__" (defArgs s_Diagrams___init__) (defBody s_Diagrams___init__) (defScope s_Diagrams___init__) .none kV0 dc0 pm0 an0 cd0 ct0), sl0⟩) (c0 : PySem.W.codeIn K cd0 "Diagrams.__init__" = true) (k0 : PySem.W.keepIn K (.ref f0) = true)
    (a1 : PySem.W.findIn K (.ref C_Diagrams) "there" = some (some (.ref f1))) (i1 : PySem.W.isFn K (.ref f1) = true) (l1 : K.lookup f1 = some ⟨oc1, od1, .func (PySem.W.fnOf "there" "Diagrams.there" (defArgs s_Diagrams_there) (defBody s_Diagrams_there) (defScope s_Diagrams_there) .none kV1 dc1 pm1 an1 cd1 ct1), sl1⟩) (c1 : PySem.W.codeIn K cd1 "Diagrams.there" = true) (k1 : PySem.W.keepIn K (.ref f1) = true)
    (a2 : PySem.W.findIn K (.ref C_Diagrams) "conjunction" = some (some (.ref f2))) (i2 : PySem.W.isFn K (.ref f2) = true) (l2 : K.lookup f2 = some ⟨oc2, od2, .func (PySem.W.fnOf "conjunction" "Diagrams.conjunction" (defArgs s_Diagrams_conjunction) (defBody s_Diagrams_conjunction) (defScope s_Diagrams_conjunction) .none kV2 dc2 pm2 an2 cd2 ct2), sl2⟩) (c2 : PySem.W.codeIn K cd2 "Diagrams.conjunction" = true) (k2 : PySem.W.keepIn K (.ref f2) = true)
    (a3 : PySem.W.findIn K (.ref C_Diagrams) "disjunction" = some (some (.ref f3))) (i3 : PySem.W.isFn K (.ref f3) = true) (l3 : K.lookup f3 = some ⟨oc3, od3, .func (PySem.W.fnOf "disjunction" "Diagrams.disjunction" (defArgs s_Diagrams_disjunction) (defBody s_Diagrams_disjunction) (defScope s_Diagrams_disjunction) .none kV3 dc3 pm3 an3 cd3 ct3), sl3⟩) (c3 : PySem.W.codeIn K cd3 "Diagrams.disjunction" = true) (k3 : PySem.W.keepIn K (.ref f3) = true)
    (a4 : PySem.W.findIn K (.ref C_Diagrams) "negation" = some (some (.ref f4))) (i4 : PySem.W.isFn K (.ref f4) = true) (l4 : K.lookup f4 = some ⟨oc4, od4, .func (PySem.W.fnOf "negation" "Diagrams.negation" (defArgs s_Diagrams_negation) (defBody s_Diagrams_negation) (defScope s_Diagrams_negation) .none kV4 dc4 pm4 an4 cd4 ct4), sl4⟩) (c4 : PySem.W.codeIn K cd4 "Diagrams.negation" = true) (k4 : PySem.W.keepIn K (.ref f4) = true)
    (a5 : PySem.W.findIn K (.ref C_Diagrams) "differs" = some (some (.ref f5))) (i5 : PySem.W.isFn K (.ref f5) = true) (l5 : K.lookup f5 = some ⟨oc5, od5, .func (PySem.W.fnOf "differs" "Diagrams.differs" (defArgs s_Diagrams_differs) (defBody s_Diagrams_differs) (defScope s_Diagrams_differs) .none kV5 dc5 pm5 an5 cd5 ct5), sl5⟩) (c5 : PySem.W.codeIn K cd5 "Diagrams.differs" = true) (k5 : PySem.W.keepIn K (.ref f5) = true)
    (a6 : PySem.W.findIn K (.ref C_Diagrams) "ways" = some (some (.ref f6))) (i6 : PySem.W.isFn K (.ref f6) = true) (l6 : K.lookup f6 = some ⟨oc6, od6, .func (PySem.W.fnOf "ways" "Diagrams.ways" (defArgs s_Diagrams_ways) (defBody s_Diagrams_ways) (defScope s_Diagrams_ways) .none kV6 dc6 pm6 an6 cd6 ct6), sl6⟩) (c6 : PySem.W.codeIn K cd6 "Diagrams.ways" = true) (k6 : PySem.W.keepIn K (.ref f6) = true)
    (a7 : PySem.W.findIn K (.ref C_Diagrams) "first_set" = some (some (.ref f7))) (i7 : PySem.W.isFn K (.ref f7) = true) (l7 : K.lookup f7 = some ⟨oc7, od7, .func (PySem.W.fnOf "first_set" "Diagrams.first_set" (defArgs s_Diagrams_first_set) (defBody s_Diagrams_first_set) (defScope s_Diagrams_first_set) .none kV7 dc7 pm7 an7 cd7 ct7), sl7⟩) (c7 : PySem.W.codeIn K cd7 "Diagrams.first_set" = true) (k7 : PySem.W.keepIn K (.ref f7) = true)
    (a8 : PySem.W.findIn K (.ref C_Diagrams) "table" = some (some (.ref f8))) (i8 : PySem.W.isFn K (.ref f8) = true) (l8 : K.lookup f8 = some ⟨oc8, od8, .func (PySem.W.fnOf "table" "Diagrams.table" (defArgs s_Diagrams_table) (defBody s_Diagrams_table) (defScope s_Diagrams_table) .none kV8 dc8 pm8 an8 cd8 ct8), sl8⟩) (c8 : PySem.W.codeIn K cd8 "Diagrams.table" = true) (k8 : PySem.W.keepIn K (.ref f8) = true)
    (a9 : PySem.W.findIn K (.ref C_Diagrams) "listed" = some (some (.ref f9))) (i9 : PySem.W.isFn K (.ref f9) = true) (l9 : K.lookup f9 = some ⟨oc9, od9, .func (PySem.W.fnOf "listed" "Diagrams.listed" (defArgs s_Diagrams_listed) (defBody s_Diagrams_listed) (defScope s_Diagrams_listed) .none kV9 dc9 pm9 an9 cd9 ct9), sl9⟩) (c9 : PySem.W.codeIn K cd9 "Diagrams.listed" = true) (k9 : PySem.W.keepIn K (.ref f9) = true)
    (a10 : PySem.W.findIn K (.ref C_Diagrams) "top" = some (some (.ref f10))) (i10 : PySem.W.isFn K (.ref f10) = true) (l10 : K.lookup f10 = some ⟨oc10, od10, .func (PySem.W.fnOf "top" "Diagrams.top" (defArgs s_Diagrams_top) (defBody s_Diagrams_top) (defScope s_Diagrams_top) .none kV10 dc10 pm10 an10 cd10 ct10), sl10⟩) (c10 : PySem.W.codeIn K cd10 "Diagrams.top" = true) (k10 : PySem.W.keepIn K (.ref f10) = true)
    (a11 : PySem.W.findIn K (.ref C_Diagrams) "branches" = some (some (.ref f11))) (i11 : PySem.W.isFn K (.ref f11) = true) (l11 : K.lookup f11 = some ⟨oc11, od11, .func (PySem.W.fnOf "branches" "Diagrams.branches" (defArgs s_Diagrams_branches) (defBody s_Diagrams_branches) (defScope s_Diagrams_branches) .none kV11 dc11 pm11 an11 cd11 ct11), sl11⟩) (c11 : PySem.W.codeIn K cd11 "Diagrams.branches" = true) (k11 : PySem.W.keepIn K (.ref f11) = true)
    (a12 : PySem.W.findIn K (.ref C_Diagrams) "node_of" = some (some (.ref f12))) (i12 : PySem.W.isFn K (.ref f12) = true) (l12 : K.lookup f12 = some ⟨oc12, od12, .func (PySem.W.fnOf "node_of" "Diagrams.node_of" (defArgs s_Diagrams_node_of) (defBody s_Diagrams_node_of) (defScope s_Diagrams_node_of) .none kV12 dc12 pm12 an12 cd12 ct12), sl12⟩) (c12 : PySem.W.codeIn K cd12 "Diagrams.node_of" = true) (k12 : PySem.W.keepIn K (.ref f12) = true)
    (a13 : PySem.W.findIn K (.ref C_Diagrams) "node" = some (some (.ref f13))) (i13 : PySem.W.isFn K (.ref f13) = true) (l13 : K.lookup f13 = some ⟨oc13, od13, .func (PySem.W.fnOf "node" "Diagrams.node" (defArgs s_Diagrams_node) (defBody s_Diagrams_node) (defScope s_Diagrams_node) .none kV13 dc13 pm13 an13 cd13 ct13), sl13⟩) (c13 : PySem.W.codeIn K cd13 "Diagrams.node" = true) (k13 : PySem.W.keepIn K (.ref f13) = true)
    (a14 : PySem.W.findIn K (.ref C_Diagrams) "combine" = some (some (.ref f14))) (i14 : PySem.W.isFn K (.ref f14) = true) (l14 : K.lookup f14 = some ⟨oc14, od14, .func (PySem.W.fnOf "combine" "Diagrams.combine" (defArgs s_Diagrams_combine) (defBody s_Diagrams_combine) (defScope s_Diagrams_combine) .none kV14 dc14 pm14 an14 cd14 ct14), sl14⟩) (c14 : PySem.W.codeIn K cd14 "Diagrams.combine" = true) (k14 : PySem.W.keepIn K (.ref f14) = true)
    (a15 : PySem.W.nsIn K mainGlobals "ways_from" = some (some (.ref f15))) (l15 : K.lookup f15 = some ⟨oc15, od15, .func (PySem.W.fnOf "ways_from" "ways_from" (defArgs s_ways_from) (defBody s_ways_from) (defScope s_ways_from) .none kV15 dc15 pm15 an15 cd15 ct15), sl15⟩) (c15 : PySem.W.codeIn K cd15 "ways_from" = true) (k15 : PySem.W.keepIn K (.ref f15) = true)
    (a16 : PySem.W.nsIn K mainGlobals "_law_draw" = some (some (.ref f16))) (l16 : K.lookup f16 = some ⟨oc16, od16, .func (PySem.W.fnOf "_law_draw" "_law_draw" (defArgs s__law_draw) (defBody s__law_draw) (defScope s__law_draw) .none kV16 dc16 pm16 an16 cd16 ct16), sl16⟩) (c16 : PySem.W.codeIn K cd16 "_law_draw" = true) (k16 : PySem.W.keepIn K (.ref f16) = true)
    (a17 : PySem.W.nsIn K mainGlobals "_law_next" = some (some (.ref f17))) (l17 : K.lookup f17 = some ⟨oc17, od17, .func (PySem.W.fnOf "_law_next" "_law_next" (defArgs s__law_next) (defBody s__law_next) (defScope s__law_next) .none kV17 dc17 pm17 an17 cd17 ct17), sl17⟩) (c17 : PySem.W.codeIn K cd17 "_law_next" = true) (k17 : PySem.W.keepIn K (.ref f17) = true)
    (a18 : PySem.W.nsIn K mainGlobals "_law_same" = some (some (.ref f18))) (l18 : K.lookup f18 = some ⟨oc18, od18, .func (PySem.W.fnOf "_law_same" "_law_same" (defArgs s__law_same) (defBody s__law_same) (defScope s__law_same) .none kV18 dc18 pm18 an18 cd18 ct18), sl18⟩) (c18 : PySem.W.codeIn K cd18 "_law_same" = true) (k18 : PySem.W.keepIn K (.ref f18) = true)
    (a19 : PySem.W.nsIn K mainGlobals "_law_entries" = some (some (.ref f19))) (l19 : K.lookup f19 = some ⟨oc19, od19, .func (PySem.W.fnOf "_law_entries" "_law_entries" (defArgs s__law_entries) (defBody s__law_entries) (defScope s__law_entries) .none kV19 dc19 pm19 an19 cd19 ct19), sl19⟩) (c19 : PySem.W.codeIn K cd19 "_law_entries" = true) (k19 : PySem.W.keepIn K (.ref f19) = true)
    (a20 : PySem.W.nsIn K mainGlobals "_law_tree" = some (some (.ref f20))) (l20 : K.lookup f20 = some ⟨oc20, od20, .func (PySem.W.fnOf "_law_tree" "_law_tree" (defArgs s__law_tree) (defBody s__law_tree) (defScope s__law_tree) .none kV20 dc20 pm20 an20 cd20 ct20), sl20⟩) (c20 : PySem.W.codeIn K cd20 "_law_tree" = true) (k20 : PySem.W.keepIn K (.ref f20) = true)
    (a21 : PySem.W.nsIn K mainGlobals "_law_build" = some (some (.ref f21))) (l21 : K.lookup f21 = some ⟨oc21, od21, .func (PySem.W.fnOf "_law_build" "_law_build" (defArgs s__law_build) (defBody s__law_build) (defScope s__law_build) .none kV21 dc21 pm21 an21 cd21 ct21), sl21⟩) (c21 : PySem.W.codeIn K cd21 "_law_build" = true) (k21 : PySem.W.keepIn K (.ref f21) = true)
    (a22 : PySem.W.nsIn K mainGlobals "_law_true" = some (some (.ref f22))) (l22 : K.lookup f22 = some ⟨oc22, od22, .func (PySem.W.fnOf "_law_true" "_law_true" (defArgs s__law_true) (defBody s__law_true) (defScope s__law_true) .none kV22 dc22 pm22 an22 cd22 ct22), sl22⟩) (c22 : PySem.W.codeIn K cd22 "_law_true" = true) (k22 : PySem.W.keepIn K (.ref f22) = true)
    (a23 : PySem.W.nsIn K mainGlobals "_law_subsets" = some (some (.ref f23))) (l23 : K.lookup f23 = some ⟨oc23, od23, .func (PySem.W.fnOf "_law_subsets" "_law_subsets" (defArgs s__law_subsets) (defBody s__law_subsets) (defScope s__law_subsets) .none kV23 dc23 pm23 an23 cd23 ct23), sl23⟩) (c23 : PySem.W.codeIn K cd23 "_law_subsets" = true) (k23 : PySem.W.keepIn K (.ref f23) = true)
    (a24 : PySem.W.nsIn K mainGlobals "_law_marks" = some (some (.ref f24))) (l24 : K.lookup f24 = some ⟨oc24, od24, .func (PySem.W.fnOf "_law_marks" "_law_marks" (defArgs s__law_marks) (defBody s__law_marks) (defScope s__law_marks) .none kV24 dc24 pm24 an24 cd24 ct24), sl24⟩) (c24 : PySem.W.codeIn K cd24 "_law_marks" = true) (k24 : PySem.W.keepIn K (.ref f24) = true)
    (a25 : PySem.W.nsIn K mainGlobals "law" = some (some (.ref f25))) (l25 : K.lookup f25 = some ⟨oc25, od25, .func (PySem.W.fnOf "law" "law" (defArgs s_law) (defBody s_law) (defScope s_law) .none kV25 dc25 pm25 an25 cd25 ct25), sl25⟩) (c25 : PySem.W.codeIn K cd25 "law" = true) (k25 : PySem.W.keepIn K (.ref f25) = true)
    {tk_NEVER : Tok} (w_NEVER : PySem.W.nsIn K mainGlobals "NEVER" = some (some (.int 0 tk_NEVER))) {tk_ALWAYS : Tok} (w_ALWAYS : PySem.W.nsIn K mainGlobals "ALWAYS" = some (some (.int 1 tk_ALWAYS))) {tk_FIRST_NODE : Tok} (w_FIRST_NODE : PySem.W.nsIn K mainGlobals "FIRST_NODE" = some (some (.int 2 tk_FIRST_NODE))) (aC_Diagrams : PySem.W.nsIn K mainGlobals "Diagrams" = some (some (.ref C_Diagrams))) (pg_Diagrams : PySem.W.plainGet K C_Diagrams Str.empty = true) (hd_Diagrams : PySem.W.hasDictIn K C_Diagrams = true) (po_Diagrams : PySem.W.plainOver K C_Diagrams = true) (sa_Diagrams : PySem.W.findIn K (.ref C_Diagrams) "__setattr__" = some (some (.builtin "object.__setattr__"))) (mk_Diagrams : PySem.W.makesIn K C_Diagrams = true) (kc_Diagrams : PySem.W.keepIn K (.ref C_Diagrams) = true) (nf_Diagrams_combined : PySem.W.findIn K (.ref C_Diagrams) "combined" = some none) (nf_Diagrams_kept : PySem.W.findIn K (.ref C_Diagrams) "kept" = some none) (nf_Diagrams_numbers : PySem.W.findIn K (.ref C_Diagrams) "numbers" = some none) (z_abs : PySem.W.nsIn K mainGlobals "abs" = some none) (z_all : PySem.W.nsIn K mainGlobals "all" = some none) (z_bool : PySem.W.nsIn K mainGlobals "bool" = some none) (z_enumerate : PySem.W.nsIn K mainGlobals "enumerate" = some none) (z_int : PySem.W.nsIn K mainGlobals "int" = some none) (z_isinstance : PySem.W.nsIn K mainGlobals "isinstance" = some none) (z_len : PySem.W.nsIn K mainGlobals "len" = some none) (z_list : PySem.W.nsIn K mainGlobals "list" = some none) (z_min : PySem.W.nsIn K mainGlobals "min" = some none) (z_range : PySem.W.nsIn K mainGlobals "range" = some none) (z_sorted : PySem.W.nsIn K mainGlobals "sorted" = some none) (z_str : PySem.W.nsIn K mainGlobals "str" = some none) (z_sum : PySem.W.nsIn K mainGlobals "sum" = some none) (z_tuple : PySem.W.nsIn K mainGlobals "tuple" = some none) :
    ∃ fd : FuncData, (∀ (s : Shared) (v : Value), BindsTo s fd ⟨[v], []⟩ [("script", v)]) ∧ ∀ base : Heap, K.In base → base.Ns mainGlobals mg → FnOk l.prog w K mg base CX0 20 fa fd ["script"] (sp_law K) := by
  have e := hfa.symm.trans (PySem.W.mg_of X G a25)
  cases e
  have F_Diagrams___init__ := fun_mk (st := s_Diagrams___init__) l0 c0 k0
  have b_Diagrams___init__ := F_Diagrams___init__.binds (ps := ["self"]) fun _ _ _ _ _ _ us hl => match us, hl with | [_], _ => rfl
  have mk0_Diagrams : Mk K C_Diagrams f0 := ⟨mk_Diagrams, a0, i0, kc_Diagrams⟩
  have F_Diagrams_there := fun_mk (st := s_Diagrams_there) l1 c1 k1
  have b_Diagrams_there := F_Diagrams_there.binds (ps := ["self", "entry"]) fun _ _ _ _ _ _ us hl => match us, hl with | [_, _], _ => rfl
  have m_Diagrams_there : Meth K C_Diagrams "there" f1 := ⟨a1, i1, k1⟩
  have F_Diagrams_conjunction := fun_mk (st := s_Diagrams_conjunction) l2 c2 k2
  have b_Diagrams_conjunction := F_Diagrams_conjunction.binds (ps := ["self", "first", "second"]) fun _ _ _ _ _ _ us hl => match us, hl with | [_, _, _], _ => rfl
  have m_Diagrams_conjunction : Meth K C_Diagrams "conjunction" f2 := ⟨a2, i2, k2⟩
  have F_Diagrams_disjunction := fun_mk (st := s_Diagrams_disjunction) l3 c3 k3
  have b_Diagrams_disjunction := F_Diagrams_disjunction.binds (ps := ["self", "first", "second"]) fun _ _ _ _ _ _ us hl => match us, hl with | [_, _, _], _ => rfl
  have m_Diagrams_disjunction : Meth K C_Diagrams "disjunction" f3 := ⟨a3, i3, k3⟩
  have F_Diagrams_negation := fun_mk (st := s_Diagrams_negation) l4 c4 k4
  have b_Diagrams_negation := F_Diagrams_negation.binds (ps := ["self", "condition"]) fun _ _ _ _ _ _ us hl => match us, hl with | [_, _], _ => rfl
  have m_Diagrams_negation : Meth K C_Diagrams "negation" f4 := ⟨a4, i4, k4⟩
  have F_Diagrams_differs := fun_mk (st := s_Diagrams_differs) l5 c5 k5
  have b_Diagrams_differs := F_Diagrams_differs.binds (ps := ["self", "first", "second"]) fun _ _ _ _ _ _ us hl => match us, hl with | [_, _, _], _ => rfl
  have m_Diagrams_differs : Meth K C_Diagrams "differs" f5 := ⟨a5, i5, k5⟩
  have F_Diagrams_ways := fun_mk (st := s_Diagrams_ways) l6 c6 k6
  have b_Diagrams_ways := F_Diagrams_ways.binds (ps := ["self", "condition", "entries"]) fun _ _ _ _ _ _ us hl => match us, hl with | [_, _, _], _ => rfl
  have m_Diagrams_ways : Meth K C_Diagrams "ways" f6 := ⟨a6, i6, k6⟩
  have F_Diagrams_first_set := fun_mk (st := s_Diagrams_first_set) l7 c7 k7
  have b_Diagrams_first_set := F_Diagrams_first_set.binds (ps := ["self", "condition"]) fun _ _ _ _ _ _ us hl => match us, hl with | [_, _], _ => rfl
  have m_Diagrams_first_set : Meth K C_Diagrams "first_set" f7 := ⟨a7, i7, k7⟩
  have F_Diagrams_table := fun_mk (st := s_Diagrams_table) l8 c8 k8
  have b_Diagrams_table := F_Diagrams_table.binds (ps := ["self", "condition"]) fun _ _ _ _ _ _ us hl => match us, hl with | [_, _], _ => rfl
  have m_Diagrams_table : Meth K C_Diagrams "table" f8 := ⟨a8, i8, k8⟩
  have F_Diagrams_listed := fun_mk (st := s_Diagrams_listed) l9 c9 k9
  have b_Diagrams_listed := F_Diagrams_listed.binds (ps := ["self", "conditions"]) fun _ _ _ _ _ _ us hl => match us, hl with | [_, _], _ => rfl
  have m_Diagrams_listed : Meth K C_Diagrams "listed" f9 := ⟨a9, i9, k9⟩
  have F_Diagrams_top := fun_mk (st := s_Diagrams_top) l10 c10 k10
  have b_Diagrams_top := F_Diagrams_top.binds (ps := ["self", "conditions"]) fun _ _ _ _ _ _ us hl => match us, hl with | [_, _], _ => rfl
  have m_Diagrams_top : Meth K C_Diagrams "top" f10 := ⟨a10, i10, k10⟩
  have F_Diagrams_branches := fun_mk (st := s_Diagrams_branches) l11 c11 k11
  have b_Diagrams_branches := F_Diagrams_branches.binds (ps := ["self", "condition", "entry"]) fun _ _ _ _ _ _ us hl => match us, hl with | [_, _, _], _ => rfl
  have m_Diagrams_branches : Meth K C_Diagrams "branches" f11 := ⟨a11, i11, k11⟩
  have F_Diagrams_node_of := fun_mk (st := s_Diagrams_node_of) l12 c12 k12
  have b_Diagrams_node_of := F_Diagrams_node_of.binds (ps := ["self", "condition"]) fun _ _ _ _ _ _ us hl => match us, hl with | [_, _], _ => rfl
  have m_Diagrams_node_of : Meth K C_Diagrams "node_of" f12 := ⟨a12, i12, k12⟩
  have F_Diagrams_node := fun_mk (st := s_Diagrams_node) l13 c13 k13
  have b_Diagrams_node := F_Diagrams_node.binds (ps := ["self", "entry", "without", "there"]) fun _ _ _ _ _ _ us hl => match us, hl with | [_, _, _, _], _ => rfl
  have m_Diagrams_node : Meth K C_Diagrams "node" f13 := ⟨a13, i13, k13⟩
  have F_Diagrams_combine := fun_mk (st := s_Diagrams_combine) l14 c14 k14
  have b_Diagrams_combine := F_Diagrams_combine.binds (ps := ["self", "condition", "first", "second"]) fun _ _ _ _ _ _ us hl => match us, hl with | [_, _, _, _], _ => rfl
  have m_Diagrams_combine : Meth K C_Diagrams "combine" f14 := ⟨a14, i14, k14⟩
  have F_ways_from := fun_mk (st := s_ways_from) l15 c15 k15
  have b_ways_from := F_ways_from.binds (ps := ["start", "place", "count"]) fun _ _ _ _ _ _ us hl => match us, hl with | [_, _, _], _ => rfl
  have g_ways_from := PySem.W.mg_of X G a15
  have F__law_draw := fun_mk (st := s__law_draw) l16 c16 k16
  have b__law_draw := F__law_draw.binds (ps := ["script"]) fun _ _ _ _ _ _ us hl => match us, hl with | [_], _ => rfl
  have g__law_draw := PySem.W.mg_of X G a16
  have F__law_next := fun_mk (st := s__law_next) l17 c17 k17
  have b__law_next := F__law_next.binds (ps := ["draw", "many"]) fun _ _ _ _ _ _ us hl => match us, hl with | [_, _], _ => rfl
  have g__law_next := PySem.W.mg_of X G a17
  have F__law_same := fun_mk (st := s__law_same) l18 c18 k18
  have b__law_same := F__law_same.binds (ps := ["actual", "due"]) fun _ _ _ _ _ _ us hl => match us, hl with | [_, _], _ => rfl
  have g__law_same := PySem.W.mg_of X G a18
  have F__law_entries := fun_mk (st := s__law_entries) l19 c19 k19
  have b__law_entries := F__law_entries.binds (ps := ["draw", "most"]) fun _ _ _ _ _ _ us hl => match us, hl with | [_, _], _ => rfl
  have g__law_entries := PySem.W.mg_of X G a19
  have F__law_tree := fun_mk (st := s__law_tree) l20 c20 k20
  have b__law_tree := F__law_tree.binds (ps := ["draw", "entries", "depth"]) fun _ _ _ _ _ _ us hl => match us, hl with | [_, _, _], _ => rfl
  have g__law_tree := PySem.W.mg_of X G a20
  have F__law_build := fun_mk (st := s__law_build) l21 c21 k21
  have b__law_build := F__law_build.binds (ps := ["store", "tree"]) fun _ _ _ _ _ _ us hl => match us, hl with | [_, _], _ => rfl
  have g__law_build := PySem.W.mg_of X G a21
  have F__law_true := fun_mk (st := s__law_true) l22 c22 k22
  have b__law_true := F__law_true.binds (ps := ["tree", "present"]) fun _ _ _ _ _ _ us hl => match us, hl with | [_, _], _ => rfl
  have g__law_true := PySem.W.mg_of X G a22
  have F__law_subsets := fun_mk (st := s__law_subsets) l23 c23 k23
  have b__law_subsets := F__law_subsets.binds (ps := ["entries"]) fun _ _ _ _ _ _ us hl => match us, hl with | [_], _ => rfl
  have g__law_subsets := PySem.W.mg_of X G a23
  have F__law_marks := fun_mk (st := s__law_marks) l24 c24 k24
  have b__law_marks := F__law_marks.binds (ps := ["entries", "part"]) fun _ _ _ _ _ _ us hl => match us, hl with | [_, _], _ => rfl
  have g__law_marks := PySem.W.mg_of X G a24
  have F_law := fun_mk (st := s_law) l25 c25 k25
  have cl_Diagrams : Cls K C_Diagrams := ⟨pg_Diagrams, hd_Diagrams, po_Diagrams, sa_Diagrams⟩
  have g_Diagrams := PySem.W.mg_of X G aC_Diagrams
  have M : Mg mg := ⟨PySem.W.mg_none_of X G z_abs, PySem.W.mg_none_of X G z_all, PySem.W.mg_none_of X G z_bool, PySem.W.mg_none_of X G z_enumerate, PySem.W.mg_none_of X G z_int, PySem.W.mg_none_of X G z_isinstance, PySem.W.mg_none_of X G z_len, PySem.W.mg_none_of X G z_list, PySem.W.mg_none_of X G z_min, PySem.W.mg_none_of X G z_range, PySem.W.mg_none_of X G z_sorted, PySem.W.mg_none_of X G z_str, PySem.W.mg_none_of X G z_sum, PySem.W.mg_none_of X G z_tuple⟩
  exact ⟨PySem.W.fnOf "law" "law" (defArgs s_law) (defBody s_law) (defScope s_law) .none kV25 dc25 pm25 an25 cd25 ct25, fun s v => .of_eq rfl, fun base _ _ => by
  have GD : DgC K C_Diagrams mg := ⟨cl_Diagrams, nf_Diagrams_kept, nf_Diagrams_numbers, nf_Diagrams_combined, ⟨_, PySem.W.mg_of X G w_NEVER, _, rfl⟩, ⟨_, PySem.W.mg_of X G w_ALWAYS, _, rfl⟩, ⟨_, PySem.W.mg_of X G w_FIRST_NODE, _, rfl⟩⟩
  have NOF := FnOk.clm (P := l.prog) (w := w) (base := base) (ok_nof F_Diagrams_node_of M GD) m_Diagrams_node_of cl_Diagrams b_Diagrams_node_of
  have NDE := FnOk.clm (P := l.prog) (w := w) (base := base) (ok_node F_Diagrams_node M GD) m_Diagrams_node cl_Diagrams b_Diagrams_node
  have TOP := FnOk.clm (ok_top F_Diagrams_top M GD NOF) m_Diagrams_top cl_Diagrams b_Diagrams_top
  have BRA := FnOk.clm (ok_bra F_Diagrams_branches M GD NOF) m_Diagrams_branches cl_Diagrams b_Diagrams_branches
  have CMB := cl_comb F_Diagrams_combine M GD m_Diagrams_combine b_Diagrams_combine NDE TOP BRA 6
  have THE := FnOk.clm (ok_there F_Diagrams_there M GD NDE) m_Diagrams_there cl_Diagrams b_Diagrams_there
  have CON := FnOk.clm (ok_conj F_Diagrams_conjunction M GD CMB) m_Diagrams_conjunction cl_Diagrams b_Diagrams_conjunction
  have DIS := FnOk.clm (ok_disj F_Diagrams_disjunction M GD CMB) m_Diagrams_disjunction cl_Diagrams b_Diagrams_disjunction
  have NEG := FnOk.clm (ok_neg F_Diagrams_negation M GD CMB) m_Diagrams_negation cl_Diagrams b_Diagrams_negation
  have DIF := FnOk.clm (ok_diff F_Diagrams_differs M GD CMB NEG) m_Diagrams_differs cl_Diagrams b_Diagrams_differs
  have DIN : ClC l.prog w K mg base 1 "Diagrams" C_Diagrams (sp_dinit C_Diagrams K) := ⟨_, _, _, ok_dinit F_Diagrams___init__ GD, mk0_Diagrams, g_Diagrams, b_Diagrams___init__⟩
  have N := FnOk.cl (P := l.prog) (w := w) (base := base) (ok_next F__law_next M) F__law_next g__law_next b__law_next
  have DR := FnOk.cl (P := l.prog) (w := w) (base := base) (ok_draw F__law_draw M) F__law_draw g__law_draw b__law_draw
  have LTR := cl_ltr F__law_tree M g__law_tree b__law_tree N
  have LBU := cl_build 6 F__law_build M g__law_build b__law_build THE CON DIS NEG DIF
  have LTU := cl_true (P := l.prog) (w := w) (base := base) F__law_true M g__law_true b__law_true
  have LSU := FnOk.cl (P := l.prog) (w := w) (base := base) (ok_subs F__law_subsets M) F__law_subsets g__law_subsets b__law_subsets

  have LIS := FnOk.clm (ok_listed F_Diagrams_listed M GD NOF) m_Diagrams_listed cl_Diagrams b_Diagrams_listed
  have TAB := FnOk.clm (ok_table F_Diagrams_table M GD LIS) m_Diagrams_table cl_Diagrams b_Diagrams_table
  have WFR := FnOk.cl (P := l.prog) (w := w) (base := base) (ok_wfr F_ways_from M) F_ways_from g_ways_from b_ways_from
  have WAY := FnOk.clm (ok_ways F_Diagrams_ways M GD TAB WFR) m_Diagrams_ways cl_Diagrams b_Diagrams_ways
  have FST := FnOk.clm (ok_fset F_Diagrams_first_set M GD NOF) m_Diagrams_first_set cl_Diagrams b_Diagrams_first_set
  have SM := cl_same (P := l.prog) (w := w) (base := base) F__law_same M g__law_same b__law_same
  have LEN := FnOk.cl (ok_ents 5 F__law_entries M N) F__law_entries g__law_entries b__law_entries
  have LSN := FnOk.cl (P := l.prog) (w := w) (base := base) (ok_subsN F__law_subsets M) F__law_subsets g__law_subsets b__law_subsets
  have LMK := FnOk.cl (P := l.prog) (w := w) (base := base) (ok_mk F__law_marks M) F__law_marks g__law_marks b__law_marks
  exact ok_law F_law M DR N LEN (LTR 6) DIN (LBU 9) LSN (LTU 9) LMK (SM 5) WAY FST⟩
end Lw
open PySem PySem.W PyProof.Rows
set_option maxHeartbeats 0 in
theorem PySem.Challenge.cw_lineworks_k58_sets_are_counted_holds : PySem.Challenge.rw_lineworks_k58_sets_are_counted.Holds := by
  w_on; o_law; k_head; (case hw => w_witness2)
  k_fill
  refine L2.walk_of (l := PySem.Challenge.rw_lineworks_k58_sets_are_counted) (n := 63) (k := 20) (x := "script") (CX := fun _ => L2.CX0) (sp := fun w => Lw.sp_law _) rfl (by decide) rfl ⟨rfl, by decide, by decide⟩ (fun w h Y => PySem.W.kIn_of Y) ?F (fun _ _ a ns hl _ hS => ⟨a, ns, rfl, hS, hl, fun _ => rfl⟩) (fun _ _ _ _ _ h => h)
  case F =>
    intro w mg fa h KX G hmg
    refine' Lw.all_mk KX G hmg ?a0 ?i0 ?l0 ?c0 ?k0 ?a1 ?i1 ?l1 ?c1 ?k1 ?a2 ?i2 ?l2 ?c2 ?k2 ?a3 ?i3 ?l3 ?c3 ?k3 ?a4 ?i4 ?l4 ?c4 ?k4 ?a5 ?i5 ?l5 ?c5 ?k5 ?a6 ?i6 ?l6 ?c6 ?k6 ?a7 ?i7 ?l7 ?c7 ?k7 ?a8 ?i8 ?l8 ?c8 ?k8 ?a9 ?i9 ?l9 ?c9 ?k9 ?a10 ?i10 ?l10 ?c10 ?k10 ?a11 ?i11 ?l11 ?c11 ?k11 ?a12 ?i12 ?l12 ?c12 ?k12 ?a13 ?i13 ?l13 ?c13 ?k13 ?a14 ?i14 ?l14 ?c14 ?k14 ?a15 ?l15 ?c15 ?k15 ?a16 ?l16 ?c16 ?k16 ?a17 ?l17 ?c17 ?k17 ?a18 ?l18 ?c18 ?k18 ?a19 ?l19 ?c19 ?k19 ?a20 ?l20 ?c20 ?k20 ?a21 ?l21 ?c21 ?k21 ?a22 ?l22 ?c22 ?k22 ?a23 ?l23 ?c23 ?k23 ?a24 ?l24 ?c24 ?k24 ?a25 ?l25 ?c25 ?k25 ?w_NEVER ?w_ALWAYS ?w_FIRST_NODE ?aC_Diagrams ?pg_Diagrams ?hd_Diagrams ?po_Diagrams ?sa_Diagrams ?mk_Diagrams ?kc_Diagrams ?nf_Diagrams_combined ?nf_Diagrams_kept ?nf_Diagrams_numbers ?z_abs ?z_all ?z_bool ?z_enumerate ?z_int ?z_isinstance ?z_len ?z_list ?z_min ?z_range ?z_sorted ?z_str ?z_sum ?z_tuple
    (case aC_Diagrams => k_is)
    (case pg_Diagrams => k_is)
    (case hd_Diagrams => k_is)
    (case po_Diagrams => k_is)
    (case sa_Diagrams => k_is)
    (case mk_Diagrams => k_is)
    (case kc_Diagrams => k_is)
    (case nf_Diagrams_combined => k_is)
    (case nf_Diagrams_kept => k_is)
    (case nf_Diagrams_numbers => k_is)
    (case a0 => k_is); (case i0 => k_is); (case l0 => k_is); (case c0 => k_is); (case k0 => k_is)
    (case a1 => k_is); (case i1 => k_is); (case l1 => k_is); (case c1 => k_is); (case k1 => k_is)
    (case a2 => k_is); (case i2 => k_is); (case l2 => k_is); (case c2 => k_is); (case k2 => k_is)
    (case a3 => k_is); (case i3 => k_is); (case l3 => k_is); (case c3 => k_is); (case k3 => k_is)
    (case a4 => k_is); (case i4 => k_is); (case l4 => k_is); (case c4 => k_is); (case k4 => k_is)
    (case a5 => k_is); (case i5 => k_is); (case l5 => k_is); (case c5 => k_is); (case k5 => k_is)
    (case a6 => k_is); (case i6 => k_is); (case l6 => k_is); (case c6 => k_is); (case k6 => k_is)
    (case a7 => k_is); (case i7 => k_is); (case l7 => k_is); (case c7 => k_is); (case k7 => k_is)
    (case a8 => k_is); (case i8 => k_is); (case l8 => k_is); (case c8 => k_is); (case k8 => k_is)
    (case a9 => k_is); (case i9 => k_is); (case l9 => k_is); (case c9 => k_is); (case k9 => k_is)
    (case a10 => k_is); (case i10 => k_is); (case l10 => k_is); (case c10 => k_is); (case k10 => k_is)
    (case a11 => k_is); (case i11 => k_is); (case l11 => k_is); (case c11 => k_is); (case k11 => k_is)
    (case a12 => k_is); (case i12 => k_is); (case l12 => k_is); (case c12 => k_is); (case k12 => k_is)
    (case a13 => k_is); (case i13 => k_is); (case l13 => k_is); (case c13 => k_is); (case k13 => k_is)
    (case a14 => k_is); (case i14 => k_is); (case l14 => k_is); (case c14 => k_is); (case k14 => k_is)
    (case a15 => k_is); (case l15 => k_is); (case c15 => k_is); (case k15 => k_is)
    (case a16 => k_is); (case l16 => k_is); (case c16 => k_is); (case k16 => k_is)
    (case a17 => k_is); (case l17 => k_is); (case c17 => k_is); (case k17 => k_is)
    (case a18 => k_is); (case l18 => k_is); (case c18 => k_is); (case k18 => k_is)
    (case a19 => k_is); (case l19 => k_is); (case c19 => k_is); (case k19 => k_is)
    (case a20 => k_is); (case l20 => k_is); (case c20 => k_is); (case k20 => k_is)
    (case a21 => k_is); (case l21 => k_is); (case c21 => k_is); (case k21 => k_is)
    (case a22 => k_is); (case l22 => k_is); (case c22 => k_is); (case k22 => k_is)
    (case a23 => k_is); (case l23 => k_is); (case c23 => k_is); (case k23 => k_is)
    (case a24 => k_is); (case l24 => k_is); (case c24 => k_is); (case k24 => k_is)
    (case a25 => k_is); (case l25 => k_is); (case c25 => k_is); (case k25 => k_is)
    (case w_NEVER => k_is)
    (case w_ALWAYS => k_is)
    (case w_FIRST_NODE => k_is)
    (case z_abs => k_is); (case z_all => k_is); (case z_bool => k_is); (case z_enumerate => k_is); (case z_int => k_is); (case z_isinstance => k_is); (case z_len => k_is); (case z_list => k_is); (case z_min => k_is); (case z_range => k_is); (case z_sorted => k_is); (case z_str => k_is); (case z_sum => k_is); (case z_tuple => k_is)

