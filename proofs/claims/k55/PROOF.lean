import PyProof.Rows.All
import Wide.All
import OpenK.AllK
import Wide.FinOn
import HandS.ForMost
import HandS.Wide
import HandS.IsInst
import HandS.Codes
import HandS.More
import PySem.Challenge.RW_lineworks_k55_conditions_have_one_form
set_option Elab.async false
set_option linter.all false
set_option maxRecDepth 100000
namespace Lw
open PySem PySem.Spec PyProof.Rows L2
def topS (i : Nat) : Stmt := PySem.Challenge.pw_lineworks_k55_conditions_have_one_form.main.body.getD i (.Pass ⟨0, 0, 0, 0⟩)
abbrev s__wall : Stmt := topS 0
abbrev s_Diagrams___init__ : Stmt := inClass (topS 5) 0
abbrev N_Diagrams___init__ : List Str := ["self"]
theorem sc_Diagrams___init__ : FnScope N_Diagrams___init__ ["self"] (defScope s_Diagrams___init__) := ⟨rfl, rfl, rfl, by decide +kernel, rfl, by decide +kernel, by decide +kernel⟩
abbrev s_Diagrams_there : Stmt := inClass (topS 5) 1
abbrev N_Diagrams_there : List Str := ["self", "entry"]
theorem sc_Diagrams_there : FnScope N_Diagrams_there ["self", "entry"] (defScope s_Diagrams_there) := ⟨rfl, rfl, rfl, by decide +kernel, rfl, by decide +kernel, by decide +kernel⟩
abbrev s_Diagrams_conjunction : Stmt := inClass (topS 5) 2
abbrev N_Diagrams_conjunction : List Str := ["self", "first", "second"]
theorem sc_Diagrams_conjunction : FnScope N_Diagrams_conjunction ["self", "first", "second"] (defScope s_Diagrams_conjunction) := ⟨rfl, rfl, rfl, by decide +kernel, rfl, by decide +kernel, by decide +kernel⟩
abbrev s_Diagrams_disjunction : Stmt := inClass (topS 5) 3
abbrev N_Diagrams_disjunction : List Str := ["self", "first", "second"]
theorem sc_Diagrams_disjunction : FnScope N_Diagrams_disjunction ["self", "first", "second"] (defScope s_Diagrams_disjunction) := ⟨rfl, rfl, rfl, by decide +kernel, rfl, by decide +kernel, by decide +kernel⟩
abbrev s_Diagrams_negation : Stmt := inClass (topS 5) 4
abbrev N_Diagrams_negation : List Str := ["self", "condition"]
theorem sc_Diagrams_negation : FnScope N_Diagrams_negation ["self", "condition"] (defScope s_Diagrams_negation) := ⟨rfl, rfl, rfl, by decide +kernel, rfl, by decide +kernel, by decide +kernel⟩
abbrev s_Diagrams_differs : Stmt := inClass (topS 5) 5
abbrev N_Diagrams_differs : List Str := ["self", "first", "second"]
theorem sc_Diagrams_differs : FnScope N_Diagrams_differs ["self", "first", "second"] (defScope s_Diagrams_differs) := ⟨rfl, rfl, rfl, by decide +kernel, rfl, by decide +kernel, by decide +kernel⟩
abbrev s_Diagrams_restrict : Stmt := inClass (topS 5) 6
abbrev s_Diagrams_holds : Stmt := inClass (topS 5) 7
abbrev s_Diagrams_depends : Stmt := inClass (topS 5) 8
abbrev s_Diagrams_size : Stmt := inClass (topS 5) 9
abbrev s_Diagrams_implies : Stmt := inClass (topS 5) 10
abbrev s_Diagrams_helps : Stmt := inClass (topS 5) 11
abbrev s_Diagrams_hurts : Stmt := inClass (topS 5) 12
abbrev s_Diagrams_ways : Stmt := inClass (topS 5) 13
abbrev s_Diagrams_first_set : Stmt := inClass (topS 5) 14
abbrev s_Diagrams_table : Stmt := inClass (topS 5) 15
abbrev s_Diagrams_listed : Stmt := inClass (topS 5) 16
abbrev s_Diagrams_top : Stmt := inClass (topS 5) 17
abbrev N_Diagrams_top : List Str := ["self", "conditions", "condition"]
theorem sc_Diagrams_top : FnScope N_Diagrams_top ["self", "conditions"] (defScope s_Diagrams_top) := ⟨rfl, rfl, rfl, by decide +kernel, rfl, by decide +kernel, by decide +kernel⟩
abbrev s_Diagrams_branches : Stmt := inClass (topS 5) 18
abbrev N_Diagrams_branches : List Str := ["self", "condition", "entry", "asked", "without", "there"]
theorem sc_Diagrams_branches : FnScope N_Diagrams_branches ["self", "condition", "entry"] (defScope s_Diagrams_branches) := ⟨rfl, rfl, rfl, by decide +kernel, rfl, by decide +kernel, by decide +kernel⟩
abbrev s_Diagrams_node_of : Stmt := inClass (topS 5) 19
abbrev N_Diagrams_node_of : List Str := ["self", "condition"]
theorem sc_Diagrams_node_of : FnScope N_Diagrams_node_of ["self", "condition"] (defScope s_Diagrams_node_of) := ⟨rfl, rfl, rfl, by decide +kernel, rfl, by decide +kernel, by decide +kernel⟩
abbrev s_Diagrams_node : Stmt := inClass (topS 5) 20
abbrev N_Diagrams_node : List Str := ["self", "entry", "without", "there", "made"]
theorem sc_Diagrams_node : FnScope N_Diagrams_node ["self", "entry", "without", "there"] (defScope s_Diagrams_node) := ⟨rfl, rfl, rfl, by decide +kernel, rfl, by decide +kernel, by decide +kernel⟩
abbrev s_Diagrams_combine : Stmt := inClass (topS 5) 21
abbrev N_Diagrams_combine : List Str := ["self", "condition", "first", "second", "asked", "entry", "without", "there", "first_without", "first_there", "second_without", "second_there"]
theorem sc_Diagrams_combine : FnScope N_Diagrams_combine ["self", "condition", "first", "second"] (defScope s_Diagrams_combine) := ⟨rfl, rfl, rfl, by decide +kernel, rfl, by decide +kernel, by decide +kernel⟩
abbrev s__law_draw : Stmt := topS 7
abbrev N__law_draw : List Str := ["script"]
theorem sc__law_draw : FnScope N__law_draw ["script"] (defScope s__law_draw) := ⟨rfl, rfl, rfl, by decide +kernel, rfl, by decide +kernel, by decide +kernel⟩
abbrev s__law_next : Stmt := topS 8
abbrev N__law_next : List Str := ["draw", "many", "found", "cell"]
theorem sc__law_next : FnScope N__law_next ["draw", "many"] (defScope s__law_next) := ⟨rfl, rfl, rfl, by decide +kernel, rfl, by decide +kernel, by decide +kernel⟩
abbrev s__law_entries : Stmt := topS 9
abbrev N__law_entries : List Str := ["draw", "most", "entries", "last", "k"]
theorem sc__law_entries : FnScope N__law_entries ["draw", "most"] (defScope s__law_entries) := ⟨rfl, rfl, rfl, by decide +kernel, rfl, by decide +kernel, by decide +kernel⟩
abbrev s__law_tree : Stmt := topS 10
abbrev N__law_tree : List Str := ["draw", "entries", "depth", "form", "first"]
theorem sc__law_tree : FnScope N__law_tree ["draw", "entries", "depth"] (defScope s__law_tree) := ⟨rfl, rfl, rfl, by decide +kernel, rfl, by decide +kernel, by decide +kernel⟩
abbrev s__law_build : Stmt := topS 11
abbrev N__law_build : List Str := ["store", "tree", "first", "second"]
theorem sc__law_build : FnScope N__law_build ["store", "tree"] (defScope s__law_build) := ⟨rfl, rfl, rfl, by decide +kernel, rfl, by decide +kernel, by decide +kernel⟩
abbrev s__law_true : Stmt := topS 12
abbrev N__law_true : List Str := ["tree", "present", "first", "second"]
theorem sc__law_true : FnScope N__law_true ["tree", "present"] (defScope s__law_true) := ⟨rfl, rfl, rfl, by decide +kernel, rfl, by decide +kernel, by decide +kernel⟩
abbrev s__law_subsets : Stmt := topS 13
abbrev N__law_subsets : List Str := ["entries", "found", "entry", "part"]
theorem sc__law_subsets : FnScope N__law_subsets ["entries"] (defScope s__law_subsets) := ⟨rfl, rfl, rfl, by decide +kernel, rfl, by decide +kernel, by decide +kernel⟩
abbrev s_law : Stmt := topS 14
abbrev N_law : List Str := ["script", "draw", "entries", "k", "trees", "store", "built", "again", "truths", "number", "j", "tree", "part"]
theorem sc_law : FnScope N_law ["script"] (defScope s_law) := ⟨rfl, rfl, rfl, by decide +kernel, rfl, by decide +kernel, by decide +kernel⟩
/-! ### heaps and calls -/
theorem same_upd {H : Hp} {p : Addr} {o : HO} (h : H p = none) : Same H (upd H p o) := fun b x e => by
  rw [upd_ne (ne_of_none e h)]
  exact e
/-- what stood stands, but for the object at d -/
def Fd (d : Addr) (H H' : Hp) : Prop := ∀ b o, b ≠ d → H b = some o → H' b = some o
theorem Fd.refl (d : Addr) (H : Hp) : Fd d H H := fun _ _ _ e => e
theorem Fd.trans {d : Addr} {H H1 H2 : Hp} (a : Fd d H H1) (b : Fd d H1 H2) : Fd d H H2 := fun c o n e => b c o n (a c o n e)
theorem Fd.of {d : Addr} {H H' : Hp} (a : Same H H') : Fd d H H' := fun b o _ e => a b o e
theorem Fd.new {d : Addr} {H : Hp} {p : Addr} {o : HO} (h : H p = none) : Fd d H (upd H p o) := Fd.of (same_upd h)
theorem Fd.at {d : Addr} {H : Hp} {o : HO} : Fd d H (upd H d o) := fun b x n e => by
  rw [upd_ne n]
  exact e
/-- a def that may be called by its name -/
structure Cl (P : Program) (w : World) (K : PySem.W.Frag) (mg : Str → Option Value) (base : Heap) (k : Nat) (x : Str) (sp : Sp) : Prop where
  ex : ∃ (f : Addr) (fd : FuncData) (ps : List Str), FnOk P w K mg base CX0 k f fd ps sp ∧ mg x = some (.ref f) ∧ PySem.W.keepIn K (.ref f) = true ∧ Binds K fd ps []
section
variable {X : Cx} {k j : Nat} {x : Str} {sp : Sp} {p pos : Pos} {e : Expr} {es : List Expr} {t : TA}
theorem pe_u (c : Cl X.prog X.w X.K X.mg X.base k x sp) (hr : Room j X.A) (hk : k ≤ j) (hg : Gl X x) (ha : PA X (e :: es) t)
    (hdb : (x == ("__debug__" : Str)) = false := by decide) (he : starEach (e :: es) X.env = (false, eval e X.env) :: starEach es X.env := by rfl) (hpl : (backTo pos (starEach es X.env)).any (·.1) = false := by rfl) :
    PE X (.Call (.Name x p) (e :: es) [] pos) (tCall sp [] E0 t) := by
  obtain ⟨f, fd, ps, F, hm, kp, b⟩ := c.ex
  exact pe_call F (hr.mono hk) hg hm kp b .nil pass0 ha hdb he hpl
theorem pe_u0 (c : Cl X.prog X.w X.K X.mg X.base k x sp) (hr : Room j X.A) (hk : k ≤ j) (hg : Gl X x) (hdb : (x == ("__debug__" : Str)) = false := by decide) : PE X (.Call (.Name x p) [] [] pos) (tCall sp [] E0 tNil) := by
  obtain ⟨f, fd, ps, F, hm, kp, b⟩ := c.ex
  exact pe_call0 F (hr.mono hk) hg hm kp b .nil pass0 hdb
end
theorem FnOk.cl {P : Program} {w : World} {K : PySem.W.Frag} {mg : Str → Option Value} {base : Heap} {k : Nat} {x q : Str} {st : Stmt} {f : Addr} {fd : FuncData} {ps : List Str} {sp : Sp} (h : FnOk P w K mg base CX0 k f fd ps sp) (F : Fun K x q st f fd) (g : mg x = some (.ref f)) (b : Binds K fd ps []) : Cl P w K mg base k x sp := ⟨f, fd, ps, h, g, F.kp, b⟩
/-! ### rules with the written part named (within a comprehension) -/
section
variable {X : Cx} (K : PySem.W.Frag)
theorem ix_listK (h : X.K = K := by rfl) : IxR X (rIxL K) := by subst h; exact ix_list
theorem ix_tupK (h : X.K = K := by rfl) : IxR X (rIxT K) := by subst h; exact ix_tup
theorem ix_seqK (h : X.K = K := by rfl) : IxR X (rIx K) := by subst h; exact ix_seq
theorem len_seqK (h : X.K = K := by rfl) : CallR X (.builtin "len") (fun xs H Q => ∃ p ys, xs = [.ref p] ∧ (SqL K H p ys ∨ SqT K H p ys) ∧ Q (.int ys.length) H) := by subst h; exact call_len_seq
theorem isiK (h : X.K = K := by rfl) : CallR X (.builtin "isinstance") (rIsi K) := by subst h; exact call_isi
theorem isiTK (h : X.K = K := by rfl) : CallR X (.builtin "isinstance") (rIsiT K) := by subst h; exact call_isiT
theorem allK (hc : X.calm = true) (h : X.K = K := by rfl) : CallR X (.builtin "all") (rAll K) := by subst h; exact cr_all hc
theorem listK (h : X.K = K := by rfl) : CallR X (.type "list") (fun xs H Q => ∃ p ys, xs = [.ref p] ∧ (SqL K H p ys ∨ SqT K H p ys) ∧ ∀ l, H l = none → Q (.ref l) (upd H l (.lst ys))) := by subst h; exact call_list_of
theorem tupleK (h : X.K = K := by rfl) : CallR X (.type "tuple") (fun xs H Q => ∃ p ys, xs = [.ref p] ∧ ((SqL K H p ys ∧ ∀ l, H l = none → Q (.ref l) (upd H l (.tup ys))) ∨ (SqT K H p ys ∧ Q (.ref p) H))) := by subst h; exact call_tuple_of
theorem inK (h : X.K = K := by rfl) : OpR X (compareOp .In) (rIn K false) := by subst h; exact op_in_seq
theorem notInK (h : X.K = K := by rfl) : OpR X (compareOp .NotIn) (rIn K true) := by subst h; exact op_notIn_seq
theorem pe_bmK {T : String} {name : Str} {id : String} {r : V → List V → Hp → VK → Prop} {o e : Expr} {es : List Expr} {to : TE} {t : TA} {apos cpos : Pos} (pa : PlainAttrs T) (slot : Slot T name id) (hty : typeOf (.builtin id) = pure (.type "method_descriptor")) (hm : MtR X id r) (ho : PE X o to) (ha : PA X (e :: es) t) (hK : X.K = K := by rfl)
    (hbase : attributeBase o name X.env (eval o X.env) = eval o X.env := by rfl)
    (hfew : ((backTo cpos (starEach (e :: es) X.env)).all (fun x => !x.1) && (backToKw cpos (keywordEach [] X.env)).all (fun x => x.1.isSome)
      && decide ((e :: es).length + ([] : List Keyword).length + (if ([] : List Keyword).isEmpty then 0 else 1) < 30)) = true := by rfl)
    (hline : (apos.endLine == cpos.line) = true := by rfl) (hs : starEach (e :: es) X.env = (false, eval e X.env) :: starEach es X.env := by rfl) (hplain : (backTo cpos (starEach es X.env)).any (·.1) = false := by rfl) :
    PE X (.Call (.Attribute o name apos) (e :: es) [] cpos) (tBM K T r to t) := by subst hK; exact pe_bm pa slot hty hm ho ha hbase hfew hline hs hplain
theorem pt_truthK {a : Expr} {ta : TE} (ha : PE X a ta) (he : ∀ whole, isTrue a X.env whole = (do let v ← whole; standAt a.pos; holding [v] (truthy v))) (h : X.K = K := by rfl) : PT X a (fun σ H Q => ta σ H fun x H' => ∃ k, TruV K x H' k ∧ Q k H') := by subst h; exact pt_truth ha he
theorem eqDK (hu : X.A.units + 64 < cLine) (h : X.K = K := by rfl) : OpR X (compareOp .Eq) (rEqD K) := by subst h; exact op_eqD hu
theorem neDK (hu : X.A.units + 64 < cLine) (h : X.K = K := by rfl) : OpR X (compareOp .NotEq) (rNeD K) := by subst h; exact op_neD hu
end
/-- over the signs of a text -/
theorem for_strs {x : Str} {g : TG} {tb : TS} {D : Ends} {σ : L2.St} {H : Hp} (Pv : Nat → L2.St → Hp → Prop) (h0 : Pv 0 σ H)
    (hs : ∀ i c σ H, x.cps.toList[i]? = some c → Pv i σ H → g (.str ⟨#[c]⟩) σ H fun σ2 H2 => tb { D with nx := Pv (i + 1), ct := Pv (i + 1), bk := D.nx } σ2 H2) (hd : ∀ σ H, Pv x.cps.toList.length σ H → D.nx σ H) :
    ∃ W : Nat → Nat → L2.St → Hp → Prop, (∃ m, W 0 m σ H) ∧ ∀ i m σ H, W i m σ H →
      ((Its x).stop i H ∧ D.nx σ H) ∨ ((Its x).go i H ∧ ∃ N : L2.St → Hp → Prop, (∀ σ' H', N σ' H' → ∃ m', m' < m ∧ W (i + 1) m' σ' H') ∧ ∀ v H', (Its x).yld i H v H' → g v σ H' fun σ2 H2 => tb { D with nx := N, ct := N, bk := D.nx } σ2 H2) := by
  have es : x.cps.toList.length = x.cps.size := by simp
  refine ⟨fun i m σ H => m = x.cps.size - i ∧ i ≤ x.cps.size ∧ Pv i σ H, ⟨x.cps.size, by simp, Nat.zero_le _, h0⟩, ?_⟩
  rintro i m σ H ⟨rfl, hi, p⟩
  by_cases hlt : i < x.cps.size
  · refine .inr ⟨hlt, Pv (i + 1), fun σ' H' p' => ⟨x.cps.size - (i + 1), by omega, rfl, hlt, p'⟩, fun v H' y => ?_⟩
    obtain ⟨e, c, hc, rfl⟩ := y
    subst e
    exact hs i c σ _ (by rw [Array.getElem?_toList]; exact hc) p
  · have e : i = x.cps.size := by omega
    subst e
    exact .inl ⟨Nat.le_refl _, hd σ H (by rw [es]; exact p)⟩
theorem joinL0 : ∀ ps : List (List Nat), TL.joinL [] ps = ps.flatten
  | [] => rfl
  | [p] => by
    show p = p ++ []
    rw [List.append_nil]
  | p :: q :: r => by
    show p ++ ([] ++ TL.joinL [] (q :: r)) = p ++ (q :: r).flatten
    rw [joinL0 (q :: r), List.nil_append]
theorem join0 (ys : List Str) : Txt.join ⟨#[]⟩ ys = ⟨((ys.map TL.tl).flatten).toArray⟩ := by
  refine TL.ext_tl ?_
  rw [TL.join_eq, TL.tl_join]
  show TL.joinL [] _ = _
  rw [joinL0]
theorem flat_len : ∀ ys : List Str, ((ys.map TL.tl).flatten).length = (ys.map (·.length)).sum
  | [] => rfl
  | y :: ys => by
    rw [List.map_cons, List.flatten_cons, List.length_append, flat_len ys, List.map_cons, List.sum_cons]
    show y.cps.toList.length + _ = _
    rw [Array.length_toList]
    rfl
theorem S_len' (l : List Nat) : (⟨l.toArray⟩ : Str).length = l.length := by simp [Str.length]
theorem cut_to (l : List Nat) {o : Nat} (h : o ≤ l.length) : cutS ⟨l.toArray⟩ none (some (o : Int)) = ⟨(l.take o).toArray⟩ := by
  unfold cutS
  rw [HT.sIx_none, HT.sIx_nat, S_len', Nat.sub_zero, Nat.min_eq_left h]
  show (⟨((l.drop 0).take o).toArray⟩ : Str) = _
  rw [List.drop_zero]
theorem str1 (c : Nat) (d : Nat) : decide (V.str ⟨#[c]⟩ = V.str ⟨#[d]⟩) = decide (c = d) := by
  by_cases h : c = d
  · subst h
    rw [decide_eq_true rfl, decide_eq_true rfl]
  · rw [decide_eq_false h, decide_eq_false]
    intro e
    have e1 := V.str.inj e
    have e2 := Array.toList_inj.mpr (Str.mk.inj e1)
    exact h (by simpa using e2)
def tx (l : List Nat) : V := .str ⟨l.toArray⟩
/-- a comprehension's scope within another scope -/
def relS (scope sc : Scope) : Scope := { scope with names := scope.names.map fun (n, k) => if (k == .free && sc.kind == .function && sc.names.lookup n == some .cell) then (n, .cell) else (n, k) }
theorem anyK {X : Cx} (K : PySem.W.Frag) (hc : X.calm = true) (h : X.K = K := by rfl) : CallR X (.builtin "any") (rAny K) := by subst h; exact cr_any hc
theorem pi_listK {X : Cx} (K : PySem.W.Frag) {l tg : Expr} {tl : TE} (hl : PE X l tl) (h : X.K = K := by rfl) : PI X tg l (iList K tl) := by subst h; exact pi_list hl
theorem pi_tupK {X : Cx} (K : PySem.W.Frag) {l tg : Expr} {tl : TE} (hl : PE X l tl) (h : X.K = K := by rfl) : PI X tg l (iTup K tl) := by subst h; exact pi_tup hl

structure Mg (mg : Str → Option Value) : Prop where
  abs : mg "abs" = none
  all : mg "all" = none
  any : mg "any" = none
  bool : mg "bool" = none
  int : mg "int" = none
  isinstance : mg "isinstance" = none
  len : mg "len" = none
  list : mg "list" = none
  min : mg "min" = none
  range : mg "range" = none
/-! ### the law's draws: a list of the script's copy, a place in it, what is left of a great number, a seed -/
def Dr (H : Hp) (d c : Addr) : Prop := c ≠ d ∧ ∃ (ns : List Int) (pos rest seed : Int), H d = some (.lst [.ref c, .int pos, .int rest, .int seed]) ∧ H c = some (.lst (ns.map V.int)) ∧ 0 ≤ pos ∧ 0 ≤ rest ∧ 0 ≤ seed ∧ seed < 2147483647
theorem Dr.ext {H H' : Hp} {d c : Addr} (h : Dr H d c) (e : Same H H') : Dr H' d c := by
  obtain ⟨n, ns, pos, rest, seed, h1, h2, r⟩ := h
  exact ⟨n, ns, pos, rest, seed, e _ _ h1, e _ _ h2, r⟩
theorem Dr.upd {H : Hp} {d c p : Addr} {o : HO} (h : Dr H d c) (n1 : p ≠ d) (n2 : p ≠ c) : Dr (upd H p o) d c := by
  obtain ⟨n, ns, pos, rest, seed, h1, h2, r⟩ := h
  exact ⟨n, ns, pos, rest, seed, by rw [upd_ne n1.symm]; exact h1, by rw [upd_ne n2.symm]; exact h2, r⟩
theorem Dr.nd {H : Hp} {d c p : Addr} (h : Dr H d c) (n : H p = none) : p ≠ d := by
  obtain ⟨_, ns, pos, rest, seed, h1, _⟩ := h
  exact (ne_of_none h1 n).symm
theorem Dr.nc {H : Hp} {d c p : Addr} (h : Dr H d c) (n : H p = none) : p ≠ c := by
  obtain ⟨_, ns, pos, rest, seed, _, h2, _⟩ := h
  exact (ne_of_none h2 n).symm
theorem Dr.lst {H : Hp} {d c : Addr} (h : Dr H d c) : ∃ zs, H d = some (.lst zs) := by
  obtain ⟨_, ns, pos, rest, seed, h1, _⟩ := h
  exact ⟨_, h1⟩
theorem Dr.lift {H H' : Hp} {d c d' c' : Addr} (_h : Dr H d c) (h' : Dr H' d' c') : Dr H' d' c' := h'
def sp_draw (K : PySem.W.Frag) : Sp := fun vs H Q _ => ∃ (a : Addr) (ns : List Int), vs = [.ref a] ∧ SqL K H a (ns.map V.int) ∧ ∀ H' d c, Same H H' → H d = none → Dr H' d c → Q (.ref d) H'
/-- a draw: some number below many -/
def sp_next : Sp := fun vs H Q _ => ∃ (d c : Addr) (many : Int), vs = [.ref d, .int many] ∧ Dr H d c ∧ 1 ≤ many ∧ many < 2 ^ 64 ∧ ∀ H' r, Fd d H H' → (∀ p, p ≠ d → H' p = H p) → Dr H' d c → 0 ≤ r → r < many → Q (.int r) H'
section
variable {P : Program} {w : World} {K : PySem.W.Frag} {mg : Str → Option Value} {base : Heap}
theorem ok_draw {f : Addr} {fd : FuncData} (F : Fun K "_law_draw" "_law_draw" s__law_draw f fd) (M : Mg mg) : FnOk P w K mg base CX0 1 f fd ["script"] (sp_draw K) := by
  refine F.ok sc__law_draw (fun vs H Q E h => ?_) (fun cdv A outer s H vs Q E hr h => ?_)
  · obtain ⟨a, ns, rfl, _⟩ := h
    rfl
  · obtain ⟨a, ns, rfl, hS, q⟩ := h
    refine ⟨_, (pss_one (ps_ret (pe_lst (pa_cons (pe_callTy (listK K) (by rfl) M.list (by decide +kernel) (pa_cons (pv 0) pa_nil)) (pa_cons pe_int (pa_cons pe_int (pa_cons pe_int pa_nil))))))), ?_⟩
    refine ⟨_, rfl, a, _, rfl, .inl hS, fun c nc => ?_⟩
    refine ⟨by show 4 ≤ sizeLine; decide, fun d nd => ?_⟩
    have hc : (upd H c (.lst (ns.map V.int))) c = some (.lst (ns.map V.int)) := upd_same
    have ncd : c ≠ d := ne_of_none hc nd
    have s1 := (same_upd nc (o := .lst (ns.map V.int))).trans (same_upd nd (o := .lst [.ref c, .int 0, .int 0, .int 17]))
    refine q _ d c s1 ((same_upd nc).free nd) ⟨ncd, ns, 0, 0, 17, upd_same, ?_, by decide, by decide, by decide, by decide⟩
    rw [upd_ne ncd]
    exact hc
theorem next_aux {H : Hp} {d c : Addr} {xs' : List V} {pos rest seed : Int} {ns : List Int} (hn : c ≠ d) (h2 : H c = some (.lst (ns.map V.int))) (hx : xs' = [.ref c, .int pos, .int rest, .int seed]) (h0 : 0 ≤ pos) (h1 : 0 ≤ rest) (h3 : 0 ≤ seed) (h4 : seed < 2147483647) : Dr (upd H d (.lst xs')) d c := by
  subst hx
  refine ⟨hn, ns, pos, rest, seed, upd_same, ?_, h0, h1, h3, h4⟩
  rw [upd_ne hn]
  exact h2
theorem ok_next {f : Addr} {fd : FuncData} (F : Fun K "_law_next" "_law_next" s__law_next f fd) (M : Mg mg) : FnOk P w K mg base CX0 1 f fd ["draw", "many"] sp_next := by
  refine F.ok sc__law_next (fun vs H Q E h => ?_) (fun cdv A outer s H vs Q E hr h => ?_)
  · obtain ⟨d, c, many, rfl, _⟩ := h
    rfl
  · obtain ⟨d, c, many, rfl, ⟨ncd, ns, pos, rest, seed, h1, h2, h0, h3, h4, h5⟩, hm1, hm2, q⟩ := h
    have hdv : ∀ x : Int, CDivW x many := fun x => wide_div (b := 64) (by omega) (by omega) (by decide) (by decide)
    have hcd : d ≠ c := ncd.symm
    have L0 : SqL K H d [.ref c, .int pos, .int rest, .int seed] := .of h1
    have at0 : ∀ (a b e g : V), atI [a, b, e, g] (0 : Int) = some a := fun a b e g => atI_nat (j := 0) rfl
    have at1 : ∀ (a b e g : V), atI [a, b, e, g] (1 : Int) = some b := fun a b e g => atI_nat (j := 1) rfl
    have at2 : ∀ (a b e g : V), atI [a, b, e, g] (2 : Int) = some e := fun a b e g => atI_nat (j := 2) rfl
    have at3 : ∀ (a b e g : V), atI [a, b, e, g] (3 : Int) = some g := fun a b e g => atI_nat (j := 3) rfl
    have fr : ∀ (H0 : Hp) (o : HO), (∀ p, p ≠ d → H0 p = H p) → (∀ p, p ≠ d → (upd H0 d o) p = H p) := fun H0 o e p n => by rw [upd_ne n]; exact e p n
    have fF : ∀ (H0 : Hp), (∀ p, p ≠ d → H0 p = H p) → Fd d H H0 := fun H0 e b o n h => by rw [e b n]; exact h
    -- the last row's value
    have last : ∀ (seed' : Int), 0 ≤ seed' → seed' < 2147483647 → ∀ H0 : Hp, (∀ p, p ≠ d → H0 p = H p) → (∃ pos rest, H0 d = some (.lst [.ref c, .int pos, .int rest, .int seed']) ∧ 0 ≤ pos ∧ 0 ≤ rest) → Q (.int ((seed' * 69621 % 2147483629 / 7) % many)) H0 := by
      intro seed' g0 g1 H0 e ⟨pos', rest', g2, g3, g4⟩
      exact q H0 _ (fF _ e) e ⟨ncd, ns, pos', rest', seed', g2, by rw [e c ncd]; exact h2, g3, g4, g0, g1⟩ (Int.emod_nonneg _ (by omega)) (Int.emod_lt_of_pos _ (by omega))
    refine ⟨_, (pss_cons (ps_if (pt_cmpR op_gt (pe_ix (ix_listK K) (pv 0) pe_int (fun _ _ => rfl)) pe_int (nomark _)) (pss_cons (ps_set (i := 2) sc__law_next.nd rfl (.inl rfl) (pe_op op_mod (pe_callTy call_int1 (by rfl) M.int (by decide +kernel) (pa_cons (pe_ix (ix_listK K) (pv 0) pe_int (fun _ _ => rfl)) pa_nil)) (pv 1)))
      (pss_cons (ps_asg (pe_op op_fdivW (pe_ix (ix_listK K) (pv 0) pe_int (fun _ _ => rfl)) (pv 1)) (pg_sub (pv 0) pe_int set_list))
      (pss_one (ps_ret (pv 2))))) pss_nil)
      (pss_cons (ps_if (pt_cmpR op_lt (pe_ix (ix_listK K) (pv 0) pe_int (fun _ _ => rfl)) (pe_callB (len_seqK K) (by rfl) M.len PySem.boot_len (pa_cons (pe_ix (ix_listK K) (pv 0) pe_int (fun _ _ => rfl)) pa_nil)) (nomark _)) (pss_cons (ps_set (i := 3) sc__law_next.nd rfl (.inl rfl) (pe_callB call_abs (by rfl) M.abs (by decide +kernel) (pa_cons (pe_ix (ix_listK K) (pe_ix (ix_listK K) (pv 0) pe_int (fun _ _ => rfl)) (pe_ix (ix_listK K) (pv 0) pe_int (fun _ _ => rfl)) (fun _ _ => rfl)) pa_nil)))
      (pss_cons (ps_asg (pe_op op_add (pe_ix (ix_listK K) (pv 0) pe_int (fun _ _ => rfl)) pe_int) (pg_sub (pv 0) pe_int set_list))
      (pss_cons (ps_if (pt_cmpR op_ge (pv 3) (pe_op op_pow pe_int pe_int) (nomark _)) (pss_cons (ps_asg (pe_op op_fdivW (pv 3) (pv 1)) (pg_sub (pv 0) pe_int set_list))
      (pss_one (ps_ret (pe_op op_mod (pe_callTy call_int1 (by rfl) M.int (by decide +kernel) (pa_cons (pv 3) pa_nil)) (pv 1))))) pss_nil)
      (pss_one (ps_asg (pe_op op_mod (pe_callTy call_int1 (by rfl) M.int (by decide +kernel) (pa_cons (pe_op op_add (pe_op op_add (pe_op op_mul (pe_ix (ix_listK K) (pv 0) pe_int (fun _ _ => rfl)) pe_int) (pv 3)) pe_int) pa_nil)) pe_int) (pg_sub (pv 0) pe_int set_list)))))) (pss_one (ps_asg (pe_op op_mod (pe_callTy call_int1 (by rfl) M.int (by decide +kernel) (pa_cons (pe_op op_add (pe_op op_mul (pe_ix (ix_listK K) (pv 0) pe_int (fun _ _ => rfl)) pe_int) pe_int) pa_nil)) pe_int) (pg_sub (pv 0) pe_int set_list))))
      (pss_one (ps_ret (pe_op op_mod (pe_op op_fdivW (pe_callTy call_int1 (by rfl) M.int (by decide +kernel) (pa_cons (pe_op op_mod (pe_op op_mul (pe_ix (ix_listK K) (pv 0) pe_int (fun _ _ => rfl)) pe_int) pe_int) pa_nil)) pe_int) (pv 1)))))), ?_⟩
    refine ⟨_, rfl, d, _, 2, .int rest, rfl, rfl, L0, at2 .., ?_⟩
    refine ⟨_, _, rfl, rfl, _, rfl, ite2 (fun e => ?_) (fun e => ?_)⟩
    · -- draw[2] > 0
      have hr0 : 0 < rest := of_decide_eq_true e
      refine ⟨_, rfl, d, _, 2, .int rest, rfl, rfl, L0, at2 .., .inl ⟨_, rfl, ?_⟩⟩
      refine ⟨_, rfl, _, _, rfl, rfl, by omega, ?_⟩
      refine ⟨_, rfl, d, _, 2, .int rest, rfl, rfl, L0, at2 .., ?_⟩
      refine ⟨_, rfl, _, _, rfl, rfl, hdv _, ?_⟩
      refine ⟨_, rfl, d, _, 2, 2, rfl, rfl, h1, rfl, ?_⟩
      refine ⟨_, rfl, ?_⟩
      have e1 := fr H (.lst ([.ref c, .int pos, .int rest, .int seed].set 2 (.int (rest / many)))) (fun _ _ => rfl)
      exact q _ _ (fF _ e1) e1 (next_aux ncd h2 rfl h0 (Int.ediv_nonneg h3 (by omega)) h4 h5) (Int.emod_nonneg _ (by omega)) (Int.emod_lt_of_pos _ (by omega))
    · refine ⟨_, rfl, d, _, 1, .int pos, rfl, rfl, L0, at1 .., ?_⟩
      refine ⟨_, rfl, d, _, 0, .ref c, rfl, rfl, L0, at0 .., ?_⟩
      refine ⟨c, _, rfl, .inl (.of h2), ?_⟩
      refine ⟨_, _, rfl, rfl, _, rfl, ite2 (fun e2 => ?_) (fun e2 => ?_)⟩
      · have hp : pos < ((ns.map V.int).length : Int) := of_decide_eq_true e2
        rw [List.length_map] at hp
        obtain ⟨i, rfl⟩ := Int.eq_ofNat_of_zero_le h0
        have hi : i < ns.length := by omega
        have hat : atI (ns.map V.int) ((i : Nat) : Int) = some (.int ns[i]) := atI_nat (by rw [List.getElem?_map, List.getElem?_eq_getElem hi]; rfl)
        -- cell = abs(..)
        refine ⟨_, rfl, d, _, 0, .ref c, rfl, rfl, L0, at0 .., ?_⟩
        refine ⟨_, rfl, d, _, 1, _, rfl, rfl, L0, at1 .., ?_⟩
        refine ⟨c, _, _, _, rfl, rfl, .of h2, hat, ?_⟩
        refine ⟨_, rfl, ?_⟩
        have hcell : (0 : Int) ≤ (if ns[i] < 0 then -ns[i] else ns[i]) := by split <;> omega
        generalize (if ns[i] < 0 then -ns[i] else ns[i]) = cell at hcell
        -- draw[1] = draw[1] + 1
        refine ⟨_, rfl, d, _, 1, _, rfl, rfl, L0, at1 .., ?_⟩
        refine ⟨_, _, rfl, rfl, ?_⟩
        refine ⟨_, rfl, d, _, 1, 1, rfl, rfl, h1, rfl, ?_⟩
        have hd1 : (upd H d (.lst ([.ref c, .int ((i : Nat) : Int), .int rest, .int seed].set 1 (.int ((i : Nat) + 1))))) d = some (.lst [.ref c, .int ((i : Nat) + 1), .int rest, .int seed]) := upd_same
        have e1 := fr H (.lst ([.ref c, .int ((i : Nat) : Int), .int rest, .int seed].set 1 (.int ((i : Nat) + 1)))) (fun _ _ => rfl)
        generalize upd H d (.lst ([.ref c, .int ((i : Nat) : Int), .int rest, .int seed].set 1 (.int ((i : Nat) + 1)))) = H1 at hd1 e1
        have h2' : H1 c = some (.lst (ns.map V.int)) := by rw [e1 c ncd]; exact h2
        -- cell >= 10 ** 18
        refine ⟨_, rfl, _, _, rfl, rfl, ⟨by decide, by decide, by decide⟩, ?_⟩
        refine ⟨_, _, rfl, rfl, _, rfl, ite2 (fun e3 => ?_) (fun e3 => ?_)⟩
        · refine ⟨_, rfl, _, rfl, _, _, rfl, rfl, hdv _, ?_⟩
          refine ⟨_, rfl, d, _, 2, 2, rfl, rfl, hd1, rfl, ?_⟩
          refine ⟨_, rfl, .inl ⟨_, rfl, ?_⟩⟩
          refine ⟨_, rfl, _, _, rfl, rfl, by omega, ?_⟩
          have e5 := fr H1 (.lst ([.ref c, .int ((i : Nat) + 1), .int rest, .int seed].set 2 (.int (cell / many)))) e1
          exact q _ _ (fF _ e5) e5 (next_aux ncd h2' rfl (by omega) (Int.ediv_nonneg hcell (by omega)) h4 h5) (Int.emod_nonneg _ (by omega)) (Int.emod_lt_of_pos _ (by omega))
        · -- draw[3] = ..
          refine ⟨_, rfl, d, _, 3, .int seed, rfl, rfl, .of hd1, at3 .., ?_⟩
          refine ⟨_, _, rfl, rfl, .inl ⟨by omega, by omega⟩, ?_⟩
          refine ⟨_, rfl, _, _, rfl, rfl, ?_⟩
          refine ⟨_, _, rfl, rfl, .inl ⟨_, rfl, ?_⟩⟩
          refine ⟨_, _, rfl, rfl, by show (0 : Int) < 2147483647; decide, ?_⟩
          refine ⟨_, rfl, d, _, 3, 3, rfl, rfl, hd1, rfl, ?_⟩
          have hs0 : 0 ≤ (seed * 48271 + cell + 11) % 2147483647 := Int.emod_nonneg _ (by decide)
          have hs1 : (seed * 48271 + cell + 11) % 2147483647 < 2147483647 := Int.emod_lt_of_pos _ (by decide)
          have e5 := fr H1 (.lst ([.ref c, .int ((i : Nat) + 1), .int rest, .int seed].set 3 (.int ((seed * 48271 + cell + 11) % 2147483647)))) e1
          have hd5 : (upd H1 d (.lst ([.ref c, .int ((i : Nat) + 1), .int rest, .int seed].set 3 (.int ((seed * 48271 + cell + 11) % 2147483647))))) d = some (.lst [.ref c, .int ((i : Nat) + 1), .int rest, .int ((seed * 48271 + cell + 11) % 2147483647)]) := upd_same
          dsimp only
          generalize (seed * 48271 + cell + 11) % 2147483647 = seed' at hs0 hs1 e5 hd5 ⊢
          refine ⟨_, rfl, d, _, 3, .int seed', rfl, rfl, .of hd5, at3 .., ?_⟩
          refine ⟨_, _, rfl, rfl, .inl ⟨by omega, by omega⟩, ?_⟩
          refine ⟨_, _, rfl, rfl, by show (0 : Int) < 2147483629; decide, .inl ⟨_, rfl, ?_⟩⟩
          refine ⟨_, _, rfl, rfl, ⟨by decide, by decide⟩, ?_⟩
          refine ⟨_, rfl, _, _, rfl, rfl, by omega, ?_⟩
          exact last seed' hs0 hs1 _ e5 ⟨_, _, hd5, by omega, h3⟩
      · -- draw[3] = ..
        refine ⟨_, rfl, d, _, 3, .int seed, rfl, rfl, L0, at3 .., ?_⟩
        refine ⟨_, _, rfl, rfl, .inl ⟨by omega, by omega⟩, ?_⟩
        refine ⟨_, _, rfl, rfl, .inl ⟨_, rfl, ?_⟩⟩
        refine ⟨_, _, rfl, rfl, by show (0 : Int) < 2147483647; decide, ?_⟩
        refine ⟨_, rfl, d, _, 3, 3, rfl, rfl, h1, rfl, ?_⟩
        have hs0 : 0 ≤ (seed * 48271 + 12345) % 2147483647 := Int.emod_nonneg _ (by decide)
        have hs1 : (seed * 48271 + 12345) % 2147483647 < 2147483647 := Int.emod_lt_of_pos _ (by decide)
        have e5 := fr H (.lst ([.ref c, .int pos, .int rest, .int seed].set 3 (.int ((seed * 48271 + 12345) % 2147483647)))) (fun _ _ => rfl)
        have hd5 : (upd H d (.lst ([.ref c, .int pos, .int rest, .int seed].set 3 (.int ((seed * 48271 + 12345) % 2147483647))))) d = some (.lst [.ref c, .int pos, .int rest, .int ((seed * 48271 + 12345) % 2147483647)]) := upd_same
        dsimp only
        generalize (seed * 48271 + 12345) % 2147483647 = seed' at hs0 hs1 e5 hd5 ⊢
        refine ⟨_, rfl, d, _, 3, .int seed', rfl, rfl, .of hd5, at3 .., ?_⟩
        refine ⟨_, _, rfl, rfl, .inl ⟨by omega, by omega⟩, ?_⟩
        refine ⟨_, _, rfl, rfl, by show (0 : Int) < 2147483629; decide, .inl ⟨_, rfl, ?_⟩⟩
        refine ⟨_, _, rfl, rfl, ⟨by decide, by decide⟩, ?_⟩
        refine ⟨_, rfl, _, _, rfl, rfl, by omega, ?_⟩
        exact last seed' hs0 hs1 _ e5 ⟨_, _, hd5, h0, h3⟩
end

/-! ### data in the heap -/
theorem SqT.ext {K : PySem.W.Frag} {H H' : Hp} {a : Addr} {xs : List V} (e : Same H H') (h : SqT K H a xs) : SqT K H' a xs := by
  rcases h with (h | ⟨o, h⟩) | h
  · exact .inl (.inl (e _ _ h))
  · exact .inl (.inr ⟨o, e _ _ h⟩)
  · exact .inr h
mutual
theorem Dp.ext {K : PySem.W.Frag} {H H' : Hp} (e : Same H H') : ∀ (d : PyData) (v : V), Dp K H v d → Dp K H' v d
  | .none, _, h => by cases h; exact .non
  | .bool b, _, h => by cases h; exact .bl b
  | .int i, _, h => by cases h; exact .int i
  | .str x, _, h => by cases h; exact .str x
  | .list ds, _, h => by
    cases h with
    | lst hs ha => exact .lst (e.seq hs) (DpAll.ext e ds _ ha)
  | .tuple ds, _, h => by
    cases h with
    | tup hs ha => exact .tup (SqT.ext e hs) (DpAll.ext e ds _ ha)
  | .dict _, _, h => by cases h
theorem DpAll.ext {K : PySem.W.Frag} {H H' : Hp} (e : Same H H') : ∀ (ds : List PyData) (vs : List V), DpAll K H vs ds → DpAll K H' vs ds
  | [], _, h => by cases h; exact .nil
  | d :: ds, _, h => by
    cases h with
    | cons h1 h2 => exact .cons (Dp.ext e d _ h1) (DpAll.ext e ds _ h2)
end
theorem DpAll.len {K : PySem.W.Frag} {H : Hp} : ∀ {ds : List PyData} {vs : List V}, DpAll K H vs ds → vs.length = ds.length
  | [], _, h => by cases h; rfl
  | d :: ds, _, h => by
    cases h with
    | cons h1 h2 => exact congrArg (· + 1) (DpAll.len h2)
theorem DpAll.get {K : PySem.W.Frag} {H : Hp} : ∀ {ds : List PyData} {vs : List V} {i : Nat} {d : PyData}, DpAll K H vs ds → ds[i]? = some d → ∃ v, vs[i]? = some v ∧ Dp K H v d
  | [], _, _, _, _, e => by simp at e
  | x :: ds, _, 0, d, h, e => by
    cases h with
    | cons h1 h2 =>
      have e1 : x = d := Option.some.inj e
      subst e1
      exact ⟨_, rfl, h1⟩
  | x :: ds, _, i + 1, d, h, e => by
    cases h with
    | cons h1 h2 =>
      obtain ⟨v, hv, hd⟩ := DpAll.get (i := i) h2 (by simpa using e)
      exact ⟨v, by simpa using hv, hd⟩
theorem tyL {K : PySem.W.Frag} {H : Hp} {a : Addr} {xs : List V} (h : SqL K H a xs) : TyX K H (.ref a) (.type "list") := by
  rcases h with (h | ⟨o, h⟩) | ⟨o, its, n, h, c, _⟩
  · exact .base (.lst h)
  · exact .base (.frz h)
  · exact .kList h c
theorem tyT {K : PySem.W.Frag} {H : Hp} {a : Addr} {xs : List V} (h : SqT K H a xs) : TyX K H (.ref a) (.type "tuple") := by
  rcases h with (h | ⟨o, h⟩) | ⟨o, its, n, h, c, _⟩
  · exact .base (.tup h)
  · exact .fTuple h
  · exact .kTuple h c
mutual
/-- no list within -/
def tupOnly : PyData → Bool
  | .list _ => false
  | .dict _ => false
  | .tuple ds => tupOnlys ds
  | _ => true
def tupOnlys : List PyData → Bool
  | [] => true
  | d :: ds => tupOnly d && tupOnlys ds
end
mutual
theorem Dp.away {K : PySem.W.Frag} {H : Hp} {D : Addr} {zs : List V} {o : HO} (hD : H D = some (.lst zs)) : ∀ (d : PyData) (v : V), tupOnly d = true → Dp K H v d → Dp K (upd H D o) v d
  | .none, _, _, h => by cases h; exact .non
  | .bool b, _, _, h => by cases h; exact .bl b
  | .int i, _, _, h => by cases h; exact .int i
  | .str x, _, _, h => by cases h; exact .str x
  | .list ds, _, e, _ => by unfold tupOnly at e; cases e
  | .tuple ds, _, e, h => by
    unfold tupOnly at e
    cases h with
    | @tup a _ _ hs ha =>
      refine .tup ?_ (DpAll.away hD ds _ e ha)
      rcases hs with (hs | ⟨o', hs⟩) | hs
      · exact .inl (.inl (by rw [upd_ne (ne_of hs hD (fun z => nomatch z))]; exact hs))
      · exact .inl (.inr ⟨o', by rw [upd_ne (ne_of hs hD (fun z => nomatch z))]; exact hs⟩)
      · exact .inr hs
  | .dict _, _, _, h => by cases h
theorem DpAll.away {K : PySem.W.Frag} {H : Hp} {D : Addr} {zs : List V} {o : HO} (hD : H D = some (.lst zs)) : ∀ (ds : List PyData) (vs : List V), tupOnlys ds = true → DpAll K H vs ds → DpAll K (upd H D o) vs ds
  | [], _, _, h => by cases h; exact .nil
  | d :: ds, _, e, h => by
    unfold tupOnlys at e
    rw [Bool.and_eq_true] at e
    cases h with
    | cons h1 h2 => exact .cons (Dp.away hD d _ e.1 h1) (DpAll.away hD ds _ e.2 h2)
end
theorem DpAll.snoc {K : PySem.W.Frag} {H : Hp} : ∀ {ds : List PyData} {xs : List V} {v : V} {d : PyData}, DpAll K H xs ds → Dp K H v d → DpAll K H (xs ++ [v]) (ds ++ [d])
  | [], _, _, _, h, h2 => by cases h; exact .cons h2 .nil
  | _ :: ds, _, _, _, h, h2 => by
    cases h with
    | cons a b => exact .cons a (DpAll.snoc b h2)
theorem at_0 {α : Type} {xs : List α} {i : Nat} {v : α} (h : xs[i]? = some v) : atI xs (0 + (i : Int)) = some v := by
  rw [Int.zero_add]
  exact atI_nat h
mutual
/-- what is made of tuples stands when another list is changed -/
theorem Dp.fd {K : PySem.W.Frag} {H H' : Hp} {D : Addr} (hD : ∃ zs, H D = some (.lst zs)) (e : Fd D H H') : ∀ (d : PyData) (v : V), tupOnly d = true → Dp K H v d → Dp K H' v d
  | .none, _, _, h => by cases h; exact .non
  | .bool b, _, _, h => by cases h; exact .bl b
  | .int i, _, _, h => by cases h; exact .int i
  | .str x, _, _, h => by cases h; exact .str x
  | .list ds, _, e, _ => by unfold tupOnly at e; cases e
  | .tuple ds, _, e', h => by
    unfold tupOnly at e'
    obtain ⟨zs, hz⟩ := hD
    cases h with
    | @tup a _ _ hs ha =>
      refine .tup ?_ (DpAll.fd ⟨zs, hz⟩ e ds _ e' ha)
      rcases hs with (hs | ⟨o', hs⟩) | hs
      · exact .inl (.inl (e _ _ (ne_of hs hz (fun z => nomatch z)) hs))
      · exact .inl (.inr ⟨o', e _ _ (ne_of hs hz (fun z => nomatch z)) hs⟩)
      · exact .inr hs
  | .dict _, _, _, h => by cases h
theorem DpAll.fd {K : PySem.W.Frag} {H H' : Hp} {D : Addr} (hD : ∃ zs, H D = some (.lst zs)) (e : Fd D H H') : ∀ (ds : List PyData) (vs : List V), tupOnlys ds = true → DpAll K H vs ds → DpAll K H' vs ds
  | [], _, _, h => by cases h; exact .nil
  | d :: ds, _, e', h => by
    unfold tupOnlys at e'
    rw [Bool.and_eq_true] at e'
    cases h with
    | cons h1 h2 => exact .cons (Dp.fd hD e d _ e'.1 h1) (DpAll.fd hD e ds _ e'.2 h2)
end

/-! ### diagrams as trees -/
inductive Bd where
  | lf (b : Bool)
  | nd (e : Int) (w t : Bd)
deriving DecidableEq
def Bd.ev : Bd → (Int → Bool) → Bool
  | .lf b, _ => b
  | .nd e w t, r => if r e = true then t.ev r else w.ev r
/-- its questions ascend, they are all of the list; both sides of a node differ -/
inductive Wf : List Int → Bd → Prop
  | lf {es b} : Wf es (.lf b)
  | here {x es w t} : Wf es w → Wf es t → w ≠ t → Wf (x :: es) (.nd x w t)
  | skip {x es a} : Wf es a → Wf (x :: es) a
def setR (r : Int → Bool) (x : Int) (b : Bool) : Int → Bool := fun y => if y = x then b else r y
theorem setR_same (r : Int → Bool) (x : Int) (b : Bool) : setR r x b x = b := if_pos rfl
theorem setR_ne {r : Int → Bool} {x y : Int} {b : Bool} (h : y ≠ x) : setR r x b y = r y := if_neg h
theorem Wf.away {es : List Int} {a : Bd} (h : Wf es a) : ∀ {x : Int} {b : Bool} {r : Int → Bool}, x ∉ es → a.ev (setR r x b) = a.ev r := by
  induction h with
  | lf => intros; rfl
  | @here y es w t _ _ _ iw it =>
    intro x b r hx
    rw [List.mem_cons, not_or] at hx
    show (if setR r x b y = true then t.ev (setR r x b) else w.ev (setR r x b)) = if r y = true then t.ev r else w.ev r
    rw [setR_ne (Ne.symm hx.1), iw hx.2, it hx.2]
  | @skip y es a _ ih =>
    intro x b r hx
    rw [List.mem_cons, not_or] at hx
    exact ih hx.2
/-- both sides at the question x, which no other one comes ahead of -/
def Bd.cw (x : Int) : Bd → Bd
  | .nd e w t => if e = x then w else .nd e w t
  | a => a
def Bd.ct (x : Int) : Bd → Bd
  | .nd e w t => if e = x then t else .nd e w t
  | a => a
theorem Wf.none_of {es : List Int} {x : Int} {w t : Bd} (h : Wf es (.nd x w t)) : x ∈ es := by
  generalize e : Bd.nd x w t = a at h
  induction h with
  | lf => cases e
  | here _ _ _ => cases e; exact List.mem_cons_self
  | skip _ ih => exact List.mem_cons_of_mem _ (ih e)
theorem Wf.cw {x : Int} {es : List Int} {a : Bd} (hx : x ∉ es) (h : Wf (x :: es) a) : Wf es (a.cw x) ∧ ∀ r, (a.cw x).ev r = a.ev (setR r x false) := by
  cases h with
  | lf => exact ⟨.lf, fun _ => rfl⟩
  | @here _ _ w t hw ht hn =>
    have e1 : (Bd.nd x w t).cw x = w := if_pos rfl
    rw [e1]
    refine ⟨hw, fun r => ?_⟩
    show _ = if setR r x false x = true then _ else _
    rw [setR_same, if_neg Bool.false_ne_true, hw.away hx]
  | skip h =>
    have e : a.cw x = a := by
      cases a with
      | lf b => rfl
      | nd y w t =>
        have hy := h.none_of
        exact if_neg (fun (z : y = x) => hx (z ▸ hy))
    rw [e]
    exact ⟨h, fun r => (h.away hx).symm⟩
theorem Wf.ct {x : Int} {es : List Int} {a : Bd} (hx : x ∉ es) (h : Wf (x :: es) a) : Wf es (a.ct x) ∧ ∀ r, (a.ct x).ev r = a.ev (setR r x true) := by
  cases h with
  | lf => exact ⟨.lf, fun _ => rfl⟩
  | @here _ _ w t hw ht hn =>
    have e1 : (Bd.nd x w t).ct x = t := if_pos rfl
    rw [e1]
    refine ⟨ht, fun r => ?_⟩
    show _ = if setR r x true x = true then _ else _
    rw [setR_same, if_pos rfl, ht.away hx]
  | skip h =>
    have e : a.ct x = a := by
      cases a with
      | lf b => rfl
      | nd y w t =>
        have hy := h.none_of
        exact if_neg (fun (z : y = x) => hx (z ▸ hy))
    rw [e]
    exact ⟨h, fun r => (h.away hx).symm⟩
theorem Wf.cwt_eq {x : Int} {es : List Int} {a : Bd} (hx : x ∉ es) (h : Wf (x :: es) a) : (a.cw x = a.ct x ↔ Wf es a) ∧ (a.cw x = a.ct x → a.cw x = a) ∧ (a.cw x ≠ a.ct x → a = .nd x (a.cw x) (a.ct x)) := by
  have key : ∀ {a : Bd}, Wf es a → a.cw x = a ∧ a.ct x = a := fun {a} h => by
    cases a with
    | lf b => exact ⟨rfl, rfl⟩
    | nd y w t =>
      have hy := h.none_of
      exact ⟨if_neg (fun (z : y = x) => hx (z ▸ hy)), if_neg (fun (z : y = x) => hx (z ▸ hy))⟩
  cases h with
  | lf => exact ⟨⟨fun _ => .lf, fun _ => rfl⟩, fun _ => rfl, fun n => absurd rfl n⟩
  | @here _ _ w t hw ht hn =>
    have e1 : (Bd.nd x w t).cw x = w := if_pos rfl
    have e2 : (Bd.nd x w t).ct x = t := if_pos rfl
    rw [e1, e2]
    exact ⟨⟨fun e => absurd e hn, fun h => absurd h.none_of hx⟩, fun e => absurd e hn, fun _ => rfl⟩
  | skip h =>
    obtain ⟨e1, e2⟩ := key h
    rw [e1, e2]
    exact ⟨⟨fun _ => h, fun _ => rfl⟩, fun _ => rfl, fun n => absurd rfl n⟩
/-- just one diagram for each condition -/
theorem canon : ∀ {es : List Int} {a b : Bd}, es.Nodup → Wf es a → Wf es b → (∀ r, a.ev r = b.ev r) → a = b
  | [], a, b, _, ha, hb, h => by
    cases ha
    cases hb
    exact congrArg Bd.lf (h fun _ => false)
  | x :: es, a, b, hn, ha, hb, h => by
    rw [List.nodup_cons] at hn
    have w := canon hn.2 (ha.cw hn.1).1 (hb.cw hn.1).1 fun r => by rw [(ha.cw hn.1).2, (hb.cw hn.1).2, h]
    have t := canon hn.2 (ha.ct hn.1).1 (hb.ct hn.1).1 fun r => by rw [(ha.ct hn.1).2, (hb.ct hn.1).2, h]
    obtain ⟨_, ea, na⟩ := ha.cwt_eq hn.1
    obtain ⟨_, eb, nb⟩ := hb.cwt_eq hn.1
    by_cases e : a.cw x = a.ct x
    · rw [← ea e, ← eb (by rw [← w, ← t, e]), w]
    · rw [na e, nb (by rw [← w, ← t]; exact e), w, t]
/-- a node, or what both sides are -/
def mkB (x : Int) (w t : Bd) : Bd := if w = t then w else .nd x w t
theorem mkB_wf {x : Int} {es : List Int} {w t : Bd} (hw : Wf es w) (ht : Wf es t) : Wf (x :: es) (mkB x w t) := by
  unfold mkB
  split
  · exact .skip hw
  · exact .here hw ht ‹_›
theorem mkB_ev {x : Int} {w t : Bd} (r : Int → Bool) : (mkB x w t).ev r = if r x = true then t.ev r else w.ev r := by
  unfold mkB
  split
  · rename_i h
    subst h
    split <;> rfl
  · rfl
/-! ### diagrams in a store: its nodes by their places -/
abbrev Nds := List (Int × Nat × Nat)
inductive At (N : Nds) : Nat → Bd → Prop
  | f : At N 0 (.lf false)
  | t : At N 1 (.lf true)
  | nd {k : Nat} {e : Int} {w t : Nat} {a b : Bd} : N[k]? = some (e, w, t) → At N w a → At N t b → At N (k + 2) (.nd e a b)
theorem At.mono {N M : Nds} {c : Nat} {a : Bd} (h : At N c a) : At (N ++ M) c a := by
  induction h with
  | f => exact .f
  | t => exact .t
  | nd hk _ _ ia ib => exact .nd (by rw [List.getElem?_append_left (List.getElem?_eq_some_iff.mp hk).1]; exact hk) ia ib
theorem At.fn {N : Nds} {c : Nat} {a : Bd} (h : At N c a) : ∀ {b : Bd}, At N c b → a = b := by
  induction h with
  | f => intro b hb; cases hb; rfl
  | t => intro b hb; cases hb; rfl
  | nd hk _ _ ia ib =>
    intro b hb
    cases hb with
    | nd hk2 ha2 hb2 =>
      have e := Option.some.inj (hk.symm.trans hk2)
      cases e
      have e1 := ia ha2
      have e2 := ib hb2
      rw [e1, e2]
theorem nodup_at {α : Type} : ∀ {l : List α} {i j : Nat} {x : α}, l.Nodup → l[i]? = some x → l[j]? = some x → i = j
  | [], _, _, _, _, h, _ => by simp at h
  | y :: l, 0, 0, _, _, _, _ => rfl
  | y :: l, 0, j + 1, x, hn, h1, h2 => by
    rw [List.nodup_cons] at hn
    have e : y = x := Option.some.inj h1
    have h2 : l[j]? = some x := by simpa using h2
    exact absurd (e ▸ List.mem_of_getElem? h2) hn.1
  | y :: l, i + 1, 0, x, hn, h1, h2 => by
    rw [List.nodup_cons] at hn
    have e : y = x := Option.some.inj h2
    have h1 : l[i]? = some x := by simpa using h1
    exact absurd (e ▸ List.mem_of_getElem? h1) hn.1
  | y :: l, i + 1, j + 1, x, hn, h1, h2 => by
    rw [List.nodup_cons] at hn
    exact congrArg (· + 1) (nodup_at hn.2 (by simpa using h1) (by simpa using h2))
theorem At.inj {N : Nds} (hn : N.Nodup) {c : Nat} {a : Bd} (h : At N c a) : ∀ {d : Nat}, At N d a → c = d := by
  induction h with
  | f => intro d hd; cases hd; rfl
  | t => intro d hd; cases hd; rfl
  | nd hk _ _ ia ib =>
    intro d hd
    cases hd with
    | nd hk2 ha2 hb2 =>
      have e1 := ia ha2
      have e2 := ib hb2
      subst e1 e2
      rw [nodup_at hn hk hk2]
theorem At.lt {N : Nds} {c : Nat} {a : Bd} (h : At N c a) : c < N.length + 2 := by
  cases h with
  | f => omega
  | t => omega
  | nd hk _ _ => have := (List.getElem?_eq_some_iff.mp hk).1; omega
theorem At.leaf {N : Nds} {c : Nat} {b : Bool} (h : At N c (.lf b)) : c = if b = true then 1 else 0 := by cases h <;> rfl
theorem At.ge {N : Nds} {c : Nat} {a : Bd} (h : At N c a) (h2 : 2 ≤ c) : ∃ e w t a1 b1, N[c - 2]? = some (e, w, t) ∧ At N w a1 ∧ At N t b1 ∧ a = .nd e a1 b1 := by
  cases h with
  | f => omega
  | t => omega
  | nd hk ha hb => exact ⟨_, _, _, _, _, hk, ha, hb, rfl⟩

/-! ### a store of diagrams in the heap -/
theorem SqT.tsn {K : PySem.W.Frag} {H H' : Hp} {a : Addr} {xs : List V} (e : ∀ b o, (∃ ys, o = HO.tup ys) ∨ (∃ q u, o = HO.frz q u) → H b = some o → H' b = some o) (h : SqT K H a xs) : SqT K H' a xs := by
  rcases h with (h | ⟨o, h⟩) | h
  · exact .inl (.inl (e _ _ (.inl ⟨_, rfl⟩) h))
  · exact .inl (.inr ⟨o, e _ _ (.inr ⟨_, _, rfl⟩) h⟩)
  · exact .inr h
mutual
/-- what is made of tuples stands where all tuples stand -/
theorem Dp.tsn {K : PySem.W.Frag} {H H' : Hp} (e : ∀ b o, (∃ ys, o = HO.tup ys) ∨ (∃ q u, o = HO.frz q u) → H b = some o → H' b = some o) : ∀ (d : PyData) (v : V), tupOnly d = true → Dp K H v d → Dp K H' v d
  | .none, _, _, h => by cases h; exact .non
  | .bool b, _, _, h => by cases h; exact .bl b
  | .int i, _, _, h => by cases h; exact .int i
  | .str x, _, _, h => by cases h; exact .str x
  | .list ds, _, e', _ => by unfold tupOnly at e'; cases e'
  | .tuple ds, _, e', h => by
    unfold tupOnly at e'
    cases h with
    | tup hs ha => exact .tup (SqT.tsn e hs) (DpAll.tsn e ds _ e' ha)
  | .dict _, _, _, h => by cases h
theorem DpAll.tsn {K : PySem.W.Frag} {H H' : Hp} (e : ∀ b o, (∃ ys, o = HO.tup ys) ∨ (∃ q u, o = HO.frz q u) → H b = some o → H' b = some o) : ∀ (ds : List PyData) (vs : List V), tupOnlys ds = true → DpAll K H vs ds → DpAll K H' vs ds
  | [], _, _, h => by cases h; exact .nil
  | d :: ds, _, e', h => by
    unfold tupOnlys at e'
    rw [Bool.and_eq_true] at e'
    cases h with
    | cons h1 h2 => exact .cons (Dp.tsn e d _ e'.1 h1) (DpAll.tsn e ds _ e'.2 h2)
end
/-- the instance, its list, its two dicts -/
structure SA where
  p : Addr
  k : Addr
  u : Addr
  m : Addr
def sfl (s : SA) : List (Str × V) := [("kept", .ref s.k), ("numbers", .ref s.u), ("combined", .ref s.m)]
theorem sf_kept (s : SA) : (sfl s).lookup ("kept" : Str) = some (.ref s.k) := rfl
theorem sf_num (s : SA) : (sfl s).lookup ("numbers" : Str) = some (.ref s.u) := rfl
theorem sf_comb (s : SA) : (sfl s).lookup ("combined" : Str) = some (.ref s.m) := rfl
theorem sf_no (s : SA) {m : Str} (h1 : (m == ("kept" : Str)) = false) (h2 : (m == ("numbers" : Str)) = false) (h3 : (m == ("combined" : Str)) = false) : (sfl s).lookup m = none := by
  unfold sfl
  simp only [List.lookup, h1, h2, h3]
/-- what stood stands, but for the store's list and dicts -/
def FdS (s : SA) (H H' : Hp) : Prop := ∀ b o, b ≠ s.k → b ≠ s.u → b ≠ s.m → H b = some o → H' b = some o
theorem FdS.refl (s : SA) (H : Hp) : FdS s H H := fun _ _ _ _ _ h => h
theorem FdS.trans {s : SA} {H H1 H2 : Hp} (a : FdS s H H1) (b : FdS s H1 H2) : FdS s H H2 := fun x o h1 h2 h3 h => b x o h1 h2 h3 (a x o h1 h2 h3 h)
theorem FdS.of {s : SA} {H H' : Hp} (a : Same H H') : FdS s H H' := fun x o _ _ _ h => a x o h
def nD (n : Int × Nat × Nat) : PyData := .tuple [.int n.1, .int (n.2.1 : Nat), .int (n.2.2 : Nat)]
theorem nD_only : ∀ N : Nds, tupOnlys (N.map nD) = true
  | [] => rfl
  | n :: N => by
    rw [List.map_cons]
    unfold tupOnlys
    rw [nD_only N]
    rfl
abbrev ky3 (a b c : Int) : List Key := [.inl a, .inl b, .inl c]
def NumsOk (N : Nds) (kvs : List (List Key × V)) : Prop := (∀ (e : Int) (w t : Nat), valV kvs (ky3 e w t) = none → (e, w, t) ∉ N) ∧ ∀ (e : Int) (w t : Nat) v, valV kvs (ky3 e w t) = some v → ∃ i : Nat, N[i]? = some (e, w, t) ∧ v = .int ((i + 2 : Nat) : Int)
/-- the diagram that is one of two, where a third one holds -/
def IsIte (es : List Int) (a b c d : Bd) : Prop := Wf es d ∧ ∀ r, d.ev r = if a.ev r = true then b.ev r else c.ev r
def MemoOk (N : Nds) (es : List Int) (cvs : List (List Key × V)) : Prop := ∀ (c a b : Nat) v, valV cvs (ky3 c a b) = some v → ∃ (r : Nat) (A B C T : Bd), v = .int (r : Int) ∧ At N c A ∧ At N a B ∧ At N b C ∧ At N r T ∧ IsIte es A B C T
def Sto (C : Addr) (K : PySem.W.Frag) (H : Hp) (s : SA) (N : Nds) (es : List Int) (L : Nat) : Prop :=
  (∃ dx, H s.p = some (.ins C dx (sfl s))) ∧ (∃ xs, H s.k = some (.lst xs) ∧ DpAll K H xs (N.map nD)) ∧ (∃ kvs, H s.u = some (.dT kvs) ∧ kvs.length ≤ N.length ∧ NumsOk N kvs) ∧
    (∃ cvs, H s.m = some (.dT cvs) ∧ cvs.length ≤ L ∧ MemoOk N es cvs) ∧ N.Nodup ∧ s.u ≠ s.m ∧ es.Pairwise (· < ·)
section
variable {C : Addr} {K : PySem.W.Frag} {H H' : Hp} {s : SA} {N : Nds} {es : List Int} {L : Nat}
theorem Sto.ins (h : Sto C K H s N es L) : ∃ dx, H s.p = some (.ins C dx (sfl s)) := h.1
theorem Sto.nd (h : Sto C K H s N es L) : N.Nodup := h.2.2.2.2.1
theorem Sto.srt (h : Sto C K H s N es L) : es.Pairwise (· < ·) := h.2.2.2.2.2.2
theorem Sto.es_nd (h : Sto C K H s N es L) : es.Nodup := h.srt.imp fun h => by omega
theorem Sto.ext (e : Same H H') (h : Sto C K H s N es L) : Sto C K H' s N es L := by
  obtain ⟨⟨dx, h1⟩, ⟨xs, h2, h3⟩, ⟨kvs, h4, h5⟩, ⟨cvs, h6, h7⟩, h8⟩ := h
  exact ⟨⟨dx, e _ _ h1⟩, ⟨xs, e _ _ h2, DpAll.ext e _ _ h3⟩, ⟨kvs, e _ _ h4, h5⟩, ⟨cvs, e _ _ h6, h7⟩, h8⟩
theorem Sto.tup (h : Sto C K H s N es L) (f : FdS s H H') : ∀ b o, (∃ ys, o = HO.tup ys) ∨ (∃ q u, o = HO.frz q u) → H b = some o → H' b = some o := by
  obtain ⟨_, ⟨xs, h2, _⟩, ⟨kvs, h4, _⟩, ⟨cvs, h6, _⟩, _⟩ := h
  rintro b o (⟨ys, rfl⟩ | ⟨q, u, rfl⟩) hb
  · exact f _ _ (ne_of hb h2 (fun z => nomatch z)) (ne_of hb h4 (fun z => nomatch z)) (ne_of hb h6 (fun z => nomatch z)) hb
  · exact f _ _ (ne_of hb h2 (fun z => nomatch z)) (ne_of hb h4 (fun z => nomatch z)) (ne_of hb h6 (fun z => nomatch z)) hb
theorem Sto.dp (h : Sto C K H s N es L) (f : FdS s H H') {d : PyData} {v : V} (ht : tupOnly d = true) (hd : Dp K H v d) : Dp K H' v d := Dp.tsn (h.tup f) d v ht hd
theorem Sto.at (h : Sto C K H s N es L) {c : Nat} {n : Int × Nat × Nat} (h2 : 2 ≤ c) (hn : N[c - 2]? = some n) : ∃ dx xs q, H s.p = some (.ins C dx (sfl s)) ∧ SqL K H s.k xs ∧ atI xs ((c : Int) - 2) = some (.ref q) ∧ SqT K H q [.int n.1, .int (n.2.1 : Nat), .int (n.2.2 : Nat)] := by
  obtain ⟨⟨dx, h1⟩, ⟨xs, h3, h4⟩, _⟩ := h
  obtain ⟨v, hv, hd⟩ := DpAll.get h4 (show (N.map nD)[c - 2]? = some (nD n) by rw [List.getElem?_map, hn]; rfl)
  have e : (c : Int) - 2 = ((c - 2 : Nat) : Int) := by omega
  cases hd with
  | @tup q _ _ hs ha =>
    cases ha with
    | cons g1 g2 =>
      cases g1
      cases g2 with
      | cons g3 g4 =>
        cases g3
        cases g4 with
        | cons g5 g6 =>
          cases g5
          cases g6
          exact ⟨dx, xs, q, h1, .of h3, by rw [e]; exact atI_nat hv, hs⟩
end
theorem NumsOk.snoc {N : Nds} {kvs : List (List Key × V)} (h : NumsOk N kvs) {e : Int} {w t : Nat} (hn : valV kvs (ky3 e w t) = none) : NumsOk (N ++ [(e, w, t)]) (putK kvs (ky3 e w t) (.int ((N.length + 2 : Nat) : Int))) := by
  have inj : ∀ {e' : Int} {w' t' : Nat}, ky3 e' w' t' = ky3 e w t → (e', w', t') = (e, w, t) := by
    intro e' w' t' h
    injection h with h1 h2
    injection h2 with h2 h3
    injection h3 with h3 _
    injection h1 with h1
    injection h2 with h2
    injection h3 with h3
    have : w' = w := by omega
    have : t' = t := by omega
    subst_vars
    rfl
  refine ⟨fun e' w' t' h' hm => ?_, fun e' w' t' v h' => ?_⟩
  · rw [valV_put] at h'
    split at h'
    · cases h'
    · rename_i hne
      rcases List.mem_append.mp hm with hm | hm
      · exact h.1 _ _ _ h' hm
      · rw [List.mem_singleton] at hm
        cases hm
        exact hne rfl
  · rw [valV_put] at h'
    split at h'
    · rename_i he
      cases inj he
      refine ⟨N.length, by rw [List.getElem?_append_right (Nat.le_refl _), Nat.sub_self]; rfl, ?_⟩
      exact (Option.some.inj h').symm
    · obtain ⟨i, hi, hv⟩ := h.2 _ _ _ _ h'
      exact ⟨i, by rw [List.getElem?_append_left (List.getElem?_eq_some_iff.mp hi).1]; exact hi, hv⟩
theorem MemoOk.mono {N M : Nds} {es : List Int} {cvs : List (List Key × V)} (h : MemoOk N es cvs) : MemoOk (N ++ M) es cvs := fun c a b v hv => by
  obtain ⟨r, A, B, C, T, e, h1, h2, h3, h4, h5⟩ := h c a b v hv
  exact ⟨r, A, B, C, T, e, h1.mono, h2.mono, h3.mono, h4.mono, h5⟩
theorem MemoOk.put {N : Nds} {es : List Int} {cvs : List (List Key × V)} (h : MemoOk N es cvs) {c a b r : Nat} {A B C T : Bd} (h1 : At N c A) (h2 : At N a B) (h3 : At N b C) (h4 : At N r T) (h5 : IsIte es A B C T) : MemoOk N es (putK cvs (ky3 c a b) (.int (r : Int))) := fun c' a' b' v hv => by
  rw [valV_put] at hv
  split at hv
  · rename_i he
    injection he with e1 e2
    injection e2 with e2 e3
    injection e3 with e3 _
    injection e1 with e1
    injection e2 with e2
    injection e3 with e3
    have e1 : c' = c := by omega
    have e2 : a' = a := by omega
    have e3 : b' = b := by omega
    subst e1 e2 e3
    exact ⟨r, A, B, C, T, (Option.some.inj hv).symm, h1, h2, h3, h4, h5⟩
  · exact h _ _ _ _ hv
/-! ### what both sides give -/
theorem Wf.skips {es : List Int} {a : Bd} (h : Wf es a) : ∀ pre : List Int, Wf (pre ++ es) a
  | [] => h
  | _ :: pre => .skip (h.skips pre)
theorem ite_step {x : Int} {es : List Int} {a b c t1 t2 : Bd} (hx : x ∉ es) (ha : Wf (x :: es) a) (hb : Wf (x :: es) b) (hc : Wf (x :: es) c) (h1 : IsIte es (a.cw x) (b.cw x) (c.cw x) t1) (h2 : IsIte es (a.ct x) (b.ct x) (c.ct x) t2) : IsIte (x :: es) a b c (mkB x t1 t2) := by
  refine ⟨mkB_wf h1.1 h2.1, fun r => ?_⟩
  have hs : ∀ v, r x = v → setR r x v = r := fun v e => by
    funext y
    by_cases hy : y = x
    · subst hy
      rw [setR_same, e]
    · rw [setR_ne hy]
  rw [mkB_ev]
  cases e : r x with
  | true => rw [if_pos rfl, h2.2, (ha.ct hx).2, (hb.ct hx).2, (hc.ct hx).2, hs _ e]
  | false => rw [if_neg Bool.false_ne_true, h1.2, (ha.cw hx).2, (hb.cw hx).2, (hc.cw hx).2, hs _ e]
/-- there is one -/
theorem ite_ex : ∀ {es : List Int} {a b c : Bd}, es.Nodup → Wf es a → Wf es b → Wf es c → ∃ t, IsIte es a b c t
  | [], a, b, c, _, ha, hb, hc => by
    cases ha with
    | @lf _ v =>
      cases v with
      | true => exact ⟨b, hb, fun _ => (if_pos rfl).symm⟩
      | false => exact ⟨c, hc, fun _ => (if_neg Bool.false_ne_true).symm⟩
  | x :: es, a, b, c, hn, ha, hb, hc => by
    rw [List.nodup_cons] at hn
    obtain ⟨t1, h1⟩ := ite_ex hn.2 (ha.cw hn.1).1 (hb.cw hn.1).1 (hc.cw hn.1).1
    obtain ⟨t2, h2⟩ := ite_ex hn.2 (ha.ct hn.1).1 (hb.ct hn.1).1 (hc.ct hn.1).1
    exact ⟨_, ite_step hn.1 ha hb hc h1 h2⟩
theorem ite_low {pre es : List Int} {a b c t : Bd} (hn : (pre ++ es).Nodup) (ha : Wf es a) (hb : Wf es b) (hc : Wf es c) (h : IsIte (pre ++ es) a b c t) : IsIte es a b c t := by
  obtain ⟨t', h'⟩ := ite_ex (List.nodup_append.mp hn).2.1 ha hb hc
  have e := canon hn h.1 (h'.1.skips pre) fun r => by rw [h.2, h'.2]
  rw [e]
  exact h'
theorem IsIte.skips {es : List Int} {a b c t : Bd} (pre : List Int) (h : IsIte es a b c t) : IsIte (pre ++ es) a b c t := ⟨h.1.skips pre, h.2⟩
/-- the question of the first one that has one -/
theorem top_ex : ∀ {es : List Int} {cs : List Bd}, (∀ a ∈ cs, Wf es a) → (∃ a ∈ cs, ∀ b, a ≠ .lf b) → ∃ pre x rest, es = pre ++ x :: rest ∧ (∀ a ∈ cs, Wf (x :: rest) a) ∧ ∃ w t, Bd.nd x w t ∈ cs
  | [], cs, h, ⟨a, ha, hn⟩ => by
    have := h a ha
    cases this
    exact absurd rfl (hn _)
  | x :: es, cs, h, hex => by
    by_cases hx : ∃ w t, Bd.nd x w t ∈ cs
    · exact ⟨[], x, es, rfl, h, hx⟩
    · have h' : ∀ a ∈ cs, Wf es a := fun a ha => by
        cases h a ha with
        | lf => exact .lf
        | here _ _ _ => exact absurd ⟨_, _, ha⟩ hx
        | skip h => exact h
      obtain ⟨pre, y, rest, e, h1, h2⟩ := top_ex h' hex
      exact ⟨x :: pre, y, rest, by rw [e]; rfl, h1, h2⟩
theorem Wf.head {es : List Int} {x : Int} {w t : Bd} (h : Wf es (.nd x w t)) : x ∈ es := h.none_of

/-! ### methods, defs that a name holds, instances -/
structure ClM (P : Program) (w : World) (K : PySem.W.Frag) (mg : Str → Option Value) (base : Heap) (k : Nat) (C : Addr) (m : Str) (sp : Sp) : Prop where
  ex : ∃ (f : Addr) (fd : FuncData) (ps : List Str), FnOk P w K mg base CX0 k f fd ps sp ∧ Meth K C m f ∧ Cls K C ∧ Binds K fd ps []
structure ClC (P : Program) (w : World) (K : PySem.W.Frag) (mg : Str → Option Value) (base : Heap) (k : Nat) (x : Str) (C : Addr) (sp : Sp) : Prop where
  ex : ∃ (f : Addr) (fd : FuncData) (ps : List Str), FnOk P w K mg base CX0 k f fd ps sp ∧ Mk K C f ∧ mg x = some (.ref C) ∧ Binds K fd ps []
theorem FnOk.clm {P : Program} {w : World} {K : PySem.W.Frag} {mg : Str → Option Value} {base : Heap} {k : Nat} {C : Addr} {m : Str} {f : Addr} {fd : FuncData} {ps : List Str} {sp : Sp} (h : FnOk P w K mg base CX0 k f fd ps sp) (mt : Meth K C m f) (cl : Cls K C) (b : Binds K fd ps []) : ClM P w K mg base k C m sp := ⟨f, fd, ps, h, mt, cl, b⟩
section
variable {X : Cx} {k j i : Nat} {m x : Str} {C : Addr} {sp : Sp} {p pos apos : Pos} {o e : Expr} {es : List Expr} {t : TA} {ta : TE}
theorem pe_mt {pl : Sem Bool} (c : ClM X.prog X.w X.K X.mg X.base k C m sp) (hr : Room j X.A) (hk : k ≤ j) (he : PE X o ta) (ha : PA X (e :: es) t) (hst : starEach (e :: es) X.env = (false, eval e X.env) :: starEach es X.env := by rfl) (hpl : (backTo pos (starEach es X.env)).any (·.1) = false := by rfl)
    (ht : eval (.Call (.Attribute o m apos) (e :: es) [] pos) X.env = (do let ov ← eval o X.env; standAt apos.atName; let (f, first) ← holding [ov] (getMethod ov m pl); callWith pos f first (backTo pos (starEach (e :: es) X.env)) (backToKw pos (keywordEach [] X.env))) := by rfl) : PE X (.Call (.Attribute o m apos) (e :: es) [] pos) (tMeth C m sp [] E0 ta t) := by
  obtain ⟨f, fd, ps, F, hm, cl, b⟩ := c.ex
  exact pe_meth he cl hm F (hr.mono hk) b .nil pass0 ha hst hpl ht
theorem pe_mt0 {pl : Sem Bool} (c : ClM X.prog X.w X.K X.mg X.base k C m sp) (hr : Room j X.A) (hk : k ≤ j) (he : PE X o ta)
    (ht : eval (.Call (.Attribute o m apos) [] [] pos) X.env = (do let ov ← eval o X.env; standAt apos.atName; let (f, first) ← holding [ov] (getMethod ov m pl); callWith pos f first (backTo pos (starEach [] X.env)) (backToKw pos (keywordEach [] X.env))) := by rfl) : PE X (.Call (.Attribute o m apos) [] [] pos) (tMeth C m sp [] E0 ta tNil) := by
  obtain ⟨f, fd, ps, F, hm, cl, b⟩ := c.ex
  exact pe_meth0 he cl hm F (hr.mono hk) b .nil pass0 ht
theorem pe_mk (c : ClC X.prog X.w X.K X.mg X.base k x C sp) (hr : Room j X.A) (hk : k + 1 ≤ j) (hg : L2.Gl X x) (ha : PA X (e :: es) t) (hdb : (x == ("__debug__" : Str)) = false := by decide) (he : starEach (e :: es) X.env = (false, eval e X.env) :: starEach es X.env := by rfl) (hpl : (backTo pos (starEach es X.env)).any (·.1) = false := by rfl) : PE X (.Call (.Name x p) (e :: es) [] pos) (tMake C sp [] E0 t) := by
  obtain ⟨f, fd, ps, F, M, hm, b⟩ := c.ex
  exact pe_make M F (hr.mono hk) hg hm b .nil pass0 ha hdb he hpl
theorem pe_mk0 (c : ClC X.prog X.w X.K X.mg X.base k x C sp) (hr : Room j X.A) (hk : k + 1 ≤ j) (hg : L2.Gl X x) (hdb : (x == ("__debug__" : Str)) = false := by decide) : PE X (.Call (.Name x p) [] [] pos) (tMake C sp [] E0 tNil) := by
  obtain ⟨f, fd, ps, F, M, hm, b⟩ := c.ex
  exact pe_make0 M F (hr.mono hk) hg hm b .nil pass0 hdb
end

/-! ### the store's methods -/
structure DgC (K : PySem.W.Frag) (C : Addr) (mg : Str → Option Value) : Prop where
  cl : Cls K C
  nK : NoAttr K C "kept"
  nN : NoAttr K C "numbers"
  nM : NoAttr K C "combined"
  NEVER : ∃ u, mg "NEVER" = some u ∧ RelV (.int 0) u
  ALWAYS : ∃ u, mg "ALWAYS" = some u ∧ RelV (.int 1) u
  FIRST_NODE : ∃ u, mg "FIRST_NODE" = some u ∧ RelV (.int 2) u
theorem Sto.go {C : Addr} {K : PySem.W.Frag} {H : Hp} {s : SA} {N : Nds} {es : List Int} {L : Nat} (h : Sto C K H s N es L) {m : Str} (h1 : (m == ("kept" : Str)) = false) (h2 : (m == ("numbers" : Str)) = false) (h3 : (m == ("combined" : Str)) = false) {R : Prop} (r : R) : ∃ a dx fs, V.ref s.p = .ref a ∧ H a = some (.ins C dx fs) ∧ fs.lookup m = none ∧ R := by
  obtain ⟨dx, hp⟩ := h.ins
  exact ⟨s.p, dx, _, rfl, hp, sf_no s h1 h2 h3, r⟩
def sp_nof (C : Addr) (K : PySem.W.Frag) : Sp := fun vs H Q _ => ∃ s N es L c n, vs = [.ref s.p, .int ((c : Nat) : Int)] ∧ Sto C K H s N es L ∧ 2 ≤ c ∧ N[c - 2]? = some n ∧ ∀ q, SqT K H q [.int n.1, .int (n.2.1 : Nat), .int (n.2.2 : Nat)] → Q (.ref q) H
def sp_node (C : Addr) (K : PySem.W.Frag) : Sp := fun vs H Q _ => ∃ s N es L x w t W T, vs = [.ref s.p, .int x, .int ((w : Nat) : Int), .int ((t : Nat) : Int)] ∧ Sto C K H s N es L ∧ At N w W ∧ At N t T ∧ N.length + 1 < sizeLine ∧
  ∀ H' M r, FdS s H H' → M.length ≤ 1 → Sto C K H' s (N ++ M) es L → At (N ++ M) r (mkB x W T) → Q (.int ((r : Nat) : Int)) H'
def sp_top (C : Addr) (K : PySem.W.Frag) : Sp := fun vs H Q _ => ∃ s N es L pre es' a, ∃ cs : List (Nat × Bd), vs = [.ref s.p, .ref a] ∧ Sto C K H s N es L ∧ SqT K H a (cs.map fun c => .int ((c.1 : Nat) : Int)) ∧ es = pre ++ es' ∧ cs.length ≤ 3 ∧ (∀ c ∈ cs, At N c.1 c.2 ∧ Wf es' c.2) ∧ (∃ c ∈ cs, 2 ≤ c.1) ∧
  ∀ H' pre2 x es2, Same H H' → es' = pre2 ++ x :: es2 → (∀ c ∈ cs, Wf (x :: es2) c.2) → Q (.int x) H'
def sp_bra (C : Addr) (K : PySem.W.Frag) : Sp := fun vs H Q _ => ∃ s N es L x es2 c A, vs = [.ref s.p, .int ((c : Nat) : Int), .int x] ∧ Sto C K H s N es L ∧ At N c A ∧ Wf (x :: es2) A ∧ x ∉ es2 ∧
  ∀ H' q w t, Same H H' → H' q = some (.tup [.int ((w : Nat) : Int), .int ((t : Nat) : Int)]) → At N w (A.cw x) → At N t (A.ct x) → Q (.ref q) H'
def sp_comb (C : Addr) (K : PySem.W.Frag) (n : Nat) : Sp := fun vs H Q _ => ∃ s N es L pre es' c a b A B D, vs = [.ref s.p, .int ((c : Nat) : Int), .int ((a : Nat) : Int), .int ((b : Nat) : Int)] ∧ Sto C K H s N es L ∧ es = pre ++ es' ∧ es'.length < n ∧ At N c A ∧ At N a B ∧ At N b D ∧ Wf es' A ∧ Wf es' B ∧ Wf es' D ∧
  N.length + 2 ^ es'.length < sizeLine ∧ L + 2 ^ es'.length < sizeLine ∧
  ∀ H' M r T, FdS s H H' → M.length + 1 ≤ 2 ^ es'.length → Sto C K H' s (N ++ M) es (L + (2 ^ es'.length - 1)) → At (N ++ M) r T → IsIte es' A B D T → Q (.int ((r : Nat) : Int)) H'
section
variable {P : Program} {w : World} {K : PySem.W.Frag} {mg : Str → Option Value} {base : Heap}
theorem ok_nof {f C : Addr} {fd : FuncData} (F : Fun K "node_of" "Diagrams.node_of" s_Diagrams_node_of f fd) (M : Mg mg) (G : DgC K C mg) : FnOk P w K mg base CX0 1 f fd ["self", "condition"] (sp_nof C K) := by
  refine F.ok sc_Diagrams_node_of (fun vs H Q E h => ?_) (fun cdv A outer s H vs Q E hr h => ?_)
  · obtain ⟨s, N, es, L, c, n, rfl, _⟩ := h
    rfl
  · obtain ⟨s, N, es, L, c, n, rfl, st, h2, hn, q⟩ := h
    obtain ⟨dx, xs, a, hp, hk, hat, hq⟩ := st.at h2 hn
    refine ⟨_, (pss_one (ps_ret (pe_ix (ix_listK K) (pe_fld (pv 0) rfl) (pe_op op_sub (pv 1) (C8.pe_gc (by rfl) G.FIRST_NODE)) (fun _ _ => rfl)))), ?_⟩
    exact ⟨_, rfl, s.p, C, dx, _, _, rfl, hp, G.cl, G.nK, sf_kept s, _, rfl, _, _, rfl, rfl, s.k, xs, _, _, rfl, rfl, hk, hat, q a hq⟩
theorem ok_node {f C : Addr} {fd : FuncData} (F : Fun K "node" "Diagrams.node" s_Diagrams_node f fd) (M : Mg mg) (G : DgC K C mg) : FnOk P w K mg base CX0 1 f fd ["self", "entry", "without", "there"] (sp_node C K) := by
  refine F.ok sc_Diagrams_node (fun vs H Q E h => ?_) (fun cdv A outer s H vs Q E hr h => ?_)
  · obtain ⟨s, N, es, L, x, w, t, W, T, rfl, _⟩ := h
    rfl
  · obtain ⟨s, N, es, L, x, w, t, W, T, rfl, st, hw, ht, hz, q⟩ := h
    refine ⟨_, (pss_cons (ps_if (pt_cmpR op_eq (pv 2) (pv 3) (nomark _)) (pss_one (ps_ret (pv 2))) pss_nil)
      (pss_cons (ps_set (i := 4) sc_Diagrams_node.nd rfl (.inl rfl) (pe_tup (pa_cons (pv 1) (pa_cons (pv 2) (pa_cons (pv 3) pa_nil)))))
      (pss_cons (ps_if (pt_cmp (pc_dnotin (hu_of hr) (pv 4) (pe_fld (pv 0) rfl))) (pss_cons (ps_dput (hu_of hr) (pe_fld (pv 0) rfl) (pv 4) (pe_op op_add (pe_callB (len_seqK K) (by rfl) M.len PySem.boot_len (pa_cons (pe_fld (pv 0) rfl) pa_nil)) (C8.pe_gc (by rfl) G.FIRST_NODE)) rfl)
      (pss_one (ps_expr (pe_bmK K PySem.F.plainAttrs_list PySem.F.slot_list_append PySem.F.type_list_append mt_append (pe_fld (pv 0) rfl) (pa_cons (pv 4) pa_nil))))) pss_nil)
      (pss_one (ps_ret (pe_dget (hu_of hr) (pe_fld (pv 0) rfl) (pv 4) (fun _ _ => rfl))))))), ?_⟩
    refine ⟨_, rfl, _, rfl, rfl, _, rfl, ite2 (fun e => ?_) (fun e => ?_)⟩
    · have e1 : w = t := by
        have := V.int.inj (of_decide_eq_true e)
        omega
      subst e1
      have e2 := hw.fn ht
      subst e2
      refine ⟨_, rfl, q H [] w (FdS.refl s H) (Nat.zero_le _) (by rw [List.append_nil]; exact st) ?_⟩
      rw [List.append_nil, show mkB x W W = W from if_pos rfl]
      exact hw
    · have hne : W ≠ T := fun z => by
        subst z
        exact e (by rw [hw.inj st.nd ht]; exact decide_eq_true rfl)
      have em : mkB x W T = .nd x W T := if_neg hne
      rw [em] at q
      refine ⟨_, rfl, _, rfl, _, rfl, by show 3 ≤ sizeLine; decide, fun tp ntp => ?_⟩
      have s1 := same_upd ntp (o := .tup [.int x, .int ((w : Nat) : Int), .int ((t : Nat) : Int)])
      have et : (upd H tp (.tup [.int x, .int ((w : Nat) : Int), .int ((t : Nat) : Int)])) tp = some (.tup ((ky3 x w t).map kV)) := upd_same
      generalize upd H tp (.tup [.int x, .int ((w : Nat) : Int), .int ((t : Nat) : Int)]) = H1 at s1 et
      have st1 := st.ext s1
      obtain ⟨⟨dx, hp⟩, ⟨xs, hk, hxs⟩, ⟨kvs, hu, hkl, hko⟩, ⟨cvs, hm, hcl, hco⟩, hnd, hum, hes⟩ := id st1
      have npk : s.p ≠ s.k := ne_of hp hk (fun z => nomatch z)
      have npu : s.p ≠ s.u := ne_of hp hu (fun z => nomatch z)
      have nku : s.k ≠ s.u := ne_of hk hu (fun z => nomatch z)
      have nkm : s.k ≠ s.m := ne_of hk hm (fun z => nomatch z)
      have ntk : tp ≠ s.k := ne_of et hk (fun z => nomatch z)
      have ntu : tp ≠ s.u := ne_of et hu (fun z => nomatch z)
      refine ⟨_, rfl, _, rfl, s.p, C, dx, _, _, rfl, hp, G.cl, G.nN, sf_num s, s.u, _, rfl, DGet.t hu et, _, rfl, ?_⟩
      cases ev : valV kvs (ky3 x w t) with
      | some v =>
        obtain ⟨i, hi, rfl⟩ := hko.2 _ _ _ _ ev
        refine iteF ?_
        refine ⟨_, rfl, s.p, C, dx, _, _, rfl, hp, G.cl, G.nN, sf_num s, _, rfl, s.u, .int ((i + 2 : Nat) : Int), rfl, ?_, ?_⟩
        · have := DGet.t hu et
          rw [ev] at this
          exact this
        · exact q H1 [] (i + 2) (FdS.of s1) (Nat.zero_le _) (by rw [List.append_nil]; exact st1) (by rw [List.append_nil]; exact .nd hi hw ht)
      | none =>
        have hnew : (x, w, t) ∉ N := hko.1 _ _ _ ev
        have lxs : xs.length = N.length := by rw [DpAll.len hxs, List.length_map]
        refine iteT ?_
        refine ⟨_, rfl, s.p, C, dx, _, _, rfl, hp, G.cl, G.nK, sf_kept s, s.k, xs, rfl, .inl (.of hk), _, _, rfl, rfl, _, rfl, s.p, C, dx, _, _, rfl, hp, G.cl, G.nN, sf_num s, _, rfl, s.u, _, rfl, DPut.t hu et (by omega), ?_⟩
        rw [lxs]
        dsimp only
        rw [show ((N.length : Nat) : Int) + 2 = ((N.length + 2 : Nat) : Int) by omega]
        have hk2 : (upd H1 s.u (.dT (putK kvs (ky3 x w t) (.int ((N.length + 2 : Nat) : Int))))) s.k = some (.lst xs) := by rw [upd_ne nku]; exact hk
        have hp2 : (upd H1 s.u (.dT (putK kvs (ky3 x w t) (.int ((N.length + 2 : Nat) : Int))))) s.p = some (.ins C dx (sfl s)) := by rw [upd_ne npu]; exact hp
        refine ⟨_, rfl, s.p, C, dx, _, _, rfl, hp2, G.cl, G.nK, sf_kept s, .inl ⟨rfl, _, .inl (.inl hk2)⟩, _, rfl, s.k, xs, _, rfl, rfl, hk2, by omega, ?_⟩
        have eu3 : (upd (upd H1 s.u (.dT (putK kvs (ky3 x w t) (.int ((N.length + 2 : Nat) : Int))))) s.k (.lst (xs ++ [.ref tp]))) s.u = some (.dT (putK kvs (ky3 x w t) (.int ((N.length + 2 : Nat) : Int)))) := by rw [upd_ne nku.symm, upd_same]
        have f3 : FdS s H1 (upd (upd H1 s.u (.dT (putK kvs (ky3 x w t) (.int ((N.length + 2 : Nat) : Int))))) s.k (.lst (xs ++ [.ref tp]))) := fun b o n1 n2 n3 hb => by
          rw [upd_ne n1, upd_ne n2]
          exact hb
        have ep3 : (upd (upd H1 s.u (.dT (putK kvs (ky3 x w t) (.int ((N.length + 2 : Nat) : Int))))) s.k (.lst (xs ++ [.ref tp]))) s.p = some (.ins C dx (sfl s)) := by rw [upd_ne npk]; exact hp2
        have em3 : (upd (upd H1 s.u (.dT (putK kvs (ky3 x w t) (.int ((N.length + 2 : Nat) : Int))))) s.k (.lst (xs ++ [.ref tp]))) s.m = some (.dT cvs) := by rw [upd_ne nkm.symm, upd_ne hum.symm]; exact hm
        have ek3 : (upd (upd H1 s.u (.dT (putK kvs (ky3 x w t) (.int ((N.length + 2 : Nat) : Int))))) s.k (.lst (xs ++ [.ref tp]))) s.k = some (.lst (xs ++ [.ref tp])) := upd_same
        have et3 : (upd (upd H1 s.u (.dT (putK kvs (ky3 x w t) (.int ((N.length + 2 : Nat) : Int))))) s.k (.lst (xs ++ [.ref tp]))) tp = some (.tup ((ky3 x w t).map kV)) := by rw [upd_ne ntk, upd_ne ntu]; exact et
        generalize upd (upd H1 s.u (.dT (putK kvs (ky3 x w t) (.int ((N.length + 2 : Nat) : Int))))) s.k (.lst (xs ++ [.ref tp])) = H3 at eu3 f3 ep3 em3 ek3 et3
        have nk : NumsOk (N ++ [(x, w, t)]) (putK kvs (ky3 x w t) (.int ((N.length + 2 : Nat) : Int))) := hko.snoc ev
        have st3 : Sto C K H3 s (N ++ [(x, w, t)]) es L := by
          refine ⟨⟨dx, ep3⟩, ⟨_, ek3, ?_⟩, ⟨_, eu3, ?_, nk⟩, ⟨cvs, em3, hcl, hco.mono⟩, ?_, hum, hes⟩
          · rw [List.map_append]
            exact DpAll.snoc (DpAll.tsn (st1.tup f3) _ _ (nD_only _) hxs) (.tup (.of et3) (.cons (.int _) (.cons (.int _) (.cons (.int _) .nil))))
          · have := length_putK kvs (ky3 x w t) (.int ((N.length + 2 : Nat) : Int))
            rw [List.length_append]
            show _ ≤ _ + 1
            omega
          · rw [List.nodup_append]
            exact ⟨hnd, List.nodup_cons.mpr ⟨List.not_mem_nil, List.nodup_nil⟩, fun a ha b hb z => by
              rw [List.mem_singleton] at hb
              subst z hb
              exact hnew ha⟩
        refine ⟨_, rfl, s.p, C, dx, _, _, rfl, ep3, G.cl, G.nN, sf_num s, _, rfl, s.u, .int ((N.length + 2 : Nat) : Int), rfl, ?_, ?_⟩
        · have := DGet.t eu3 et3
          rw [valV_put, if_pos rfl] at this
          exact this
        · refine q H3 [(x, w, t)] (N.length + 2) ((FdS.of s1).trans f3) (Nat.le_refl _) st3 (.nd ?_ hw.mono ht.mono)
          rw [List.getElem?_append_right (Nat.le_refl _), Nat.sub_self]
          rfl
def topOf : Bd → Option Int
  | .nd x _ _ => some x
  | .lf _ => none
theorem srt_le {pre es : List Int} {x y : Int} (h : (pre ++ x :: es).Pairwise (· < ·)) (hy : y ∈ x :: es) : x ≤ y := by
  have h2 := (List.pairwise_append.mp h).2.1
  rw [List.pairwise_cons] at h2
  rcases List.mem_cons.mp hy with e | hy
  · omega
  · have := h2.1 y hy
    omega
theorem ok_top {f C : Addr} {fd : FuncData} (F : Fun K "top" "Diagrams.top" s_Diagrams_top f fd) (M : Mg mg) (G : DgC K C mg) (c_Diagrams_node_of : ClM P w K mg base 1 C "node_of" (sp_nof C K)) : FnOk P w K mg base CX0 2 f fd ["self", "conditions"] (sp_top C K) := by
  refine F.ok sc_Diagrams_top (fun vs H Q E h => ?_) (fun cdv A outer s H vs Q E hr h => ?_)
  · obtain ⟨s, N, es, L, pre, es', a, cs, rfl, _⟩ := h
    rfl
  · obtain ⟨s, N, es, L, pre, es', a, cs, rfl, st, ha, he, hl, hc, hex, q⟩ := h
    refine ⟨_, (pss_one (ps_ret (pe_callB (cr_min rfl) (by rfl) M.min (by decide +kernel) (pa_cons (pe_lc (own := [("condition", 2)]) (g := gName 2) rfl sc_Diagrams_top.nd (pi_tup (pv 1)) (blkOk_by (N := N_Diagrams_top) (sc := defScope s_Diagrams_top) (by decide +kernel)) (fun _ _ _ _ _ => (pg_name (i := 2) sc_Diagrams_top.nd rfl (.inl rfl))) (fun _ _ _ _ _ => (pts_one (pt_cmpR op_ge (pv 2) (C8.pe_gc (by rfl) G.FIRST_NODE) (nomark _)))) (fun _ _ _ _ _ => (pe_ix (ix_tupK K) (pe_mt c_Diagrams_node_of hr (by first | decide | omega) (pv 0) (pa_cons (pv 2) pa_nil)) pe_int (fun _ _ => rfl)))) pa_nil)))), ?_⟩
    refine ⟨_, rfl, a, rfl, ⟨_, ha⟩, fun D nD => ?_⟩
    refine lc_tup (K := K) (a := a) (xs := cs.map fun c => .int ((c.1 : Nat) : Int)) (fun i Hi => Same H Hi ∧ ∃ ns : List Int, Hi D = some (.lst (ns.map V.int)) ∧ ns.length ≤ i ∧ ns = (cs.take i).filterMap fun c => topOf c.2) ⟨same_upd nD, [], upd_same, Nat.zero_le _, rfl⟩ (fun i Hi _ hp => SqT.ext hp.1 ha) (fun i x Hi hx hp => ?_) (fun Hn hp => ?_)
    · obtain ⟨si, ns, eD, ln, en⟩ := hp
      rw [List.getElem?_map] at hx
      obtain ⟨c, hcv, rfl⟩ := Option.map_eq_some_iff.mp hx
      have hi : i < cs.length := (List.getElem?_eq_some_iff.mp hcv).1
      obtain ⟨hAt, hWf⟩ := hc c (List.mem_of_getElem? hcv)
      have sti := st.ext si
      refine ⟨rfl, ?_⟩
      refine ⟨_, rfl, _, _, rfl, rfl, _, rfl, ite2 (fun e => ?_) (fun e => ?_)⟩
      · have h2 : 2 ≤ c.1 := by
          have := of_decide_eq_true e
          omega
        obtain ⟨e1, w1, t1, a1, b1, hn, hw1, ht1, ea⟩ := hAt.ge h2
        refine ⟨_, rfl, sti.go (by decide +kernel) (by decide +kernel) (by decide +kernel) ⟨_, rfl, ?_⟩⟩
        refine ⟨s, N, es, L, c.1, _, rfl, sti, h2, hn, fun qa hq => ?_⟩
        refine ⟨qa, _, _, _, rfl, rfl, hq, atI_nat (j := 0) rfl, ?_⟩
        refine ⟨_, eD, by rw [List.length_map]; exact Nat.lt_of_le_of_lt ln (Nat.lt_of_lt_of_le hi (Nat.le_trans hl (by decide))), ?_, ns ++ [e1], ?_, ?_, ?_⟩
        · intro b o hb
          rw [upd_ne (ne_of_none hb nD)]
          exact si _ _ hb
        · rw [upd_same, List.map_append]
          rfl
        · rw [List.length_append]
          show _ + 1 ≤ _
          omega
        · rw [List.take_add_one, hcv, List.filterMap_append, ← en]
          show _ = _ ++ ([c].filterMap fun c => topOf c.2)
          rw [List.filterMap_cons, ea]
          rfl
      · have h2 : ¬ 2 ≤ c.1 := by
          intro h
          exact e (decide_eq_true (by omega))
        refine ⟨si, ns, eD, by omega, ?_⟩
        rw [List.take_add_one, hcv, List.filterMap_append, ← en]
        show _ = _ ++ ([c].filterMap fun c => topOf c.2)
        have : topOf c.2 = none := by
          generalize c.1 = cn at hAt h2
          generalize c.2 = A at hAt
          cases hAt with
          | f => rfl
          | t => rfl
          | nd _ _ _ => omega
        rw [List.filterMap_cons, this]
        exact (List.append_nil _).symm
    · obtain ⟨sn, ns, eD, ln, en⟩ := hp
      rw [List.length_map, List.take_of_length_le (Nat.le_refl _)] at en
      obtain ⟨c0, hc0, h20⟩ := hex
      have hex' : ∃ a ∈ cs.map (·.2), ∀ b, a ≠ .lf b := by
        refine ⟨c0.2, List.mem_map.mpr ⟨c0, hc0, rfl⟩, fun b z => ?_⟩
        obtain ⟨_, _, _, _, _, _, _, _, ea⟩ := (hc c0 hc0).1.ge h20
        rw [ea] at z
        cases z
      obtain ⟨pre2, x, es2, ee, hwf, w0, t0, hm0⟩ := top_ex (es := es') (cs := cs.map (·.2)) (fun a ha => by
        obtain ⟨c, hcm, rfl⟩ := List.mem_map.mp ha
        exact (hc c hcm).2) hex'
      have hwf' : ∀ c ∈ cs, Wf (x :: es2) c.2 := fun c hcm => hwf _ (List.mem_map.mpr ⟨c, hcm, rfl⟩)
      have hx : x ∈ ns := by
        obtain ⟨c, hcm, ec⟩ := List.mem_map.mp hm0
        rw [en]
        exact List.mem_filterMap.mpr ⟨c, hcm, by rw [ec]; rfl⟩
      refine ⟨D, ns, rfl, .of eD, List.length_pos_of_mem hx, fun m hm hmin => ?_⟩
      have h1 := hmin x hx
      rw [en] at hm
      obtain ⟨c, hcm, ec⟩ := List.mem_filterMap.mp hm
      have h2 : x ≤ m := by
        have hw := hwf' c hcm
        generalize c.2 = A at hw ec
        cases A with
        | lf b => cases ec
        | nd y w t =>
          have e : y = m := Option.some.inj ec
          subst e
          have srt := st.srt
          rw [he, ee, ← List.append_assoc] at srt
          exact srt_le srt hw.none_of
      obtain rfl : m = x := by omega
      exact q Hn pre2 m es2 sn ee hwf'
theorem ok_bra {f C : Addr} {fd : FuncData} (F : Fun K "branches" "Diagrams.branches" s_Diagrams_branches f fd) (M : Mg mg) (G : DgC K C mg) (c_Diagrams_node_of : ClM P w K mg base 1 C "node_of" (sp_nof C K)) : FnOk P w K mg base CX0 2 f fd ["self", "condition", "entry"] (sp_bra C K) := by
  refine F.ok sc_Diagrams_branches (fun vs H Q E h => ?_) (fun cdv A outer s H vs Q E hr h => ?_)
  · obtain ⟨s, N, es, L, x, es2, c, A, rfl, _⟩ := h
    rfl
  · obtain ⟨s, N, es, L, x, es2, c, A, rfl, st, hAt, hWf, hx, q⟩ := h
    refine ⟨_, (pss_cons (ps_if (pt_cmpR op_ge (pv 1) (C8.pe_gc (by rfl) G.FIRST_NODE) (nomark _)) (pss_cons (ps_asg (pe_mt c_Diagrams_node_of hr (by first | decide | omega) (pv 0) (pa_cons (pv 1) pa_nil)) (pg_tup (by rfl) (pgs_cons (pg_name (i := 3) sc_Diagrams_branches.nd rfl (.inl rfl)) (pgs_cons (pg_name (i := 4) sc_Diagrams_branches.nd rfl (.inl rfl)) (pgs_cons (pg_name (i := 5) sc_Diagrams_branches.nd rfl (.inl rfl)) pgs_nil)))))
      (pss_one (ps_if (pt_cmpR op_eq (pv 3) (pv 2) (nomark _)) (pss_one (ps_ret (pe_tup (pa_cons (pv 4) (pa_cons (pv 5) pa_nil))))) pss_nil))) pss_nil)
      (pss_one (ps_ret (pe_tup (pa_cons (pv 1) (pa_cons (pv 1) pa_nil)))))), ?_⟩
    have both : A.cw x = A → A.ct x = A → ∀ q', H q' = none → Q (.ref q') (upd H q' (.tup [.int ((c : Nat) : Int), .int ((c : Nat) : Int)])) := fun e1 e2 q' nq => by
      refine q _ q' c c (same_upd nq) upd_same ?_ ?_
      · rw [e1]; exact hAt
      · rw [e2]; exact hAt
    refine ⟨_, rfl, _, _, rfl, rfl, _, rfl, ite2 (fun e => ?_) (fun e => ?_)⟩
    · have h2 : 2 ≤ c := by
        have := of_decide_eq_true e
        omega
      obtain ⟨e1, w1, t1, a1, b1, hn, hw1, ht1, ea⟩ := hAt.ge h2
      refine ⟨_, rfl, st.go (by decide +kernel) (by decide +kernel) (by decide +kernel) ⟨_, rfl, ?_⟩⟩
      refine ⟨s, N, es, L, c, _, rfl, st, h2, hn, fun qa hq => ?_⟩
      refine ⟨qa, _, rfl, hq, rfl, _, _, rfl, _, _, rfl, _, _, rfl, rfl, ?_⟩
      refine ⟨_, rfl, _, rfl, rfl, _, rfl, ite2 (fun e => ?_) (fun e => ?_)⟩
      · have ee : e1 = x := V.int.inj (of_decide_eq_true e)
        refine ⟨_, rfl, _, rfl, by show 2 ≤ sizeLine; decide, fun q' nq => ?_⟩
        refine q _ q' w1 t1 (same_upd nq) upd_same ?_ ?_
        · rw [ea, show (Bd.nd e1 a1 b1).cw x = a1 from if_pos ee]; exact hw1
        · rw [ea, show (Bd.nd e1 a1 b1).ct x = b1 from if_pos ee]; exact ht1
      · have ee : e1 ≠ x := fun z => e (by rw [z]; exact decide_eq_true rfl)
        exact ⟨_, rfl, _, rfl, by show 2 ≤ sizeLine; decide, both (by rw [ea]; exact if_neg ee) (by rw [ea]; exact if_neg ee)⟩
    · have hlf : A.cw x = A ∧ A.ct x = A := by
        cases hAt with
        | f => exact ⟨rfl, rfl⟩
        | t => exact ⟨rfl, rfl⟩
        | nd _ _ _ => exact absurd (decide_eq_true (by omega)) e
      exact ⟨_, rfl, _, rfl, by show 2 ≤ sizeLine; decide, both hlf.1 hlf.2⟩
theorem Sto.more {C : Addr} {H : Hp} {s : SA} {N : Nds} {es : List Int} {L L' : Nat} (h : Sto C K H s N es L) (hl : L ≤ L') : Sto C K H s N es L' := by
  obtain ⟨h1, h2, h3, ⟨cvs, h4, h5, h6⟩, h7⟩ := h
  exact ⟨h1, h2, h3, ⟨cvs, h4, Nat.le_trans h5 hl, h6⟩, h7⟩
theorem Sto.put {C : Addr} {H : Hp} {s : SA} {N : Nds} {es : List Int} {L : Nat} (st : Sto C K H s N es L) {c a b r : Nat} {A B D T : Bd} (h1 : At N c A) (h2 : At N a B) (h3 : At N b D) (h4 : At N r T) (h5 : IsIte es A B D T) :
    ∃ cvs, H s.m = some (.dT cvs) ∧ cvs.length ≤ L ∧ Sto C K (upd H s.m (.dT (putK cvs (ky3 c a b) (.int ((r : Nat) : Int))))) s N es (L + 1) ∧ FdS s H (upd H s.m (.dT (putK cvs (ky3 c a b) (.int ((r : Nat) : Int))))) := by
  have f : ∀ cvs, FdS s H (upd H s.m (.dT (putK cvs (ky3 c a b) (.int ((r : Nat) : Int))))) := fun cvs x o n1 n2 n3 e => by
    rw [upd_ne n3]
    exact e
  obtain ⟨⟨dx, hp⟩, ⟨xs, hk, hxs⟩, ⟨kvs, hu, hkl, hko⟩, ⟨cvs, hm, hcl, hco⟩, hnd, hum, hes⟩ := id st
  refine ⟨cvs, hm, hcl, ⟨⟨dx, ?_⟩, ⟨xs, ?_, ?_⟩, ⟨kvs, ?_, hkl, hko⟩, ⟨_, upd_same, ?_, hco.put h1 h2 h3 h4 h5⟩, hnd, hum, hes⟩, f cvs⟩
  · rw [upd_ne (ne_of hp hm (fun z => nomatch z))]; exact hp
  · rw [upd_ne (ne_of hk hm (fun z => nomatch z))]; exact hk
  · exact DpAll.tsn (st.tup (f cvs)) _ _ (nD_only _) hxs
  · rw [upd_ne hum]; exact hu
  · have := length_putK cvs (ky3 c a b) (.int ((r : Nat) : Int))
    omega
set_option maxHeartbeats 4000000 in
theorem ok_comb (n : Nat) {f C : Addr} {fd : FuncData} (F : Fun K "combine" "Diagrams.combine" s_Diagrams_combine f fd) (M : Mg mg) (G : DgC K C mg) (c_Diagrams_node : ClM P w K mg base 1 C "node" (sp_node C K)) (c_Diagrams_top : ClM P w K mg base 2 C "top" (sp_top C K)) (c_Diagrams_branches : ClM P w K mg base 2 C "branches" (sp_bra C K))
    (c_Diagrams_combine : ClM P w K mg base (n + 2) C "combine" (sp_comb C K n)) : FnOk P w K mg base CX0 (n + 3) f fd ["self", "condition", "first", "second"] (sp_comb C K (n + 1)) := by
  refine F.ok sc_Diagrams_combine (fun vs H Q E h => ?_) (fun cdv A outer s H vs Q E hr h => ?_)
  · obtain ⟨s, N, es, L, pre, es', c, a, b, A, B, D, rfl, _⟩ := h
    rfl
  · obtain ⟨s, N, es, L, pre, es', c, a, b, A, B, D, rfl, st, he, hn, hA, hB, hD, wA, wB, wD, z1, z2, q⟩ := h
    have hp1 : 1 ≤ 2 ^ es'.length := Nat.one_le_two_pow
    have ret : ∀ H1 r T, Same H H1 → At N r T → IsIte es' A B D T → Q (.int ((r : Nat) : Int)) H1 := fun H1 r T s1 h1 h2 => q H1 [] r T (FdS.of s1) (by rw [List.length_nil]; exact hp1) (by rw [List.append_nil]; exact (st.ext s1).more (Nat.le_add_right _ _)) (by rw [List.append_nil]; exact h1) h2
    have inat : ∀ {x y : Nat}, decide (V.int ((x : Nat) : Int) = V.int ((y : Nat) : Int)) = true → x = y := fun {x y} e => by
      have := V.int.inj (of_decide_eq_true e)
      omega
    refine ⟨_, (pss_cons (ps_if (PW.pt (pw_or (pt_cmpR op_eq (pv 1) (C8.pe_gc (by rfl) G.ALWAYS) (nomark _)) (pw_or1 (pt_cmpR op_eq (pv 2) (pv 3) (nomark _))))) (pss_one (ps_ret (pv 2))) pss_nil)
      (pss_cons (ps_if (pt_cmpR op_eq (pv 1) (C8.pe_gc (by rfl) G.NEVER) (nomark _)) (pss_one (ps_ret (pv 3))) pss_nil)
      (pss_cons (ps_set (i := 4) sc_Diagrams_combine.nd rfl (.inl rfl) (pe_tup (pa_cons (pv 1) (pa_cons (pv 2) (pa_cons (pv 3) pa_nil)))))
      (pss_cons (ps_if (pt_cmp (pc_dnotin (hu_of hr) (pv 4) (pe_fld (pv 0) rfl))) (pss_cons (ps_set (i := 5) sc_Diagrams_combine.nd rfl (.inl rfl) (pe_mt c_Diagrams_top hr (by first | decide | omega) (pv 0) (pa_cons (pv 4) pa_nil)))
      (pss_cons (ps_asg (pe_mt c_Diagrams_branches hr (by first | decide | omega) (pv 0) (pa_cons (pv 1) (pa_cons (pv 5) pa_nil))) (pg_tup (by rfl) (pgs_cons (pg_name (i := 6) sc_Diagrams_combine.nd rfl (.inl rfl)) (pgs_cons (pg_name (i := 7) sc_Diagrams_combine.nd rfl (.inl rfl)) pgs_nil))))
      (pss_cons (ps_asg (pe_mt c_Diagrams_branches hr (by first | decide | omega) (pv 0) (pa_cons (pv 2) (pa_cons (pv 5) pa_nil))) (pg_tup (by rfl) (pgs_cons (pg_name (i := 8) sc_Diagrams_combine.nd rfl (.inl rfl)) (pgs_cons (pg_name (i := 9) sc_Diagrams_combine.nd rfl (.inl rfl)) pgs_nil))))
      (pss_cons (ps_asg (pe_mt c_Diagrams_branches hr (by first | decide | omega) (pv 0) (pa_cons (pv 3) (pa_cons (pv 5) pa_nil))) (pg_tup (by rfl) (pgs_cons (pg_name (i := 10) sc_Diagrams_combine.nd rfl (.inl rfl)) (pgs_cons (pg_name (i := 11) sc_Diagrams_combine.nd rfl (.inl rfl)) pgs_nil))))
      (pss_one (ps_dput (hu_of hr) (pe_fld (pv 0) rfl) (pv 4) (pe_mt c_Diagrams_node hr (by first | decide | omega) (pv 0) (pa_cons (pv 5) (pa_cons (pe_mt c_Diagrams_combine hr (by first | decide | omega) (pv 0) (pa_cons (pv 6) (pa_cons (pv 8) (pa_cons (pv 10) pa_nil)))) (pa_cons (pe_mt c_Diagrams_combine hr (by first | decide | omega) (pv 0) (pa_cons (pv 7) (pa_cons (pv 9) (pa_cons (pv 11) pa_nil)))) pa_nil)))) rfl)))))) pss_nil)
      (pss_one (ps_ret (pe_dget (hu_of hr) (pe_fld (pv 0) rfl) (pv 4) (fun _ _ => rfl)))))))), ?_⟩
    refine ⟨_, rfl, rfl, _, rfl, ite2 (fun e => ?_) (fun e => ?_)⟩
    · obtain rfl : c = 1 := inat (y := 1) e
      have eA := hA.fn .t
      exact ⟨_, rfl, ret H a B (fun _ _ h => h) hB ⟨wB, fun r => by rw [eA]; exact (if_pos rfl).symm⟩⟩
    refine ⟨_, rfl, _, rfl, rfl, _, rfl, ite2 (fun e2 => ?_) (fun e2 => ?_)⟩
    · obtain rfl := inat e2
      have eB := hB.fn hD
      exact ⟨_, rfl, ret H a B (fun _ _ h => h) hB ⟨wB, fun r => by rw [← eB]; split <;> rfl⟩⟩
    refine ⟨_, rfl, rfl, _, rfl, ite2 (fun e3 => ?_) (fun e3 => ?_)⟩
    · obtain rfl : c = 0 := inat (y := 0) e3
      have eA := hA.fn .f
      exact ⟨_, rfl, ret H b D (fun _ _ h => h) hD ⟨wD, fun r => by rw [eA]; exact (if_neg Bool.false_ne_true).symm⟩⟩
    have hc2 : 2 ≤ c := by
      have g1 : c ≠ 1 := fun z => e (by subst z; exact decide_eq_true rfl)
      have g0 : c ≠ 0 := fun z => e3 (by subst z; exact decide_eq_true rfl)
      omega
    refine ⟨_, rfl, _, rfl, _, rfl, by show 3 ≤ sizeLine; decide, fun tp ntp => ?_⟩
    have s1 := same_upd ntp (o := .tup [.int ((c : Nat) : Int), .int ((a : Nat) : Int), .int ((b : Nat) : Int)])
    have et : (upd H tp (.tup [.int ((c : Nat) : Int), .int ((a : Nat) : Int), .int ((b : Nat) : Int)])) tp = some (.tup ((ky3 c a b).map kV)) := upd_same
    generalize upd H tp (.tup [.int ((c : Nat) : Int), .int ((a : Nat) : Int), .int ((b : Nat) : Int)]) = H1 at s1 et
    have st1 := st.ext s1
    obtain ⟨⟨dx, hp⟩, _, _, ⟨cvs, hm, hcl, hco⟩, _⟩ := id st1
    refine ⟨_, rfl, _, rfl, s.p, C, dx, _, _, rfl, hp, G.cl, G.nM, sf_comb s, s.m, _, rfl, DGet.t hm et, _, rfl, ?_⟩
    cases ev : valV cvs (ky3 c a b) with
    | some v =>
      obtain ⟨r, A', B', D', T, rfl, h1, h2, h3, h4, h5⟩ := hco _ _ _ _ ev
      have e1 := h1.fn hA
      have e2' := h2.fn hB
      have e3' := h3.fn hD
      subst e1 e2' e3'
      refine iteF ⟨_, rfl, s.p, C, dx, _, _, rfl, hp, G.cl, G.nM, sf_comb s, _, rfl, s.m, .int ((r : Nat) : Int), rfl, ?_, ?_⟩
      · have := DGet.t hm et
        rw [ev] at this
        exact this
      · refine ret H1 r T s1 h4 (ite_low (pre := pre) (by rw [← he]; exact st.es_nd) wA wB wD (by rw [← he]; exact h5))
    | none =>
      refine iteT ?_
      refine ⟨_, rfl, st1.go (by decide +kernel) (by decide +kernel) (by decide +kernel) ⟨_, rfl, ?_⟩⟩
      refine ⟨s, N, es, L, pre, es', tp, [(c, A), (a, B), (b, D)], rfl, st1, .of et, he, Nat.le_refl _, ?_, ⟨(c, A), List.mem_cons_self, hc2⟩, fun H2 pre2 x es2 s2 ee hw => ?_⟩
      · intro y hy
        simp only [List.mem_cons, List.not_mem_nil, or_false] at hy
        rcases hy with rfl | rfl | rfl
        · exact ⟨hA, wA⟩
        · exact ⟨hB, wB⟩
        · exact ⟨hD, wD⟩
      have st2 := st1.ext s2
      have vA := hw (c, A) (by simp)
      have vB := hw (a, B) (by simp)
      have vD := hw (b, D) (by simp)
      have hx : x ∉ es2 := by
        have := st.es_nd
        rw [he, ee] at this
        exact (List.nodup_cons.mp (List.nodup_append.mp (List.nodup_append.mp this).2.1).2.1).1
      refine ⟨_, rfl, st2.go (by decide +kernel) (by decide +kernel) (by decide +kernel) ⟨_, rfl, _, rfl, ?_⟩⟩
      refine ⟨s, N, es, L, x, es2, c, A, rfl, st2, hA, vA, hx, fun H3 q3 w1 t1 s3 e3 hw1 ht1 => ?_⟩
      refine ⟨q3, _, rfl, .of e3, rfl, _, _, rfl, _, _, rfl, rfl, ?_⟩
      have st3 := st2.ext s3
      refine ⟨_, rfl, st3.go (by decide +kernel) (by decide +kernel) (by decide +kernel) ⟨_, rfl, _, rfl, ?_⟩⟩
      refine ⟨s, N, es, L, x, es2, a, B, rfl, st3, hB, vB, hx, fun H4 q4 w2 t2 s4 e4 hw2 ht2 => ?_⟩
      refine ⟨q4, _, rfl, .of e4, rfl, _, _, rfl, _, _, rfl, rfl, ?_⟩
      have st4 := st3.ext s4
      refine ⟨_, rfl, st4.go (by decide +kernel) (by decide +kernel) (by decide +kernel) ⟨_, rfl, _, rfl, ?_⟩⟩
      refine ⟨s, N, es, L, x, es2, b, D, rfl, st4, hD, vD, hx, fun H5 q5 w3 t3 s5 e5 hw3 ht3 => ?_⟩
      refine ⟨q5, _, rfl, .of e5, rfl, _, _, rfl, _, _, rfl, rfl, ?_⟩
      have st5 := st4.ext s5
      have s25 := ((s2.trans s3).trans s4).trans s5
      have et5 := s25 _ _ et
      have lee : es'.length = pre2.length + (es2.length + 1) := by rw [ee, List.length_append, List.length_cons]
      have hpow : 2 ^ es2.length + 2 ^ es2.length ≤ 2 ^ es'.length := by
        have : 2 ^ (es2.length + 1) ≤ 2 ^ es'.length := Nat.pow_le_pow_right (by decide) (by omega)
        rw [Nat.pow_succ] at this
        omega
      have hp2 : 1 ≤ 2 ^ es2.length := Nat.one_le_two_pow
      have he2 : es = (pre ++ pre2 ++ [x]) ++ es2 := by rw [he, ee]; simp
      refine ⟨_, rfl, st5.go (by decide +kernel) (by decide +kernel) (by decide +kernel) ⟨_, rfl, ?_⟩⟩
      refine ⟨_, rfl, st5.go (by decide +kernel) (by decide +kernel) (by decide +kernel) ⟨_, rfl, _, rfl, _, rfl, ?_⟩⟩
      refine ⟨s, N, es, L, pre ++ pre2 ++ [x], es2, w1, w2, w3, A.cw x, B.cw x, D.cw x, rfl, st5, he2, by omega, hw1, hw2, hw3, (vA.cw hx).1, (vB.cw hx).1, (vD.cw hx).1, by omega, by omega, fun H6 M1 r1 T1 f6 l1 st6 a1 i1 => ?_⟩
      refine ⟨_, rfl, st6.go (by decide +kernel) (by decide +kernel) (by decide +kernel) ⟨_, rfl, _, rfl, _, rfl, ?_⟩⟩
      refine ⟨s, N ++ M1, es, _, pre ++ pre2 ++ [x], es2, t1, t2, t3, A.ct x, B.ct x, D.ct x, rfl, st6, he2, by omega, ht1.mono, ht2.mono, ht3.mono, (vA.ct hx).1, (vB.ct hx).1, (vD.ct hx).1, by rw [List.length_append]; omega, by omega, fun H7 M2 r2 T2 f7 l2 st7 a2 i2 => ?_⟩
      refine ⟨s, (N ++ M1) ++ M2, es, _, x, r1, r2, T1, T2, rfl, st7, a1.mono, a2, by rw [List.length_append, List.length_append]; omega, fun H8 M3 r f8 l3 st8 a3 => ?_⟩
      have f58 := (f6.trans f7).trans f8
      have et8 := st5.tup f58 _ _ (.inl ⟨_, rfl⟩) et5
      have eN : N ++ M1 ++ M2 ++ M3 = N ++ (M1 ++ M2 ++ M3) := by simp only [List.append_assoc]
      rw [eN] at st8 a3
      have hI : IsIte es' A B D (mkB x T1 T2) := by
        rw [ee]
        exact (ite_step hx vA vB vD i1 i2).skips pre2
      obtain ⟨cv8, hm8, hl8, st9, f9⟩ := st8.put (hA.mono (M := M1 ++ M2 ++ M3)) (hB.mono (M := M1 ++ M2 ++ M3)) (hD.mono (M := M1 ++ M2 ++ M3)) a3 (by rw [he]; exact hI.skips pre)
      obtain ⟨dx8, hp8⟩ := st8.ins
      refine ⟨_, rfl, s.p, C, dx8, _, _, rfl, hp8, G.cl, G.nM, sf_comb s, _, rfl, s.m, _, rfl, DPut.t hm8 et8 (by omega), ?_⟩
      obtain ⟨dx9, hp9⟩ := st9.ins
      have et9 := st8.tup f9 _ _ (.inl ⟨_, rfl⟩) et8
      have em9 : (upd H8 s.m (.dT (putK cv8 (ky3 c a b) (.int ((r : Nat) : Int))))) s.m = some (.dT (putK cv8 (ky3 c a b) (.int ((r : Nat) : Int)))) := upd_same
      refine ⟨_, rfl, s.p, C, dx9, _, _, rfl, hp9, G.cl, G.nM, sf_comb s, _, rfl, s.m, .int ((r : Nat) : Int), rfl, ?_, ?_⟩
      · have := DGet.t em9 et9
        rw [valV_put, if_pos rfl] at this
        exact this
      · refine q _ (M1 ++ M2 ++ M3) r _ (((FdS.of (s1.trans s25)).trans f58).trans f9) ?_ (st9.more ?_) a3 hI
        · rw [List.length_append, List.length_append]
          omega
        · omega
end

/-! ### the operations, and what is said of a condition -/
theorem inV_int (e : Int) (ps : List Int) : inV (.int e) (ps.map V.int) = decide (e ∈ ps) := by
  unfold inV
  rw [List.any_map]
  by_cases h : e ∈ ps
  · rw [decide_eq_true h, List.any_eq_true]
    exact ⟨e, h, beq_self_eq_true e⟩
  · rw [decide_eq_false h]
    cases h2 : ps.any ((fun y => eqV y (.int e)) ∘ V.int) with
    | false => rfl
    | true =>
      exfalso
      obtain ⟨y, hy, hb⟩ := List.any_eq_true.mp h2
      have : y = e := eq_of_beq hb
      exact h (this ▸ hy)
theorem ints_flat (ps : List Int) : (ps.map V.int).all flatV = true := by
  rw [List.all_map]
  exact List.all_eq_true.mpr fun _ _ => rfl
def Bd.ht : Bd → Nat
  | .lf _ => 0
  | .nd _ w t => max w.ht t.ht + 1
def sp_there (C : Addr) (K : PySem.W.Frag) : Sp := fun vs H Q _ => ∃ s N es L x, vs = [.ref s.p, .int x] ∧ Sto C K H s N es L ∧ N.length + 1 < sizeLine ∧
  ∀ H' M r, FdS s H H' → M.length ≤ 1 → Sto C K H' s (N ++ M) es L → At (N ++ M) r (.nd x (.lf false) (.lf true)) → Q (.int ((r : Nat) : Int)) H'
def opB (es : List Int) : Nat := 2 * 2 ^ es.length
def sp_op2 (C : Addr) (K : PySem.W.Frag) (n : Nat) (f : Bool → Bool → Bool) : Sp := fun vs H Q _ => ∃ s N es L a b A B, vs = [.ref s.p, .int ((a : Nat) : Int), .int ((b : Nat) : Int)] ∧ Sto C K H s N es L ∧ es.length < n ∧ At N a A ∧ At N b B ∧ Wf es A ∧ Wf es B ∧ N.length + opB es < sizeLine ∧ L + opB es < sizeLine ∧
  ∀ H' M r T, FdS s H H' → M.length ≤ opB es → Sto C K H' s (N ++ M) es (L + opB es) → At (N ++ M) r T → Wf es T → (∀ ρ, T.ev ρ = f (A.ev ρ) (B.ev ρ)) → Q (.int ((r : Nat) : Int)) H'
def sp_neg (C : Addr) (K : PySem.W.Frag) (n : Nat) : Sp := fun vs H Q _ => ∃ s N es L a A, vs = [.ref s.p, .int ((a : Nat) : Int)] ∧ Sto C K H s N es L ∧ es.length < n ∧ At N a A ∧ Wf es A ∧ N.length + 2 ^ es.length < sizeLine ∧ L + 2 ^ es.length < sizeLine ∧
  ∀ H' M r T, FdS s H H' → M.length ≤ 2 ^ es.length → Sto C K H' s (N ++ M) es (L + 2 ^ es.length) → At (N ++ M) r T → Wf es T → (∀ ρ, T.ev ρ = !(A.ev ρ)) → Q (.int ((r : Nat) : Int)) H'
def sp_holds (C : Addr) (K : PySem.W.Frag) : Sp := fun vs H Q _ => ∃ s N es L c A a, ∃ ps : List Int, vs = [.ref s.p, .int ((c : Nat) : Int), .ref a] ∧ Sto C K H s N es L ∧ At N c A ∧ SqL K H a (ps.map V.int) ∧ Q (.bl (A.ev fun e => decide (e ∈ ps))) H
def sp_dinit (C : Addr) (K : PySem.W.Frag) : Sp := fun vs H Q _ => ∃ p dx, vs = [.ref p] ∧ H p = some (.ins C dx []) ∧ ∀ H' s, s.p = p → Fd p H H' → H s.k = none → H s.u = none → H s.m = none → (∀ es : List Int, es.Pairwise (· < ·) → Sto C K H' s [] es 0) → Q .non H'
theorem dk1 : ¬ (("kept" : Str) = "numbers") := by decide +kernel
theorem dk2 : ¬ (("kept" : Str) = "combined") := by decide +kernel
theorem dk3 : ¬ (("numbers" : Str) = "combined") := by decide +kernel
theorem sf_mk (s : SA) : putF "combined" (.ref s.m) (putF "numbers" (.ref s.u) (putF "kept" (.ref s.k) [])) = sfl s := by
  unfold sfl
  simp only [putF, if_neg dk1, if_neg dk2, if_neg dk3]
section
variable {P : Program} {w : World} {K : PySem.W.Frag} {mg : Str → Option Value} {base : Heap}
theorem cl_comb {f C : Addr} {fd : FuncData} (F : Fun K "combine" "Diagrams.combine" s_Diagrams_combine f fd) (M : Mg mg) (G : DgC K C mg) (mt : Meth K C "combine" f) (bi : Binds K fd ["self", "condition", "first", "second"] []) (c_Diagrams_node : ClM P w K mg base 1 C "node" (sp_node C K)) (c_Diagrams_top : ClM P w K mg base 2 C "top" (sp_top C K)) (c_Diagrams_branches : ClM P w K mg base 2 C "branches" (sp_bra C K)) :
    ∀ n, ClM P w K mg base (n + 2) C "combine" (sp_comb C K n)
  | 0 => FnOk.clm (P := P) (w := w) (base := base) (mg := mg) (F.ok sc_Diagrams_combine (fun vs H Q E h => by obtain ⟨s, N, es, L, pre, es', c, a, b, A, B, D, rfl, _⟩ := h; rfl) (fun cdv A outer s H vs Q E hr h => by obtain ⟨s, N, es, L, pre, es', c, a, b, A, B, D, rfl, st, he, hn, _⟩ := h; omega)) mt G.cl bi
  | n + 1 => FnOk.clm (ok_comb n F M G c_Diagrams_node c_Diagrams_top c_Diagrams_branches (cl_comb F M G mt bi c_Diagrams_node c_Diagrams_top c_Diagrams_branches n)) mt G.cl bi
theorem ok_there {f C : Addr} {fd : FuncData} (F : Fun K "there" "Diagrams.there" s_Diagrams_there f fd) (M : Mg mg) (G : DgC K C mg) (c_Diagrams_node : ClM P w K mg base 1 C "node" (sp_node C K)) : FnOk P w K mg base CX0 2 f fd ["self", "entry"] (sp_there C K) := by
  refine F.ok sc_Diagrams_there (fun vs H Q E h => ?_) (fun cdv A outer s H vs Q E hr h => ?_)
  · obtain ⟨s, N, es, L, x, rfl, _⟩ := h
    rfl
  · obtain ⟨s, N, es, L, x, rfl, st, hz, q⟩ := h
    refine ⟨_, (pss_one (ps_ret (pe_mt c_Diagrams_node hr (by first | decide | omega) (pv 0) (pa_cons (pv 1) (pa_cons (C8.pe_gc (by rfl) G.NEVER) (pa_cons (C8.pe_gc (by rfl) G.ALWAYS) pa_nil)))))), ?_⟩
    refine ⟨_, rfl, st.go (by decide +kernel) (by decide +kernel) (by decide +kernel) ⟨_, rfl, ?_⟩⟩
    exact ⟨s, N, es, L, x, 0, 1, _, _, rfl, st, .f, .t, hz, fun H' M r f l st' a => q H' M r f l st' a⟩
theorem opB_ge (es : List Int) : 2 ^ es.length + 2 ^ es.length = opB es := by unfold opB; omega
theorem ok_conj {n : Nat} {f C : Addr} {fd : FuncData} (F : Fun K "conjunction" "Diagrams.conjunction" s_Diagrams_conjunction f fd) (M : Mg mg) (G : DgC K C mg) (c_Diagrams_combine : ClM P w K mg base (n + 2) C "combine" (sp_comb C K n)) : FnOk P w K mg base CX0 (n + 3) f fd ["self", "first", "second"] (sp_op2 C K n and) := by
  refine F.ok sc_Diagrams_conjunction (fun vs H Q E h => ?_) (fun cdv A outer s H vs Q E hr h => ?_)
  · obtain ⟨s, N, es, L, a, b, A, B, rfl, _⟩ := h
    rfl
  · obtain ⟨s, N, es, L, a, b, A, B, rfl, st, hn, hA, hB, wA, wB, z1, z2, q⟩ := h
    have ob := opB_ge es
    refine ⟨_, (pss_one (ps_ret (pe_mt c_Diagrams_combine hr (by first | decide | omega) (pv 0) (pa_cons (pv 1) (pa_cons (pv 2) (pa_cons (C8.pe_gc (by rfl) G.NEVER) pa_nil)))))), ?_⟩
    refine ⟨_, rfl, st.go (by decide +kernel) (by decide +kernel) (by decide +kernel) ⟨_, rfl, _, rfl, ?_⟩⟩
    refine ⟨s, N, es, L, [], es, a, b, 0, A, B, _, rfl, st, rfl, hn, hA, hB, .f, wA, wB, .lf, by omega, by omega, fun H' M r T f l st' a i => q H' M r T f (by omega) (st'.more (by omega)) a i.1 fun ρ => ?_⟩
    rw [i.2]
    cases A.ev ρ <;> rfl
theorem ok_disj {n : Nat} {f C : Addr} {fd : FuncData} (F : Fun K "disjunction" "Diagrams.disjunction" s_Diagrams_disjunction f fd) (M : Mg mg) (G : DgC K C mg) (c_Diagrams_combine : ClM P w K mg base (n + 2) C "combine" (sp_comb C K n)) : FnOk P w K mg base CX0 (n + 3) f fd ["self", "first", "second"] (sp_op2 C K n or) := by
  refine F.ok sc_Diagrams_disjunction (fun vs H Q E h => ?_) (fun cdv A outer s H vs Q E hr h => ?_)
  · obtain ⟨s, N, es, L, a, b, A, B, rfl, _⟩ := h
    rfl
  · obtain ⟨s, N, es, L, a, b, A, B, rfl, st, hn, hA, hB, wA, wB, z1, z2, q⟩ := h
    have ob := opB_ge es
    refine ⟨_, (pss_one (ps_ret (pe_mt c_Diagrams_combine hr (by first | decide | omega) (pv 0) (pa_cons (pv 1) (pa_cons (C8.pe_gc (by rfl) G.ALWAYS) (pa_cons (pv 2) pa_nil)))))), ?_⟩
    refine ⟨_, rfl, st.go (by decide +kernel) (by decide +kernel) (by decide +kernel) ⟨_, rfl, _, rfl, ?_⟩⟩
    refine ⟨s, N, es, L, [], es, a, 1, b, A, _, B, rfl, st, rfl, hn, hA, .t, hB, wA, .lf, wB, by omega, by omega, fun H' M r T f l st' a i => q H' M r T f (by omega) (st'.more (by omega)) a i.1 fun ρ => ?_⟩
    rw [i.2]
    cases A.ev ρ <;> rfl
theorem ok_neg {n : Nat} {f C : Addr} {fd : FuncData} (F : Fun K "negation" "Diagrams.negation" s_Diagrams_negation f fd) (M : Mg mg) (G : DgC K C mg) (c_Diagrams_combine : ClM P w K mg base (n + 2) C "combine" (sp_comb C K n)) : FnOk P w K mg base CX0 (n + 3) f fd ["self", "condition"] (sp_neg C K n) := by
  refine F.ok sc_Diagrams_negation (fun vs H Q E h => ?_) (fun cdv A outer s H vs Q E hr h => ?_)
  · obtain ⟨s, N, es, L, a, A, rfl, _⟩ := h
    rfl
  · obtain ⟨s, N, es, L, a, A, rfl, st, hn, hA, wA, z1, z2, q⟩ := h
    refine ⟨_, (pss_one (ps_ret (pe_mt c_Diagrams_combine hr (by first | decide | omega) (pv 0) (pa_cons (pv 1) (pa_cons (C8.pe_gc (by rfl) G.NEVER) (pa_cons (C8.pe_gc (by rfl) G.ALWAYS) pa_nil)))))), ?_⟩
    refine ⟨_, rfl, st.go (by decide +kernel) (by decide +kernel) (by decide +kernel) ⟨_, rfl, ?_⟩⟩
    refine ⟨s, N, es, L, [], es, a, 0, 1, A, _, _, rfl, st, rfl, hn, hA, .f, .t, wA, .lf, .lf, by omega, by omega, fun H' M r T f l st' a i => q H' M r T f (by omega) (st'.more (by omega)) a i.1 fun ρ => ?_⟩
    rw [i.2]
    cases A.ev ρ <;> rfl
theorem ok_diff {n : Nat} {f C : Addr} {fd : FuncData} (F : Fun K "differs" "Diagrams.differs" s_Diagrams_differs f fd) (M : Mg mg) (G : DgC K C mg) (c_Diagrams_combine : ClM P w K mg base (n + 2) C "combine" (sp_comb C K n)) (c_Diagrams_negation : ClM P w K mg base (n + 3) C "negation" (sp_neg C K n)) : FnOk P w K mg base CX0 (n + 4) f fd ["self", "first", "second"] (sp_op2 C K n bne) := by
  refine F.ok sc_Diagrams_differs (fun vs H Q E h => ?_) (fun cdv A outer s H vs Q E hr h => ?_)
  · obtain ⟨s, N, es, L, a, b, A, B, rfl, _⟩ := h
    rfl
  · obtain ⟨s, N, es, L, a, b, A, B, rfl, st, hn, hA, hB, wA, wB, z1, z2, q⟩ := h
    have ob := opB_ge es
    refine ⟨_, (pss_one (ps_ret (pe_mt c_Diagrams_combine hr (by first | decide | omega) (pv 0) (pa_cons (pv 1) (pa_cons (pe_mt c_Diagrams_negation hr (by first | decide | omega) (pv 0) (pa_cons (pv 2) pa_nil)) (pa_cons (pv 2) pa_nil)))))), ?_⟩
    refine ⟨_, rfl, st.go (by decide +kernel) (by decide +kernel) (by decide +kernel) ⟨_, rfl, ?_⟩⟩
    refine ⟨_, rfl, st.go (by decide +kernel) (by decide +kernel) (by decide +kernel) ⟨_, rfl, ?_⟩⟩
    refine ⟨s, N, es, L, b, B, rfl, st, hn, hB, wB, by omega, by omega, fun H1 M1 r1 T1 f1 l1 st1 a1 w1 v1 => ?_⟩
    refine ⟨_, rfl, ?_⟩
    refine ⟨s, N ++ M1, es, _, [], es, a, r1, b, A, T1, B, rfl, st1, rfl, hn, hA.mono, a1, hB.mono, wA, w1, wB, by rw [List.length_append]; omega, by omega, fun H2 M2 r2 T2 f2 l2 st2 a2 i2 => ?_⟩
    rw [List.append_assoc] at st2 a2
    refine q H2 (M1 ++ M2) r2 T2 (f1.trans f2) (by rw [List.length_append]; omega) (st2.more (by omega)) a2 i2.1 fun ρ => ?_
    rw [i2.2, v1]
    cases A.ev ρ <;> cases B.ev ρ <;> rfl
theorem ok_dinit {f C : Addr} {fd : FuncData} (F : Fun K "__init__" "Diagrams.__init__" s_Diagrams___init__ f fd) (G : DgC K C mg) : FnOk P w K mg base CX0 1 f fd ["self"] (sp_dinit C K) := by
  refine F.ok sc_Diagrams___init__ (fun vs H Q E h => ?_) (fun cdv A outer s H vs Q E hr h => ?_)
  · obtain ⟨p, dx, rfl, _⟩ := h
    rfl
  · obtain ⟨p, dx, rfl, hp, q⟩ := h
    refine ⟨_, (pss_cons (ps_fld (pv 0) (pe_lst pa_nil) rfl)
      (pss_cons (ps_fld (pv 0) pe_dnewT rfl)
      (pss_one (ps_fld (pv 0) pe_dnewT rfl)))), ?_⟩
    refine ⟨by show 0 ≤ sizeLine; decide, fun k nk => ?_⟩
    have npk : p ≠ k := ne_of_none hp nk
    have e1 : (upd H k (.lst [])) p = some (.ins C dx []) := by rw [upd_ne npk]; exact hp
    refine ⟨_, rfl, p, C, dx, [], rfl, e1, G.cl, G.nK, by show 0 < 1000; decide, ?_⟩
    have f1 : Fd p H (upd (upd H k (.lst [])) p (.ins C dx (putF "kept" (.ref k) []))) := Fd.trans (Fd.new nk) Fd.at
    have ek1 : (upd (upd H k (.lst [])) p (.ins C dx (putF "kept" (.ref k) []))) k = some (.lst []) := by rw [upd_ne npk.symm, upd_same]
    have ep1 : (upd (upd H k (.lst [])) p (.ins C dx (putF "kept" (.ref k) []))) p = some (.ins C dx (putF "kept" (.ref k) [])) := upd_same
    generalize upd (upd H k (.lst [])) p (.ins C dx (putF "kept" (.ref k) [])) = H1 at f1 ek1 ep1
    intro u nu
    have npu : p ≠ u := ne_of_none ep1 nu
    have hu0 : H u = none := by
      cases e : H u with
      | none => rfl
      | some o => exact absurd (f1 u o npu.symm e) (by rw [nu]; exact fun z => nomatch z)
    have nku : k ≠ u := ne_of_none ek1 nu
    have e2 : (upd H1 u (.dT [])) p = some (.ins C dx (putF "kept" (.ref k) [])) := by rw [upd_ne npu]; exact ep1
    refine ⟨_, rfl, p, C, dx, _, rfl, e2, G.cl, G.nN, by show 1 < 1000; decide, ?_⟩
    have f2 : Fd p H1 (upd (upd H1 u (.dT [])) p (.ins C dx (putF "numbers" (.ref u) (putF "kept" (.ref k) [])))) := Fd.trans (Fd.new nu) Fd.at
    have eu2 : (upd (upd H1 u (.dT [])) p (.ins C dx (putF "numbers" (.ref u) (putF "kept" (.ref k) [])))) u = some (.dT []) := by rw [upd_ne npu.symm, upd_same]
    have ep2 : (upd (upd H1 u (.dT [])) p (.ins C dx (putF "numbers" (.ref u) (putF "kept" (.ref k) [])))) p = some (.ins C dx (putF "numbers" (.ref u) (putF "kept" (.ref k) []))) := upd_same
    generalize upd (upd H1 u (.dT [])) p (.ins C dx (putF "numbers" (.ref u) (putF "kept" (.ref k) []))) = H2 at f2 eu2 ep2
    intro m nm
    have npm : p ≠ m := ne_of_none ep2 nm
    have f12 := f1.trans f2
    have hm0 : H m = none := by
      cases e : H m with
      | none => rfl
      | some o => exact absurd (f12 m o npm.symm e) (by rw [nm]; exact fun z => nomatch z)
    have num : u ≠ m := ne_of_none eu2 nm
    have ek2 := f2 k _ npk.symm ek1
    have e3 : (upd H2 m (.dT [])) p = some (.ins C dx (putF "numbers" (.ref u) (putF "kept" (.ref k) []))) := by rw [upd_ne npm]; exact ep2
    refine ⟨_, rfl, p, C, dx, _, rfl, e3, G.cl, G.nM, by show 2 < 1000; decide, ?_⟩
    have f3 : Fd p H2 (upd (upd H2 m (.dT [])) p (.ins C dx (putF "combined" (.ref m) (putF "numbers" (.ref u) (putF "kept" (.ref k) []))))) := Fd.trans (Fd.new nm) Fd.at
    have em3 : (upd (upd H2 m (.dT [])) p (.ins C dx (putF "combined" (.ref m) (putF "numbers" (.ref u) (putF "kept" (.ref k) []))))) m = some (.dT []) := by rw [upd_ne npm.symm, upd_same]
    refine q _ ⟨p, k, u, m⟩ rfl (f12.trans f3) nk hu0 hm0 fun es hes => ⟨⟨dx, ?_⟩, ⟨[], f3 _ _ npk.symm ek2, .nil⟩, ⟨[], f3 _ _ npu.symm eu2, Nat.le_refl _, ⟨fun _ _ _ _ => List.not_mem_nil, fun _ _ _ _ h => nomatch (show none = some _ from h)⟩⟩, ⟨[], em3, Nat.le_refl _, fun _ _ _ _ h => nomatch (show none = some _ from h)⟩, List.nodup_nil, num, hes⟩
    rw [upd_same]
    exact congrArg (fun z => some (HO.ins C dx z)) (sf_mk ⟨p, k, u, m⟩)
end

theorem wne (a b : String) (h : (Str.ofString a == Str.ofString b) = false) : decide (V.str (Str.ofString a) = V.str (Str.ofString b)) = false := by
  refine decide_eq_false fun e => ?_
  rw [V.str.inj e] at h
  have : (Str.ofString b == Str.ofString b) = true := beq_self_eq_true _
  rw [this] at h
  cases h
theorem weq (a : Str) : decide (V.str a = V.str a) = true := decide_eq_true rfl
section
variable {K : PySem.W.Frag}
/-- a tuple's word and the rest -/
theorem dp_tup {H : Hp} {p : V} {ds : List PyData} (h : Dp K H p (.tuple ds)) : ∃ a xs, p = .ref a ∧ SqT K H a xs ∧ DpAll K H xs ds := by
  cases h with
  | tup hs ha => exact ⟨_, _, rfl, hs, ha⟩
theorem dp_two {H : Hp} {xs : List V} {s : Str} {d : PyData} (h : DpAll K H xs [.str s, d]) : ∃ v, xs = [.str s, v] ∧ Dp K H v d := by
  cases h with
  | cons h1 h2 =>
    cases h1
    cases h2 with
    | cons h3 h4 =>
      cases h4
      exact ⟨_, rfl, h3⟩
theorem dp_three {H : Hp} {xs : List V} {s : Str} {d e : PyData} (h : DpAll K H xs [.str s, d, e]) : ∃ v u, xs = [.str s, v, u] ∧ Dp K H v d ∧ Dp K H u e := by
  cases h with
  | cons h1 h2 =>
    cases h1
    cases h2 with
    | cons h3 h4 =>
      cases h4 with
      | cons h5 h6 =>
        cases h6
        exact ⟨_, _, rfl, h3, h5⟩
end

/-! ### the laws' input rows and conditions -/
inductive Bo where
  | and | or | df
def Bo.s : Bo → String
  | .and => "and" | .or => "or" | .df => "differ"
def Bo.f : Bo → Bool → Bool → Bool
  | .and => Bool.and | .or => Bool.or | .df => bne
inductive Tr where
  | con (b : Bool)
  | ther (e : Int)
  | nt (a : Tr)
  | bin (o : Bo) (a b : Tr)
def Tr.d : Tr → PyData
  | .con b => .tuple [.str "constant", .int (if b = true then 1 else 0)]
  | .ther e => .tuple [.str "there", .int e]
  | .nt a => .tuple [.str "not", a.d]
  | .bin o a b => .tuple [.str (Str.ofString o.s), a.d, b.d]
def Tr.ht : Tr → Nat
  | .nt a => a.ht + 1
  | .bin _ a b => max a.ht b.ht + 1
  | _ => 0
def Tr.sz : Tr → Nat
  | .nt a => a.sz + 1
  | .bin _ a b => a.sz + b.sz + 1
  | _ => 1
def Tr.ok (es : List Int) : Tr → Prop
  | .con _ => True
  | .ther e => e ∈ es
  | .nt a => a.ok es
  | .bin _ a b => a.ok es ∧ b.ok es
def Tr.ev : Tr → (Int → Bool) → Bool
  | .con b, _ => b
  | .ther e, r => r e
  | .nt a, r => !(a.ev r)
  | .bin o a b, r => o.f (a.ev r) (b.ev r)
theorem tr_only : ∀ t : Tr, tupOnly t.d = true
  | .con _ => rfl
  | .ther _ => rfl
  | .nt a => by simp [Tr.d, tupOnly, tupOnlys, tr_only a]
  | .bin _ a b => by simp [Tr.d, tupOnly, tupOnlys, tr_only a, tr_only b]
theorem tr_sz : ∀ t : Tr, t.sz + 1 ≤ 2 ^ (t.ht + 1)
  | .con _ => Nat.le_refl _
  | .ther _ => Nat.le_refl _
  | .nt a => by
    have := tr_sz a
    show a.sz + 1 + 1 ≤ 2 ^ (a.ht + 1 + 1)
    rw [Nat.pow_succ]
    have : 1 ≤ 2 ^ (a.ht + 1) := Nat.one_le_two_pow
    omega
  | .bin _ a b => by
    have h1 := Nat.le_trans (tr_sz a) (Nat.pow_le_pow_right (by decide) (show a.ht + 1 ≤ max a.ht b.ht + 1 by omega))
    have h2 := Nat.le_trans (tr_sz b) (Nat.pow_le_pow_right (by decide) (show b.ht + 1 ≤ max a.ht b.ht + 1 by omega))
    show a.sz + b.sz + 1 + 1 ≤ 2 ^ (max a.ht b.ht + 1 + 1)
    rw [Nat.pow_succ]
    omega
/-- it goes by the input rows of the list alone -/
theorem tr_agree {es : List Int} : ∀ {t : Tr} {r q : Int → Bool}, t.ok es → (∀ e ∈ es, r e = q e) → t.ev r = t.ev q
  | .con _, _, _, _, _ => rfl
  | .ther e, _, _, h, g => g e h
  | .nt a, r, q, h, g => congrArg not (tr_agree (t := a) h g)
  | .bin o a b, r, q, h, g => by
    show o.f _ _ = o.f _ _
    rw [tr_agree (t := a) h.1 g, tr_agree (t := b) h.2 g]
theorem wf_agree {es : List Int} {a : Bd} (h : Wf es a) : ∀ {r q : Int → Bool}, (∀ e ∈ es, r e = q e) → a.ev r = a.ev q := by
  induction h with
  | lf => intros; rfl
  | @here x es w t _ _ _ iw it =>
    intro r q g
    have gx := g x List.mem_cons_self
    have g' := fun e he => g e (List.mem_cons_of_mem _ he)
    show (if r x = true then t.ev r else w.ev r) = if q x = true then t.ev q else w.ev q
    rw [gx, iw g', it g']
  | skip _ ih =>
    intro r q g
    exact ih fun e he => g e (List.mem_cons_of_mem _ he)
/-- the input rows: a few, ascending -/
def EnA (H : Hp) (a d c : Addr) (es : List Int) (most : Nat) : Prop := a ≠ d ∧ a ≠ c ∧ H a = some (.lst (es.map V.int)) ∧ es.Pairwise (· < ·) ∧ 1 ≤ es.length ∧ es.length ≤ most ∧ ∀ e ∈ es, 0 ≤ e ∧ e < 1000
theorem EnA.fd {H H' : Hp} {a d c : Addr} {es : List Int} {most : Nat} (f : Fd d H H') (h : EnA H a d c es most) : EnA H' a d c es most := ⟨h.1, h.2.1, f _ _ h.1 h.2.2.1, h.2.2.2⟩
def sp_ents (most : Nat) : Sp := fun vs H Q _ => ∃ (d c : Addr), vs = [.ref d, .int (most : Nat)] ∧ 1 ≤ most ∧ most ≤ 6 ∧ Dr H d c ∧ ∀ H' a es, Fd d H H' → Dr H' d c → H a = none → EnA H' a d c es most → Q (.ref a) H'
def sp_ltr (K : PySem.W.Frag) (n : Nat) : Sp := fun vs H Q _ => ∃ (d c a : Addr) (es : List Int) (most m : Nat), vs = [.ref d, .ref a, .int (m : Nat)] ∧ m < n ∧ Dr H d c ∧ EnA H a d c es most ∧ most ≤ 8 ∧ ∀ H' p (t : Tr), Fd d H H' → Dr H' d c → t.ok es → t.ht ≤ m → Dp K H' p t.d → Q p H'
section
variable {P : Program} {w : World} {K : PySem.W.Frag} {mg : Str → Option Value} {base : Heap}
theorem ok_ents {f : Addr} {fd : FuncData} (most : Nat) (F : Fun K "_law_entries" "_law_entries" s__law_entries f fd) (M : Mg mg) (c__law_next : Cl P w K mg base 1 "_law_next" sp_next) : FnOk P w K mg base CX0 2 f fd ["draw", "most"] (sp_ents most) := by
  refine F.ok sc__law_entries (fun vs H Q E h => ?_) (fun cdv A outer s H vs Q E hr h => ?_)
  · obtain ⟨d, c, rfl, _⟩ := h
    rfl
  · obtain ⟨d, c, rfl, hm1, hm2, dr, q⟩ := h
    refine ⟨_, (pss_cons (ps_set (i := 2) sc__law_entries.nd rfl (.inl rfl) (pe_lst pa_nil))
      (pss_cons (ps_set (i := 3) sc__law_entries.nd rfl (.inl rfl) (pe_u c__law_next hr (by first | decide | omega) (by rfl) (pa_cons (pv 0) (pa_cons pe_int pa_nil))))
      (pss_cons (ps_for PassesOwn.never rfl (pi_range1 (by rfl) M.range (pa_cons (pe_op op_add pe_int (pe_u c__law_next hr (by first | decide | omega) (by rfl) (pa_cons (pv 0) (pa_cons (pv 1) pa_nil)))) pa_nil)) (pg_name (i := 4) sc__law_entries.nd rfl (.inl rfl)) (pss_cons (ps_expr (pe_bmK K PySem.F.plainAttrs_list PySem.F.slot_list_append PySem.F.type_list_append mt_append (pv 2) (pa_cons (pv 3) pa_nil)))
      (pss_one (ps_set (i := 3) sc__law_entries.nd rfl (.inl rfl) (pe_op op_add (pe_op op_add (pv 3) pe_int) (pe_op op_mul (pe_u c__law_next hr (by first | decide | omega) (by rfl) (pa_cons (pv 0) (pa_cons pe_int pa_nil))) (pe_u c__law_next hr (by first | decide | omega) (by rfl) (pa_cons (pv 0) (pa_cons pe_int pa_nil)))))))))
      (pss_one (ps_ret (pv 2)))))), ?_⟩
    refine ⟨by show 0 ≤ sizeLine; decide, fun a na => ?_⟩
    have nad := dr.nd na
    have nac := dr.nc na
    have dr1 := dr.ext (same_upd na (o := .lst []))
    refine ⟨_, rfl, d, c, 3, rfl, dr1, by decide, by decide, fun H2 r f2 _ dr2 r0 r1 => ?_⟩
    refine ⟨_, rfl, _, rfl, d, c, (most : Nat), rfl, dr2, by omega, by omega, fun H3 z f3 _ dr3 z0 z1 => ?_⟩
    refine ⟨_, _, rfl, rfl, _, rfl, by omega, by omega, ?_⟩
    have ea3 : H3 a = some (.lst (([] : List Int).map V.int)) := f3 _ _ nad (f2 _ _ nad upd_same)
    refine for_range (lo := 0) (n := (1 + z).toNat) (fun i σ Hi => Fd d H Hi ∧ Dr Hi d c ∧ ∃ (es : List Int) (last : Int) (y : Option V), σ = [some (.ref d), some (.int (most : Nat)), some (.ref a), some (.int last), y] ∧ Hi a = some (.lst (es.map V.int)) ∧ es.length = i ∧ es.Pairwise (· < ·) ∧ (∀ e ∈ es, 0 ≤ e ∧ e < last) ∧ 0 ≤ last ∧ last ≤ 2 + 100 * i) ⟨((Fd.new na).trans f2).trans f3, dr3, [], r, none, rfl, ea3, rfl, .nil, (fun _ h => by cases h), r0, by omega⟩ (fun i σ Hi hi hp => ?_) (fun σ Hn hp => ?_)
    · obtain ⟨fi, di, es, last, y, rfl, ea, el, ep, eb, l0, l1⟩ := hp
      refine ⟨_, rfl, .inl ⟨rfl, _, .inl (.inl ea)⟩, _, rfl, a, _, _, rfl, rfl, ea, by rw [List.length_map, el]; exact Nat.lt_of_lt_of_le (m := 100) (by omega) (by decide), ?_⟩
      have di2 := di.upd nad nac (o := .lst (es.map V.int ++ [.int last]))
      refine ⟨_, rfl, _, _, rfl, rfl, _, rfl, d, c, 2, rfl, di2, by decide, by decide, fun H5 r5 f5 _ dr5 r50 r51 => ?_⟩
      refine ⟨_, rfl, d, c, 90, rfl, dr5, by decide, by decide, fun H6 r6 f6 _ dr6 r60 r61 => ?_⟩
      refine ⟨_, _, rfl, rfl, .inl ⟨by omega, by omega⟩, _, _, rfl, rfl, ?_⟩
      have hmul : 0 ≤ r5 * r6 ∧ r5 * r6 ≤ 89 := by
        have : r5 = 0 ∨ r5 = 1 := by omega
        rcases this with rfl | rfl
        · simp
        · rw [Int.one_mul]; omega
      refine ⟨?_, dr6, es ++ [last], _, _, rfl, ?_, ?_, ?_, ?_, by omega, by omega⟩
      · intro b o nb e
        refine f6 _ _ nb (f5 _ _ nb ?_)
        rw [upd_ne (ne_of_none e na)]
        exact fi _ _ nb e
      · rw [f6 _ _ nad (f5 _ _ nad upd_same), List.map_append]
        rfl
      · rw [List.length_append, el]
        rfl
      · rw [List.pairwise_append]
        exact ⟨ep, List.pairwise_singleton _ _, fun x hx y hy => by rw [List.mem_singleton.mp hy]; exact (eb x hx).2⟩
      · intro e he
        rcases List.mem_append.mp he with he | he
        · have := eb e he
          omega
        · rw [List.mem_singleton.mp he]
          omega
    · obtain ⟨fi, di, es, last, y, rfl, ea, el, ep, eb, l0, l1⟩ := hp
      refine ⟨_, rfl, q Hn a es fi di na ⟨nad, nac, ea, ep, by omega, by omega, fun e he => ?_⟩⟩
      have := eb e he
      omega
theorem ok_ltr {f : Addr} {fd : FuncData} (n : Nat) (F : Fun K "_law_tree" "_law_tree" s__law_tree f fd) (M : Mg mg) (c__law_next : Cl P w K mg base 1 "_law_next" sp_next) (c__law_tree : Cl P w K mg base (n + 1) "_law_tree" (sp_ltr K n)) : FnOk P w K mg base CX0 (n + 2) f fd ["draw", "entries", "depth"] (sp_ltr K (n + 1)) := by
  refine F.ok sc__law_tree (fun vs H Q E h => ?_) (fun cdv A outer s H vs Q E hr h => ?_)
  · obtain ⟨d, c, a, es, most, m, rfl, _⟩ := h
    rfl
  · obtain ⟨d, c, a, es, most, m, rfl, hm, dr, en, hmo, q⟩ := h
    refine ⟨_, (pss_cons (ps_set (i := 3) sc__law_tree.nd rfl (.inl rfl) (pe_u c__law_next hr (by first | decide | omega) (by rfl) (pa_cons (pv 0) (pa_cons pe_int pa_nil))))
      (pss_cons (ps_if (PW.pt (pw_or (pt_cmpR op_eq (pv 2) pe_int (nomark _)) (pw_or1 (pt_cmpR op_lt (pv 3) pe_int (nomark _))))) (pss_cons (ps_if (pt_cmpR op_eq (pe_u c__law_next hr (by first | decide | omega) (by rfl) (pa_cons (pv 0) (pa_cons pe_int pa_nil))) pe_int (nomark _)) (pss_one (ps_ret (pe_tup (pa_cons pe_str (pa_cons (pe_u c__law_next hr (by first | decide | omega) (by rfl) (pa_cons (pv 0) (pa_cons pe_int pa_nil))) pa_nil))))) pss_nil)
      (pss_one (ps_ret (pe_tup (pa_cons pe_str (pa_cons (pe_ix (ix_listK K) (pv 1) (pe_u c__law_next hr (by first | decide | omega) (by rfl) (pa_cons (pv 0) (pa_cons (pe_callB (len_seqK K) (by rfl) M.len PySem.boot_len (pa_cons (pv 1) pa_nil)) pa_nil))) (fun _ _ => rfl)) pa_nil)))))) pss_nil)
      (pss_cons (ps_if (pt_cmpR op_eq (pv 3) pe_int (nomark _)) (pss_one (ps_ret (pe_tup (pa_cons pe_str (pa_cons (pe_u c__law_tree hr (by first | decide | omega) (by rfl) (pa_cons (pv 0) (pa_cons (pv 1) (pa_cons (pe_op op_sub (pv 2) pe_int) pa_nil)))) pa_nil))))) pss_nil)
      (pss_cons (ps_set (i := 4) sc__law_tree.nd rfl (.inl rfl) (pe_u c__law_tree hr (by first | decide | omega) (by rfl) (pa_cons (pv 0) (pa_cons (pv 1) (pa_cons (pe_op op_sub (pv 2) pe_int) pa_nil)))))
      (pss_one (ps_ret (pe_tup (pa_cons (pe_ix (ix_listK K) (pe_lst (pa_cons pe_str (pa_cons pe_str (pa_cons pe_str pa_nil)))) (pe_op op_mod (pv 3) pe_int) (fun _ _ => rfl)) (pa_cons (pv 4) (pa_cons (pe_u c__law_tree hr (by first | decide | omega) (by rfl) (pa_cons (pv 0) (pa_cons (pv 1) (pa_cons (pe_op op_sub (pv 2) pe_int) pa_nil)))) pa_nil)))))))))), ?_⟩
    refine ⟨_, rfl, d, c, 9, rfl, dr, by decide, by decide, fun H1 r f1 _ dr1 r0 r1 => ?_⟩
    have en1 := en.fd f1
    by_cases hd : m = 0 ∨ r < 2
    · refine ⟨_, rfl, rfl, _, rfl, ?_⟩
      refine ite2 (fun e => iteT ?_) (fun e => ⟨_, rfl, _, _, rfl, rfl, _, rfl, ?x⟩)
      case' x =>
        rw [decide_eq_true (show r < 2 by
          rcases hd with rfl | h
          · exact absurd (decide_eq_true rfl) e
          · exact h)]
        refine iteT ?_
      all_goals
        refine ⟨_, rfl, d, c, 12, rfl, dr1, by decide, by decide, fun H2 r2 f2 _ dr2 r20 r21 => ?_⟩
        have en2 := en1.fd f2
        refine ⟨rfl, _, rfl, ite2 (fun e => ?_) (fun e => ?_)⟩
        · refine ⟨_, rfl, d, c, 2, rfl, dr2, by decide, by decide, fun H3 r3 f3 _ dr3 r30 r31 => ?_⟩
          refine ⟨by show 2 ≤ sizeLine; decide, fun p np => ?_⟩
          obtain ⟨b, rfl⟩ : ∃ b : Bool, r3 = if b = true then 1 else 0 := by
            by_cases h : r3 = 1
            · exact ⟨true, h⟩
            · exact ⟨false, by show r3 = 0; omega⟩
          exact q _ _ (.con b) (((f1.trans f2).trans f3).trans (Fd.new np)) (dr3.ext (same_upd np)) trivial (Nat.zero_le _) (.tup (.inl (.inl upd_same)) (.cons (.str _) (.cons (.int _) .nil)))
        · refine ⟨_, rfl, _, rfl, _, rfl, a, _, rfl, .inl (.of en2.2.2.1), ?_⟩
          rw [List.length_map]
          have l1 := en2.2.2.2.2.1
          have l2 := en2.2.2.2.2.2.1
          refine ⟨d, c, _, rfl, dr2, by omega, by omega, fun H3 r3 f3 _ dr3 r30 r31 => ?_⟩
          obtain ⟨k3, rfl⟩ := Int.eq_ofNat_of_zero_le r30
          have hk3 : k3 < es.length := by omega
          have en3 := en2.fd f3
          refine ⟨a, _, _, .int es[k3], rfl, rfl, .of en3.2.2.1, atI_nat (by rw [List.getElem?_map, List.getElem?_eq_getElem hk3]; rfl), ?_⟩
          refine ⟨by show 2 ≤ sizeLine; decide, fun p np => ?_⟩
          exact q _ _ (.ther es[k3]) (((f1.trans f2).trans f3).trans (Fd.new np)) (dr3.ext (same_upd np)) (List.getElem_mem hk3) (Nat.zero_le _) (.tup (.inl (.inl upd_same)) (.cons (.str _) (.cons (.int _) .nil)))
    · obtain ⟨k, rfl⟩ : ∃ k, m = k + 1 := ⟨m - 1, by omega⟩
      have dec : [V.ref d, V.ref a, V.int (((k + 1 : Nat) : Int) - 1)] = [V.ref d, V.ref a, V.int (k : Nat)] := by rw [show (((k + 1 : Nat) : Int) - 1) = (k : Nat) by omega]
      refine ⟨_, rfl, rfl, _, rfl, ?_⟩
      rw [show decide (V.int ((k + 1 : Nat) : Int) = V.int 0) = false from decide_eq_false fun z => by have := V.int.inj z; omega]
      refine iteF ⟨_, rfl, _, _, rfl, rfl, _, rfl, ?_⟩
      rw [decide_eq_false (show ¬ r < 2 by omega)]
      refine iteF ?_
      refine ⟨_, rfl, rfl, _, rfl, ite2 (fun e => ?_) (fun e => ?_)⟩
      · refine ⟨_, rfl, _, rfl, _, rfl, _, _, rfl, rfl, d, c, a, es, most, k, dec, by omega, dr1, en1, hmo, fun H2 p1 t1 f2 dr2 ok1 ht1 dp1 => ?_⟩
        refine ⟨by show 2 ≤ sizeLine; decide, fun p np => ?_⟩
        exact q _ _ (.nt t1) ((f1.trans f2).trans (Fd.new np)) (dr2.ext (same_upd np)) ok1 (by show t1.ht + 1 ≤ k + 1; omega) (.tup (.inl (.inl upd_same)) (.cons (.str _) (.cons (Dp.ext (same_upd np) _ _ dp1) .nil)))
      · refine ⟨_, rfl, _, rfl, _, rfl, _, _, rfl, rfl, d, c, a, es, most, k, dec, by omega, dr1, en1, hmo, fun H2 p1 t1 f2 dr2 ok1 ht1 dp1 => ?_⟩
        refine ⟨by show 3 ≤ sizeLine; decide, fun wp nwp => ?_⟩
        have sw := same_upd nwp (o := .lst [.str "and", .str "or", .str "differ"])
        have ew : (upd H2 wp (.lst [.str "and", .str "or", .str "differ"])) wp = some (.lst [.str "and", .str "or", .str "differ"]) := upd_same
        generalize upd H2 wp (.lst [.str "and", .str "or", .str "differ"]) = H3 at sw ew
        have dr3 := dr2.ext sw
        have en3 := (en1.fd f2).fd (Fd.of sw)
        have dp3 := Dp.ext sw _ _ dp1
        have fin : ∀ (o : Bo), r % 3 = (match o with | .and => 0 | .or => 1 | .df => 2) → atI [V.str "and", V.str "or", V.str "differ"] (r % 3) = some (.str (Str.ofString o.s)) := fun o h => by
          rw [h]
          cases o with
          | and => exact atI_nat (j := 0) rfl
          | or => exact atI_nat (j := 1) rfl
          | df => exact atI_nat (j := 2) rfl
        obtain ⟨o, ho⟩ : ∃ o : Bo, r % 3 = (match o with | .and => 0 | .or => 1 | .df => 2) := by
          have : r % 3 = 0 ∨ r % 3 = 1 ∨ r % 3 = 2 := by omega
          rcases this with h | h | h
          · exact ⟨.and, h⟩
          · exact ⟨.or, h⟩
          · exact ⟨.df, h⟩
        refine ⟨_, rfl, _, _, rfl, rfl, by show (0 : Int) < 3; decide, wp, _, _, _, rfl, rfl, .of ew, fin o ho, ?_⟩
        refine ⟨_, rfl, ?_⟩
        refine ⟨_, rfl, _, rfl, _, rfl, _, _, rfl, rfl, d, c, a, es, most, k, dec, by omega, dr3, en3, hmo, fun H4 p2 t2 f4 dr4 ok2 ht2 dp2 => ?_⟩
        have dp4 := Dp.fd dr3.lst f4 _ _ (tr_only t1) dp3
        refine ⟨by show 3 ≤ sizeLine; decide, fun p np => ?_⟩
        exact q _ _ (.bin o t1 t2) ((((f1.trans f2).trans (Fd.of sw)).trans f4).trans (Fd.new np)) (dr4.ext (same_upd np)) ⟨ok1, ok2⟩ (by show max t1.ht t2.ht + 1 ≤ k + 1; omega) (.tup (.inl (.inl upd_same)) (.cons (.str _) (.cons (Dp.ext (same_upd np) _ _ dp4) (.cons (Dp.ext (same_upd np) _ _ dp2) .nil))))
theorem cl_ltr {f : Addr} {fd : FuncData} (F : Fun K "_law_tree" "_law_tree" s__law_tree f fd) (M : Mg mg) (g : mg "_law_tree" = some (.ref f)) (b : Binds K fd ["draw", "entries", "depth"] []) (c__law_next : Cl P w K mg base 1 "_law_next" sp_next) : ∀ n, Cl P w K mg base (n + 1) "_law_tree" (sp_ltr K n)
  | 0 => FnOk.cl (P := P) (w := w) (base := base) (F.ok sc__law_tree (fun vs H Q E h => by obtain ⟨d, c, a, es, most, m, rfl, _⟩ := h; rfl) (fun cdv A outer s H vs Q E hr h => by obtain ⟨d, c, a, es, most, m, rfl, hm, _⟩ := h; omega)) F g b
  | n + 1 => FnOk.cl (ok_ltr n F M c__law_next (cl_ltr F M g b c__law_next n)) F g b
end

/-! ### the laws' building of conditions, their truth, the sets -/
def sp_build (C : Addr) (K : PySem.W.Frag) (m n : Nat) : Sp := fun vs H Q _ => ∃ s N es L v t, vs = [.ref s.p, v] ∧ Sto C K H s N es L ∧ es.length < m ∧ Tr.ok es t ∧ Tr.ht t < n ∧ Dp K H v t.d ∧ N.length + t.sz * opB es < sizeLine ∧ L + t.sz * opB es < sizeLine ∧
  ∀ H' M r T, FdS s H H' → M.length ≤ t.sz * opB es → Sto C K H' s (N ++ M) es (L + t.sz * opB es) → At (N ++ M) r T → Wf es T → (∀ ρ, T.ev ρ = t.ev ρ) → Q (.int ((r : Nat) : Int)) H'
def sp_true (K : PySem.W.Frag) (n : Nat) : Sp := fun vs H Q _ => ∃ v a t, ∃ ps : List Int, vs = [v, .ref a] ∧ Dp K H v (Tr.d t) ∧ SqL K H a (ps.map V.int) ∧ t.ht < n ∧ Q (.bl (t.ev fun e => decide (e ∈ ps))) H
/-- all sets of input rows, in the law's order -/
def subs (es : List Int) : List (List Int) := es.foldl (fun f e => f ++ f.map (· ++ [e])) [[]]
theorem subs_snoc (es : List Int) (e : Int) : subs (es ++ [e]) = subs es ++ (subs es).map (· ++ [e]) := by
  unfold subs
  rw [List.foldl_append]
  rfl
theorem subs_len (es : List Int) : (subs es).length = 2 ^ es.length := by
  have h : ∀ (es : List Int) (f : List (List Int)), (es.foldl (fun f e => f ++ f.map (· ++ [e])) f).length = f.length * 2 ^ es.length := by
    intro es
    induction es with
    | nil => intro f; simp
    | cons e es ih =>
      intro f
      rw [List.foldl_cons, ih, List.length_append, List.length_map, List.length_cons, Nat.pow_succ, ← Nat.two_mul, Nat.mul_comm 2 f.length, Nat.mul_assoc, Nat.mul_comm 2]
  rw [subs, h]
  simp
theorem subs_le (es : List Int) : ∀ p ∈ subs es, p.length ≤ es.length ∧ ∀ e ∈ p, e ∈ es := by
  have h : ∀ (es all : List Int) (f : List (List Int)) (k : Nat), (∀ e ∈ es, e ∈ all) → (∀ p ∈ f, p.length ≤ k ∧ ∀ e ∈ p, e ∈ all) → ∀ p ∈ es.foldl (fun f e => f ++ f.map (· ++ [e])) f, p.length ≤ k + es.length ∧ ∀ e ∈ p, e ∈ all := by
    intro es all
    induction es with
    | nil => intro f k _ h; exact h
    | cons e es ih =>
      intro f k ha h p hp
      rw [List.foldl_cons] at hp
      have := ih _ (k + 1) (fun x hx => ha x (List.mem_cons_of_mem _ hx)) (fun q hq => by
        rcases List.mem_append.mp hq with hq | hq
        · have := h q hq
          exact ⟨by omega, this.2⟩
        · obtain ⟨q', hq', rfl⟩ := List.mem_map.mp hq
          have := h q' hq'
          refine ⟨by rw [List.length_append]; exact Nat.add_le_add_right this.1 1, fun x hx => ?_⟩
          rcases List.mem_append.mp hx with hx | hx
          · exact this.2 x hx
          · rw [List.mem_singleton.mp hx]
            exact ha e List.mem_cons_self) p hp
      rw [List.length_cons]
      exact ⟨by omega, this.2⟩
  intro p hp
  have := h es es [[]] 0 (fun _ h => h) (fun p hp => by rw [List.mem_singleton.mp hp]; exact ⟨Nat.le_refl _, fun _ h => by cases h⟩) p hp
  rw [Nat.zero_add] at this
  exact this
/-- a list of lists of numbers -/
def LL (H : Hp) (p : Addr) (ls : List (List Int)) : Prop := ∃ as : List Addr, H p = some (.lst (as.map V.ref)) ∧ as.length = ls.length ∧ ∀ (i : Nat) b l, as[i]? = some b → ls[i]? = some l → H b = some (.lst (l.map V.int))
theorem LL.ext {H H' : Hp} {p : Addr} {ls : List (List Int)} (e : Same H H') (h : LL H p ls) : LL H' p ls := by
  obtain ⟨as, h1, h2, h3⟩ := h
  exact ⟨as, e _ _ h1, h2, fun i b l g1 g2 => e _ _ (h3 i b l g1 g2)⟩
theorem LL.get {H : Hp} {p : Addr} {ls : List (List Int)} (h : LL H p ls) : ∃ as : List Addr, H p = some (.lst (as.map V.ref)) ∧ as.length = ls.length ∧ ∀ (i : Nat) v, (as.map V.ref)[i]? = some v → ∃ b l, v = .ref b ∧ ls[i]? = some l ∧ H b = some (.lst (l.map V.int)) := by
  obtain ⟨as, h1, h2, h3⟩ := h
  refine ⟨as, h1, h2, fun i v hv => ?_⟩
  rw [List.getElem?_map] at hv
  obtain ⟨b, hb, rfl⟩ := Option.map_eq_some_iff.mp hv
  have hi : i < ls.length := by rw [← h2]; exact (List.getElem?_eq_some_iff.mp hb).1
  exact ⟨b, ls[i], rfl, List.getElem?_eq_getElem hi, h3 i b _ hb (List.getElem?_eq_getElem hi)⟩
def sp_subs : Sp := fun vs H Q _ => ∃ a, ∃ es : List Int, vs = [.ref a] ∧ H a = some (.lst (es.map V.int)) ∧ es.length ≤ 10 ∧ ∀ H' p, Same H H' → H p = none → LL H' p (subs es) → Q (.ref p) H'
theorem LL.app {H : Hp} {p q a b : Addr} {ls ms : List (List Int)} {xs ys : List V} (np : H p = none) (h1 : LL H a ls) (h2 : LL H b ms) (e1 : H a = some (.lst xs)) (e2 : H b = some (.lst ys)) : LL (upd H p (.lst (xs ++ ys))) p (ls ++ ms) := by
  obtain ⟨as, g1, g2, g3⟩ := h1
  obtain ⟨bs, k1, k2, k3⟩ := h2
  have ex : xs = as.map V.ref := by rw [g1] at e1; exact (HO.lst.inj (Option.some.inj e1)).symm
  have ey : ys = bs.map V.ref := by rw [k1] at e2; exact (HO.lst.inj (Option.some.inj e2)).symm
  refine ⟨as ++ bs, by rw [upd_same, ex, ey, List.map_append], by rw [List.length_append, List.length_append, g2, k2], fun i c l hc hl => ?_⟩
  refine same_upd np _ _ ?_
  by_cases hi : i < as.length
  · rw [List.getElem?_append_left hi] at hc
    rw [List.getElem?_append_left (by omega)] at hl
    exact g3 i c l hc hl
  · rw [List.getElem?_append_right (by omega)] at hc
    rw [List.getElem?_append_right (by omega), ← g2] at hl
    exact k3 _ c l hc hl
theorem Wf.one {es : List Int} {x : Int} (h : x ∈ es) : Wf es (.nd x (.lf false) (.lf true)) := by
  obtain ⟨pre, post, rfl⟩ := List.append_of_mem h
  exact (Wf.here .lf .lf (fun z => by cases z)).skips pre
section
variable {P : Program} {w : World} {K : PySem.W.Frag} {mg : Str → Option Value} {base : Heap}
theorem ok_true (n : Nat) {f : Addr} {fd : FuncData} (F : Fun K "_law_true" "_law_true" s__law_true f fd) (M : Mg mg) (c__law_true : Cl P w K mg base (n + 1) "_law_true" (sp_true K n)) : FnOk P w K mg base CX0 (n + 2) f fd ["tree", "present"] (sp_true K (n + 1)) := by
  refine F.ok sc__law_true (fun vs H Q E h => ?_) (fun cdv A outer s H vs Q E hr h => ?_)
  · obtain ⟨v, a, t, ps, rfl, _⟩ := h
    rfl
  · obtain ⟨v, a, t, ps, rfl, dp, ha, hn, q⟩ := h
    refine ⟨_, (pss_cons (ps_if (pt_cmpR op_eq (pe_ix (ix_tupK K) (pv 0) pe_int (fun _ _ => rfl)) pe_str (nomark _)) (pss_one (ps_ret (pe_cmpR op_eq (pe_ix (ix_tupK K) (pv 0) pe_int (fun _ _ => rfl)) pe_int (nomark _)))) pss_nil)
      (pss_cons (ps_if (pt_cmpR op_eq (pe_ix (ix_tupK K) (pv 0) pe_int (fun _ _ => rfl)) pe_str (nomark _)) (pss_one (ps_ret (pe_cmpR (inK K) (pe_ix (ix_tupK K) (pv 0) pe_int (fun _ _ => rfl)) (pv 1) (by rfl)))) pss_nil)
      (pss_cons (ps_set (i := 2) sc__law_true.nd rfl (.inl rfl) (pe_u c__law_true hr (by first | decide | omega) (by rfl) (pa_cons (pe_ix (ix_tupK K) (pv 0) pe_int (fun _ _ => rfl)) (pa_cons (pv 1) pa_nil))))
      (pss_cons (ps_if (pt_cmpR op_eq (pe_ix (ix_tupK K) (pv 0) pe_int (fun _ _ => rfl)) pe_str (nomark _)) (pss_one (ps_ret (pe_not (pv 2)))) pss_nil)
      (pss_cons (ps_set (i := 3) sc__law_true.nd rfl (.inl rfl) (pe_u c__law_true hr (by first | decide | omega) (by rfl) (pa_cons (pe_ix (ix_tupK K) (pv 0) pe_int (fun _ _ => rfl)) (pa_cons (pv 1) pa_nil))))
      (pss_cons (ps_if (pt_cmpR op_eq (pe_ix (ix_tupK K) (pv 0) pe_int (fun _ _ => rfl)) pe_str (nomark _)) (pss_one (ps_ret (pe_and (pv 2) (pe_one (pv 3))))) pss_nil)
      (pss_one (ps_ret (pe_ifExp (pt_cmpR op_eq (pe_ix (ix_tupK K) (pv 0) pe_int (fun _ _ => rfl)) pe_str (nomark _)) (pe_or (pv 2) (pe_one (pv 3))) (pe_cmpR op_ne (pv 2) (pv 3) (nomark _))))))))))), ?_⟩
    cases t with
    | con b =>
      obtain ⟨p, xs, rfl, hs, hx⟩ := dp_tup dp
      obtain ⟨u, rfl, hu⟩ := dp_two hx
      cases hu
      refine ⟨_, rfl, p, _, _, _, rfl, rfl, hs, atI_nat (j := 0) rfl, rfl, _, rfl, ?_⟩
      rw [weq]
      refine iteT ⟨_, rfl, p, _, _, _, rfl, rfl, hs, atI_nat (j := 1) rfl, rfl, ?_⟩
      cases b with
      | true => exact q
      | false => exact q
    | ther e =>
      obtain ⟨p, xs, rfl, hs, hx⟩ := dp_tup dp
      obtain ⟨u, rfl, hu⟩ := dp_two hx
      cases hu
      refine ⟨_, rfl, p, _, _, _, rfl, rfl, hs, atI_nat (j := 0) rfl, rfl, _, rfl, ?_⟩
      rw [wne "there" "constant" (by decide +kernel)]
      refine iteF ⟨_, rfl, p, _, _, _, rfl, rfl, hs, atI_nat (j := 0) rfl, rfl, _, rfl, ?_⟩
      rw [weq]
      refine iteT ⟨_, rfl, p, _, _, _, rfl, rfl, hs, atI_nat (j := 1) rfl, _, rfl, a, _, rfl, .inl ha, rfl, ints_flat ps, ?_⟩
      rw [if_neg Bool.false_ne_true, inV_int]
      exact q
    | nt t1 =>
      obtain ⟨p, xs, rfl, hs, hx⟩ := dp_tup dp
      obtain ⟨u, rfl, hu⟩ := dp_two hx
      have hn : t1.ht + 1 < n + 1 := hn
      refine ⟨_, rfl, p, _, _, _, rfl, rfl, hs, atI_nat (j := 0) rfl, rfl, _, rfl, ?_⟩
      rw [wne "not" "constant" (by decide +kernel)]
      refine iteF ⟨_, rfl, p, _, _, _, rfl, rfl, hs, atI_nat (j := 0) rfl, rfl, _, rfl, ?_⟩
      rw [wne "not" "there" (by decide +kernel)]
      refine iteF ⟨_, rfl, p, _, _, _, rfl, rfl, hs, atI_nat (j := 1) rfl, _, rfl, u, a, t1, ps, rfl, hu, ha, by omega, ?_⟩
      refine ⟨_, rfl, p, _, _, _, rfl, rfl, hs, atI_nat (j := 0) rfl, rfl, _, rfl, ?_⟩
      rw [weq]
      exact iteT ⟨_, rfl, _, rfl, q⟩
    | bin o t1 t2 =>
      obtain ⟨p, xs, rfl, hs, hx⟩ := dp_tup dp
      obtain ⟨u, u2, rfl, hu, hu2⟩ := dp_three hx
      have hn : max t1.ht t2.ht + 1 < n + 1 := hn
      refine ⟨_, rfl, p, _, _, _, rfl, rfl, hs, atI_nat (j := 0) rfl, rfl, _, rfl, ?_⟩
      rw [wne o.s "constant" (by cases o <;> decide +kernel)]
      refine iteF ⟨_, rfl, p, _, _, _, rfl, rfl, hs, atI_nat (j := 0) rfl, rfl, _, rfl, ?_⟩
      rw [wne o.s "there" (by cases o <;> decide +kernel)]
      refine iteF ⟨_, rfl, p, _, _, _, rfl, rfl, hs, atI_nat (j := 1) rfl, _, rfl, u, a, t1, ps, rfl, hu, ha, by omega, ?_⟩
      refine ⟨_, rfl, p, _, _, _, rfl, rfl, hs, atI_nat (j := 0) rfl, rfl, _, rfl, ?_⟩
      rw [wne o.s "not" (by cases o <;> decide +kernel)]
      refine iteF ⟨_, rfl, p, _, _, _, rfl, rfl, hs, atI_nat (j := 2) rfl, _, rfl, u2, a, t2, ps, rfl, hu2, ha, by omega, ?_⟩
      refine ⟨_, rfl, p, _, _, _, rfl, rfl, hs, atI_nat (j := 0) rfl, rfl, _, rfl, ?_⟩
      cases o with
      | and =>
        rw [show decide (V.str (Str.ofString Bo.and.s) = V.str "and") = true from weq "and"]
        refine iteT ⟨_, rfl, _, rfl, ?_⟩
        have q : Q (.bl ((t1.ev fun e => decide (e ∈ ps)) && (t2.ev fun e => decide (e ∈ ps)))) H := q
        cases e : t1.ev fun e => decide (e ∈ ps) with
        | true =>
          rw [e] at q
          exact iteT ⟨_, rfl, q⟩
        | false =>
          rw [e] at q
          exact iteF q
      | or =>
        rw [show decide (V.str (Str.ofString Bo.or.s) = V.str "and") = false from wne "or" "and" (by decide +kernel)]
        refine iteF ⟨_, rfl, p, _, _, _, rfl, rfl, hs, atI_nat (j := 0) rfl, rfl, _, rfl, ?_⟩
        rw [show decide (V.str (Str.ofString Bo.or.s) = V.str "or") = true from weq "or"]
        refine iteT ⟨_, rfl, _, rfl, ?_⟩
        have q : Q (.bl ((t1.ev fun e => decide (e ∈ ps)) || (t2.ev fun e => decide (e ∈ ps)))) H := q
        cases e : t1.ev fun e => decide (e ∈ ps) with
        | true =>
          rw [e] at q
          exact iteT q
        | false =>
          rw [e] at q
          exact iteF ⟨_, rfl, q⟩
      | df =>
        rw [show decide (V.str (Str.ofString Bo.df.s) = V.str "and") = false from wne "differ" "and" (by decide +kernel)]
        refine iteF ⟨_, rfl, p, _, _, _, rfl, rfl, hs, atI_nat (j := 0) rfl, rfl, _, rfl, ?_⟩
        rw [show decide (V.str (Str.ofString Bo.df.s) = V.str "or") = false from wne "differ" "or" (by decide +kernel)]
        refine iteF ⟨_, rfl, _, rfl, rfl, ?_⟩
        have q : Q (.bl (bne (t1.ev fun e => decide (e ∈ ps)) (t2.ev fun e => decide (e ∈ ps)))) H := q
        cases e : t1.ev fun e => decide (e ∈ ps) <;> cases e2 : t2.ev fun e => decide (e ∈ ps) <;> rw [e, e2] at q <;> exact q
theorem cl_true {f : Addr} {fd : FuncData} (F : Fun K "_law_true" "_law_true" s__law_true f fd) (M : Mg mg) (g : mg "_law_true" = some (.ref f)) (b : Binds K fd ["tree", "present"] []) : ∀ n, Cl P w K mg base (n + 1) "_law_true" (sp_true K n)
  | 0 => FnOk.cl (P := P) (w := w) (base := base) (F.ok sc__law_true (fun vs H Q E h => by obtain ⟨v, a, t, ps, rfl, _⟩ := h; rfl) (fun cdv A outer s H vs Q E hr h => by obtain ⟨v, a, t, ps, rfl, _, _, hm, _⟩ := h; omega)) F g b
  | n + 1 => FnOk.cl (ok_true n F M (cl_true F M g b n)) F g b
set_option maxHeartbeats 4000000 in
theorem ok_build (m n : Nat) {f C : Addr} {fd : FuncData} (F : Fun K "_law_build" "_law_build" s__law_build f fd) (M : Mg mg) (c_Diagrams_there : ClM P w K mg base 2 C "there" (sp_there C K)) (c_Diagrams_conjunction : ClM P w K mg base (m + 3) C "conjunction" (sp_op2 C K m and)) (c_Diagrams_disjunction : ClM P w K mg base (m + 3) C "disjunction" (sp_op2 C K m or)) (c_Diagrams_negation : ClM P w K mg base (m + 3) C "negation" (sp_neg C K m)) (c_Diagrams_differs : ClM P w K mg base (m + 4) C "differs" (sp_op2 C K m bne))
    (c__law_build : Cl P w K mg base (m + 4 + n) "_law_build" (sp_build C K m n)) : FnOk P w K mg base CX0 (m + 4 + n + 1) f fd ["store", "tree"] (sp_build C K m (n + 1)) := by
  refine F.ok sc__law_build (fun vs H Q E h => ?_) (fun cdv A outer s H vs Q E hr h => ?_)
  · obtain ⟨s, N, es, L, v, t, rfl, _⟩ := h
    rfl
  · obtain ⟨s, N, es, L, v, t, rfl, st, hm, ok, hn, dp, z1, z2, q⟩ := h
    have o1 := opB_ge es
    have o2 : 1 ≤ 2 ^ es.length := Nat.one_le_two_pow
    refine ⟨_, (pss_cons (ps_if (pt_cmpR op_eq (pe_ix (ix_tupK K) (pv 1) pe_int (fun _ _ => rfl)) pe_str (nomark _)) (pss_one (ps_ret (pe_ix (ix_tupK K) (pv 1) pe_int (fun _ _ => rfl)))) pss_nil)
      (pss_cons (ps_if (pt_cmpR op_eq (pe_ix (ix_tupK K) (pv 1) pe_int (fun _ _ => rfl)) pe_str (nomark _)) (pss_one (ps_ret (pe_mt c_Diagrams_there hr (by first | decide | omega) (pv 0) (pa_cons (pe_ix (ix_tupK K) (pv 1) pe_int (fun _ _ => rfl)) pa_nil)))) pss_nil)
      (pss_cons (ps_set (i := 2) sc__law_build.nd rfl (.inl rfl) (pe_u c__law_build hr (by first | decide | omega) (by rfl) (pa_cons (pv 0) (pa_cons (pe_ix (ix_tupK K) (pv 1) pe_int (fun _ _ => rfl)) pa_nil))))
      (pss_cons (ps_if (pt_cmpR op_eq (pe_ix (ix_tupK K) (pv 1) pe_int (fun _ _ => rfl)) pe_str (nomark _)) (pss_one (ps_ret (pe_mt c_Diagrams_negation hr (by first | decide | omega) (pv 0) (pa_cons (pv 2) pa_nil)))) pss_nil)
      (pss_cons (ps_set (i := 3) sc__law_build.nd rfl (.inl rfl) (pe_u c__law_build hr (by first | decide | omega) (by rfl) (pa_cons (pv 0) (pa_cons (pe_ix (ix_tupK K) (pv 1) pe_int (fun _ _ => rfl)) pa_nil))))
      (pss_cons (ps_if (pt_cmpR op_eq (pe_ix (ix_tupK K) (pv 1) pe_int (fun _ _ => rfl)) pe_str (nomark _)) (pss_one (ps_ret (pe_mt c_Diagrams_conjunction hr (by first | decide | omega) (pv 0) (pa_cons (pv 2) (pa_cons (pv 3) pa_nil))))) pss_nil)
      (pss_one (ps_ret (pe_ifExp (pt_cmpR op_eq (pe_ix (ix_tupK K) (pv 1) pe_int (fun _ _ => rfl)) pe_str (nomark _)) (pe_mt c_Diagrams_disjunction hr (by first | decide | omega) (pv 0) (pa_cons (pv 2) (pa_cons (pv 3) pa_nil))) (pe_mt c_Diagrams_differs hr (by first | decide | omega) (pv 0) (pa_cons (pv 2) (pa_cons (pv 3) pa_nil)))))))))))), ?_⟩
    cases t with
    | con b =>
      obtain ⟨p, xs, rfl, hs, hx⟩ := dp_tup dp
      obtain ⟨u, rfl, hu⟩ := dp_two hx
      cases hu
      refine ⟨_, rfl, p, _, _, _, rfl, rfl, hs, atI_nat (j := 0) rfl, rfl, _, rfl, ?_⟩
      rw [weq]
      refine iteT ⟨_, rfl, p, _, _, _, rfl, rfl, hs, atI_nat (j := 1) rfl, ?_⟩
      have q := fun r T => q H [] r T (FdS.refl s H) (Nat.zero_le _) (by rw [List.append_nil]; exact st.more (Nat.le_add_right _ _))
      cases b with
      | true => exact q 1 _ .t .lf (fun _ => rfl)
      | false => exact q 0 _ .f .lf (fun _ => rfl)
    | ther e =>
      obtain ⟨p, xs, rfl, hs, hx⟩ := dp_tup dp
      obtain ⟨u, rfl, hu⟩ := dp_two hx
      cases hu
      have e1 : Tr.sz (.ther e) * opB es = opB es := Nat.one_mul _
      rw [e1] at z1 z2 q
      refine ⟨_, rfl, p, _, _, _, rfl, rfl, hs, atI_nat (j := 0) rfl, rfl, _, rfl, ?_⟩
      rw [wne "there" "constant" (by decide +kernel)]
      refine iteF ⟨_, rfl, p, _, _, _, rfl, rfl, hs, atI_nat (j := 0) rfl, rfl, _, rfl, ?_⟩
      rw [weq]
      refine iteT ⟨_, rfl, st.go (by decide +kernel) (by decide +kernel) (by decide +kernel) ⟨_, rfl, p, _, _, _, rfl, rfl, hs, atI_nat (j := 1) rfl, ?_⟩⟩
      refine ⟨s, N, es, L, e, rfl, st, by omega, fun H' M r f l st' a => q H' M r _ f (by omega) (st'.more (by omega)) a (Wf.one ok) fun ρ => ?_⟩
      show (if ρ e = true then true else false) = ρ e
      cases ρ e <;> rfl
    | nt t1 =>
      obtain ⟨p, xs, rfl, hs, hx⟩ := dp_tup dp
      obtain ⟨u, rfl, hu⟩ := dp_two hx
      have hn : t1.ht + 1 < n + 1 := hn
      have e1 : Tr.sz (.nt t1) * opB es = t1.sz * opB es + opB es := Nat.succ_mul _ _
      rw [e1] at z1 z2 q
      refine ⟨_, rfl, p, _, _, _, rfl, rfl, hs, atI_nat (j := 0) rfl, rfl, _, rfl, ?_⟩
      rw [wne "not" "constant" (by decide +kernel)]
      refine iteF ⟨_, rfl, p, _, _, _, rfl, rfl, hs, atI_nat (j := 0) rfl, rfl, _, rfl, ?_⟩
      rw [wne "not" "there" (by decide +kernel)]
      refine iteF ⟨_, rfl, _, rfl, p, _, _, _, rfl, rfl, hs, atI_nat (j := 1) rfl, ?_⟩
      refine ⟨s, N, es, L, u, t1, rfl, st, hm, ok, by omega, hu, by omega, by omega, fun H1 M1 r1 T1 f1 l1 st1 a1 w1 v1 => ?_⟩
      have hs1 := SqT.tsn (st.tup f1) hs
      refine ⟨_, rfl, p, _, _, _, rfl, rfl, hs1, atI_nat (j := 0) rfl, rfl, _, rfl, ?_⟩
      rw [weq]
      refine iteT ⟨_, rfl, st1.go (by decide +kernel) (by decide +kernel) (by decide +kernel) ⟨_, rfl, ?_⟩⟩
      refine ⟨s, N ++ M1, es, _, r1, T1, rfl, st1, hm, a1, w1, by rw [List.length_append]; omega, by omega, fun H2 M2 r2 T2 f2 l2 st2 a2 w2 v2 => ?_⟩
      rw [List.append_assoc] at st2 a2
      refine q H2 (M1 ++ M2) r2 T2 (f1.trans f2) (by rw [List.length_append]; omega) (st2.more (by omega)) a2 w2 fun ρ => ?_
      rw [v2, v1]
      rfl
    | bin o t1 t2 =>
      obtain ⟨p, xs, rfl, hs, hx⟩ := dp_tup dp
      obtain ⟨u, u2, rfl, hu, hu2⟩ := dp_three hx
      have hn : max t1.ht t2.ht + 1 < n + 1 := hn
      have e1 : Tr.sz (.bin o t1 t2) * opB es = t1.sz * opB es + t2.sz * opB es + opB es := by
        show (t1.sz + t2.sz + 1) * opB es = _
        rw [Nat.succ_mul, Nat.add_mul]
      rw [e1] at z1 z2 q
      refine ⟨_, rfl, p, _, _, _, rfl, rfl, hs, atI_nat (j := 0) rfl, rfl, _, rfl, ?_⟩
      rw [wne o.s "constant" (by cases o <;> decide +kernel)]
      refine iteF ⟨_, rfl, p, _, _, _, rfl, rfl, hs, atI_nat (j := 0) rfl, rfl, _, rfl, ?_⟩
      rw [wne o.s "there" (by cases o <;> decide +kernel)]
      refine iteF ⟨_, rfl, _, rfl, p, _, _, _, rfl, rfl, hs, atI_nat (j := 1) rfl, ?_⟩
      refine ⟨s, N, es, L, u, t1, rfl, st, hm, ok.1, by omega, hu, by omega, by omega, fun H1 M1 r1 T1 f1 l1 st1 a1 w1 v1 => ?_⟩
      have hs1 := SqT.tsn (st.tup f1) hs
      have hu21 := st.dp f1 (tr_only t2) hu2
      refine ⟨_, rfl, p, _, _, _, rfl, rfl, hs1, atI_nat (j := 0) rfl, rfl, _, rfl, ?_⟩
      rw [wne o.s "not" (by cases o <;> decide +kernel)]
      refine iteF ⟨_, rfl, _, rfl, p, _, _, _, rfl, rfl, hs1, atI_nat (j := 2) rfl, ?_⟩
      refine ⟨s, N ++ M1, es, _, u2, t2, rfl, st1, hm, ok.2, by omega, hu21, by rw [List.length_append]; omega, by omega, fun H2 M2 r2 T2 f2 l2 st2 a2 w2 v2 => ?_⟩
      have hs2 := SqT.tsn (st1.tup f2) hs1
      have fin : ∀ (g : Bool → Bool → Bool), g = o.f → sp_op2 C K m g [.ref s.p, .int ((r1 : Nat) : Int), .int ((r2 : Nat) : Int)] H2 Q E0 := fun g hg => by
        refine ⟨s, (N ++ M1) ++ M2, es, _, r1, r2, T1, T2, rfl, st2, hm, a1.mono, a2, w1, w2, by rw [List.length_append, List.length_append]; omega, by omega, fun H3 M3 r3 T3 f3 l3 st3 a3 w3 v3 => ?_⟩
        have eN : N ++ M1 ++ M2 ++ M3 = N ++ (M1 ++ M2 ++ M3) := by simp only [List.append_assoc]
        rw [eN] at st3 a3
        refine q H3 (M1 ++ M2 ++ M3) r3 T3 ((f1.trans f2).trans f3) (by rw [List.length_append, List.length_append]; omega) (st3.more (by omega)) a3 w3 fun ρ => ?_
        rw [v3, v1, v2, hg]
        rfl
      refine ⟨_, rfl, p, _, _, _, rfl, rfl, hs2, atI_nat (j := 0) rfl, rfl, _, rfl, ?_⟩
      cases o with
      | and =>
        rw [show decide (V.str (Str.ofString Bo.and.s) = V.str "and") = true from weq "and"]
        exact iteT ⟨_, rfl, st2.go (by decide +kernel) (by decide +kernel) (by decide +kernel) ⟨_, rfl, _, rfl, fin and rfl⟩⟩
      | or =>
        rw [show decide (V.str (Str.ofString Bo.or.s) = V.str "and") = false from wne "or" "and" (by decide +kernel)]
        refine iteF ⟨_, rfl, p, _, _, _, rfl, rfl, hs2, atI_nat (j := 0) rfl, rfl, _, rfl, ?_⟩
        rw [show decide (V.str (Str.ofString Bo.or.s) = V.str "or") = true from weq "or"]
        exact iteT ⟨_, rfl, st2.go (by decide +kernel) (by decide +kernel) (by decide +kernel) ⟨_, rfl, _, rfl, fin or rfl⟩⟩
      | df =>
        rw [show decide (V.str (Str.ofString Bo.df.s) = V.str "and") = false from wne "differ" "and" (by decide +kernel)]
        refine iteF ⟨_, rfl, p, _, _, _, rfl, rfl, hs2, atI_nat (j := 0) rfl, rfl, _, rfl, ?_⟩
        rw [show decide (V.str (Str.ofString Bo.df.s) = V.str "or") = false from wne "differ" "or" (by decide +kernel)]
        exact iteF ⟨_, rfl, st2.go (by decide +kernel) (by decide +kernel) (by decide +kernel) ⟨_, rfl, _, rfl, fin bne rfl⟩⟩
theorem cl_build (m : Nat) {f C : Addr} {fd : FuncData} (F : Fun K "_law_build" "_law_build" s__law_build f fd) (M : Mg mg) (g : mg "_law_build" = some (.ref f)) (b : Binds K fd ["store", "tree"] []) (c_Diagrams_there : ClM P w K mg base 2 C "there" (sp_there C K)) (c_Diagrams_conjunction : ClM P w K mg base (m + 3) C "conjunction" (sp_op2 C K m and)) (c_Diagrams_disjunction : ClM P w K mg base (m + 3) C "disjunction" (sp_op2 C K m or)) (c_Diagrams_negation : ClM P w K mg base (m + 3) C "negation" (sp_neg C K m)) (c_Diagrams_differs : ClM P w K mg base (m + 4) C "differs" (sp_op2 C K m bne)) :
    ∀ n, Cl P w K mg base (m + 4 + n) "_law_build" (sp_build C K m n)
  | 0 => FnOk.cl (P := P) (w := w) (base := base) (F.ok sc__law_build (fun vs H Q E h => by obtain ⟨s, N, es, L, v, t, rfl, _⟩ := h; rfl) (fun cdv A outer s H vs Q E hr h => by obtain ⟨s, N, es, L, v, t, rfl, st, hm, ok, hn, _⟩ := h; omega)) F g b
  | n + 1 => FnOk.cl (ok_build m n F M c_Diagrams_there c_Diagrams_conjunction c_Diagrams_disjunction c_Diagrams_negation c_Diagrams_differs (cl_build m F M g b c_Diagrams_there c_Diagrams_conjunction c_Diagrams_disjunction c_Diagrams_negation c_Diagrams_differs n)) F g b
theorem ok_subs {f : Addr} {fd : FuncData} (F : Fun K "_law_subsets" "_law_subsets" s__law_subsets f fd) (M : Mg mg) : FnOk P w K mg base CX0 1 f fd ["entries"] sp_subs := by
  refine F.ok sc__law_subsets (fun vs H Q E h => ?_) (fun cdv A outer s H vs Q E hr h => ?_)
  · obtain ⟨a, es, rfl, _⟩ := h
    rfl
  · obtain ⟨a, es, rfl, ha, hl, q⟩ := h
    refine ⟨_, (pss_cons (ps_set (i := 1) sc__law_subsets.nd rfl (.inl rfl) (pe_lst (pa_cons (pe_lst pa_nil) pa_nil)))
      (pss_cons (ps_for PassesOwn.never rfl (pi_list (pv 0)) (pg_name (i := 2) sc__law_subsets.nd rfl (.inr rfl)) (pss_one (ps_set (i := 1) sc__law_subsets.nd rfl (.inl rfl) (pe_op op_cat (pv 1) (pe_lc (own := [("part", 3)]) (g := gName 3) (tt := tYes) rfl sc__law_subsets.nd (pi_list (pv 1)) (blkOk_by (N := N__law_subsets) (sc := defScope s__law_subsets) (by decide +kernel)) (fun _ _ _ _ _ => (pg_name (i := 3) sc__law_subsets.nd rfl (.inl rfl))) (fun _ _ _ _ _ => pts_nil) (fun _ _ _ _ _ => (pe_op op_cat (pv 3) (pe_lst (pa_cons (pv 2) pa_nil)))))))))
      (pss_one (ps_ret (pv 1))))), ?_⟩
    refine ⟨by show 0 ≤ sizeLine; decide, fun p1 n1 => ?_⟩
    have s1 := same_upd n1 (o := .lst [])
    have e1 : (upd H p1 (.lst [])) p1 = some (.lst (([] : List Int).map V.int)) := upd_same
    generalize upd H p1 (.lst []) = H1 at s1 e1
    refine ⟨by show 1 ≤ sizeLine; decide, fun p2 n2 => ?_⟩
    have s2 := same_upd n2 (o := .lst [.ref p1])
    have e2 : (upd H1 p2 (.lst [.ref p1])) p2 = some (.lst ([p1].map V.ref)) := upd_same
    generalize upd H1 p2 (.lst [.ref p1]) = H2 at s2 e2
    refine ⟨_, rfl, a, rfl, ⟨_, .of ((s1.trans s2) _ _ ha)⟩, ?_⟩
    refine for_list (K := K) (a := a) (xs := es.map V.int) (fun i σ Hi => ∃ (p : Addr) (z y : Option V), σ = [some (.ref a), some (.ref p), z, y] ∧ Same H Hi ∧ H p = none ∧ LL Hi p (subs (es.take i))) ⟨p2, none, none, rfl, s1.trans s2, s1.free n2, [p1], e2, rfl, fun i b l hb hl => ?_⟩ (fun i σ Hi _ hp => by obtain ⟨p, z, y, rfl, si, _⟩ := hp; exact .of (si _ _ ha)) (fun i x σ Hi hx hp => ?_) (fun σ Hn hp => ?_)
    · match i, hb, hl with
      | 0, hb, hl =>
        cases hb
        cases hl
        exact s2 _ _ e1
      | i + 1, hb, _ => simp at hb
    · obtain ⟨p, z, y, rfl, si, np, ll⟩ := hp
      rw [List.getElem?_map] at hx
      obtain ⟨e, he, rfl⟩ := Option.map_eq_some_iff.mp hx
      have hi : i < es.length := (List.getElem?_eq_some_iff.mp he).1
      have et : es.take (i + 1) = es.take i ++ [e] := by rw [List.take_add_one, he]; rfl
      have lsub : (subs (es.take i)).length ≤ 1024 := by
        rw [subs_len, List.length_take]
        exact Nat.le_trans (Nat.pow_le_pow_right (by decide) (show min i es.length ≤ 10 by omega)) (by decide)
      obtain ⟨as, g1, g2, g3⟩ := id ll
      obtain ⟨as', k1, k2, k3⟩ := ll.get
      refine ⟨_, rfl, _, rfl, p, rfl, ⟨_, .of k1⟩, fun D nD => ?_⟩
      refine lc_list (K := K) (a := p) (xs := as'.map V.ref) (fun j Hj => Same Hi Hj ∧ LL Hj D ((subs (es.take i)).take j |>.map (· ++ [e]))) ⟨same_upd nD, [], upd_same, rfl, fun i b l hb _ => by simp at hb⟩ (fun j Hj _ hp => .of (hp.1 _ _ k1)) (fun j x Hj hx hp => ?_) (fun Hn hp => ?_)
      · obtain ⟨sj, cs, c1, c2, c3⟩ := hp
        obtain ⟨b, l, rfl, hl, hb⟩ := k3 j x hx
        have hj : j < (subs (es.take i)).length := (List.getElem?_eq_some_iff.mp hl).1
        refine ⟨rfl, ?_⟩
        refine ⟨_, rfl, _, rfl, by show 1 ≤ sizeLine; decide, fun q1 nq1 => ?_⟩
        have t1 := same_upd nq1 (o := .lst [.int e])
        have eq1 : (upd Hj q1 (.lst [.int e])) q1 = some (.lst [.int e]) := upd_same
        generalize upd Hj q1 (.lst [.int e]) = Hj1 at t1 eq1
        have ll1 : l.length ≤ 10 := by
          have := subs_le _ l (List.mem_of_getElem? hl)
          have h2 := this.1
          rw [List.length_take] at h2
          omega
        refine ⟨b, q1, _, _, rfl, rfl, (sj.trans t1) _ _ hb, eq1, by rw [List.length_map]; exact Nat.le_trans (m := 100) (by show _ + 1 ≤ 100; omega) (by decide), fun q2 nq2 => ?_⟩
        have t2 := same_upd nq2 (o := .lst (l.map V.int ++ [.int e]))
        have eq2 : (upd Hj1 q2 (.lst (l.map V.int ++ [.int e]))) q2 = some (.lst ((l ++ [e]).map V.int)) := by rw [upd_same, List.map_append]; rfl
        generalize upd Hj1 q2 (.lst (l.map V.int ++ [.int e])) = Hj2 at t2 eq2
        have sj2 := (sj.trans t1).trans t2
        have cD := (t1.trans t2) _ _ c1
        refine ⟨_, cD, ?_, ?_, ?_⟩
        · rw [List.length_map, c2, List.length_map, List.length_take]
          exact Nat.lt_of_le_of_lt (m := 1024) (by omega) (by decide)
        · intro x o hx'
          rw [upd_ne (ne_of_none hx' nD)]
          exact sj2 _ _ hx'
        · refine ⟨cs ++ [q2], by rw [upd_same, List.map_append]; rfl, ?_, fun i' b' l' hb' hl' => ?_⟩
          · rw [List.length_append, c2, List.take_add_one, hl, List.map_append, List.length_append]
            rfl
          · have lc : cs.length = j := by rw [c2, List.length_map, List.length_take]; omega
            have nbD : b' ≠ D := by
              by_cases hi' : i' < cs.length
              · rw [List.getElem?_append_left hi'] at hb'
                intro z
                subst z
                -- the new list's own address is not one of its items
                have := c3 i' b' _ hb' (List.getElem?_eq_getElem (by rw [← c2]; exact hi'))
                rw [c1] at this
                have e := HO.lst.inj (Option.some.inj this)
                cases cs with
                | nil => simp at hi'
                | cons c cs =>
                  rw [List.map_cons] at e
                  generalize (List.map (fun x => x ++ [_]) _)[i'] = w at e
                  cases w with
                  | nil => cases e
                  | cons w1 w2 => rw [List.map_cons] at e; exact nomatch (List.cons.inj e).1
              · rw [List.getElem?_append_right (by omega)] at hb'
                have : b' = q2 := by
                  cases h : i' - cs.length with
                  | zero => rw [h] at hb'; exact (Option.some.inj hb').symm
                  | succ k => rw [h] at hb'; simp at hb'
                subst this
                exact (ne_of_none (t1 _ _ c1) nq2).symm
            rw [upd_ne nbD]
            rw [List.take_add_one, hl, List.map_append] at hl'
            by_cases hi' : i' < cs.length
            · rw [List.getElem?_append_left hi'] at hb'
              rw [List.getElem?_append_left (by rw [← c2]; exact hi')] at hl'
              exact (t1.trans t2) _ _ (c3 i' b' l' hb' hl')
            · rw [List.getElem?_append_right (by omega)] at hb'
              rw [List.getElem?_append_right (by rw [← c2]; omega), ← c2] at hl'
              cases h : i' - cs.length with
              | zero =>
                rw [h] at hb' hl'
                have e1 : q2 = b' := Option.some.inj hb'
                have e2 : l ++ [e] = l' := Option.some.inj hl'
                subst e1 e2
                exact eq2
              | succ k => rw [h] at hb'; simp at hb'
      · obtain ⟨sn, ll2⟩ := hp
        have el : (as'.map V.ref).length = (subs (es.take i)).length := by rw [List.length_map, k2]
        rw [el, List.take_of_length_le (Nat.le_refl _)] at ll2
        obtain ⟨bs, b1, b2, b3⟩ := id ll2
        refine ⟨p, D, _, _, rfl, rfl, sn _ _ k1, b1, ?_, fun q' nq' => ?_⟩
        · rw [List.length_map, List.length_map, k2, b2, List.length_map]
          exact Nat.le_trans (m := 2048) (by omega) (by decide)
        · refine ⟨q', _, _, rfl, (si.trans sn).trans (same_upd nq'), (si.trans sn).free nq', ?_⟩
          rw [et, subs_snoc]
          exact LL.app (q := q') nq' (ll.ext sn) ll2 (sn _ _ k1) b1
    · obtain ⟨p, z, y, rfl, si, np, ll⟩ := hp
      rw [List.length_map, List.take_of_length_le (Nat.le_refl _)] at ll
      exact ⟨_, rfl, q Hn p si np ll⟩
end

/-! ### lists of numbers and of truth values as data -/
theorem dpa_map {K : PySem.W.Frag} {H : Hp} {α : Type} (f : α → V) (g : α → PyData) (h : ∀ a, Dp K H (f a) (g a)) : ∀ l : List α, DpAll K H (l.map f) (l.map g)
  | [] => .nil
  | a :: l => .cons (h a) (dpa_map f g h l)
theorem dp_ints {K : PySem.W.Frag} {H : Hp} {a : Addr} {ps : List Int} (h : SqL K H a (ps.map V.int)) : Dp K H (.ref a) (.list (ps.map PyData.int)) := .lst h (dpa_map _ _ (fun i => .int i) ps)
theorem dp_bls {K : PySem.W.Frag} {H : Hp} {a : Addr} {ps : List Bool} (h : SqL K H a (ps.map V.bl)) : Dp K H (.ref a) (.list (ps.map PyData.bool)) := .lst h (dpa_map _ _ (fun i => .bl i) ps)
theorem flat_shaped {α : Type} (g : α → PyData) (h1 : ∀ a, PyData.canLay0 (g a) = true) (h2 : ∀ a, PyData.depth (g a) = 0) (l : List α) : SeqAt.shaped (.list (l.map g)) = true := by
  have e1 : PyData.canLayAll0 (l.map g) = true := by
    induction l with
    | nil => rfl
    | cons x xs ih =>
      rw [List.map_cons]
      unfold PyData.canLayAll0
      rw [ih, h1]
      rfl
  have e2 : PyData.depthAll (l.map g) = 0 := by
    clear e1
    induction l with
    | nil => rfl
    | cons x xs ih =>
      rw [List.map_cons]
      unfold PyData.depthAll
      rw [ih, h2]
      rfl
  unfold SeqAt.shaped
  rw [Bool.and_eq_true]
  refine ⟨by unfold PyData.canLay0; exact e1, decide_eq_true ?_⟩
  unfold PyData.depth
  omega
theorem ints_shaped (l : List Int) : SeqAt.shaped (.list (l.map PyData.int)) = true := flat_shaped _ (fun _ => rfl) (fun _ => rfl) l
theorem bls_shaped (l : List Bool) : SeqAt.shaped (.list (l.map PyData.bool)) = true := flat_shaped _ (fun _ => rfl) (fun _ => rfl) l
theorem ints_eqv (l : List Int) : PyData.eqv (.list (l.map PyData.int)) (.list (l.map PyData.int)) = true := SeqAt.eqv_refl _ (SeqAt.canLay_of_shaped (ints_shaped l))
theorem Sto.fd {C : Addr} {K : PySem.W.Frag} {H H' : Hp} {s : SA} {N : Nds} {es : List Int} {L : Nat} {d : Addr} (st : Sto C K H s N es L) (hd : ∃ zs, H d = some (.lst zs)) (n : d ≠ s.k) (f : Fd d H H') : Sto C K H' s N es L := by
  obtain ⟨⟨dx, h1⟩, ⟨xs, h2, h3⟩, ⟨kvs, h4, h5⟩, ⟨cvs, h6, h7⟩, h8⟩ := st
  obtain ⟨zs, hz⟩ := hd
  exact ⟨⟨dx, f _ _ (ne_of h1 hz (fun z => nomatch z)) h1⟩, ⟨xs, f _ _ n.symm h2, DpAll.fd ⟨zs, hz⟩ f _ _ (nD_only _) h3⟩, ⟨kvs, f _ _ (ne_of h4 hz (fun z => nomatch z)) h4, h5⟩, ⟨cvs, f _ _ (ne_of h6 hz (fun z => nomatch z)) h6, h7⟩, h8⟩
theorem andV {c b : Bool} {i : Nat} {σ : L2.St} {H : Hp} {Q : VK} (hs : σ[i]? = some (some (.bl b))) (h : Q (.bl (c && b)) H) : if c = true then tVar i σ H Q else Q (.bl false) H := by
  cases c with
  | true => exact iteT ⟨_, hs, h⟩
  | false => exact iteF h
theorem orV {c b : Bool} {i : Nat} {σ : L2.St} {H : Hp} {Q : VK} (hs : σ[i]? = some (some (.bl b))) (h : Q (.bl (c || b)) H) : if c = true then Q (.bl true) H else tVar i σ H Q := by
  cases c with
  | true => exact iteT h
  | false => exact iteF ⟨_, hs, h⟩
theorem bne_dec (a b : Bool) : (!decide (V.bl a = V.bl b)) = bne a b := by cases a <;> cases b <;> rfl
/-- the store made, beside what was there -/
theorem made_same {p dx C : Addr} {H H' : Hp} (np : H p = none) (nd : H dx = none) (f : Fd p (upd (upd H dx (.own p)) p (.ins C dx [])) H') : Same H H' := fun b o e => by
  have h1 : b ≠ p := ne_of_none e np
  have h2 : b ≠ dx := ne_of_none e nd
  refine f b o h1 ?_
  rw [upd_ne h1, upd_ne h2]
  exact e
theorem made_free {p dx C k : Addr} {H : Hp} (h : (upd (upd H dx (.own p)) p (.ins C dx [])) k = none) : H k = none := by
  by_cases h1 : k = p
  · subst h1
    rw [upd_same] at h
    cases h
  by_cases h2 : k = dx
  · subst h2
    rw [upd_ne h1, upd_same] at h
    cases h
  rw [upd_ne h1, upd_ne h2] at h
  exact h
/-- what stood before the store was made stands behind all its operations -/
theorem FdS.same {s : SA} {H0 H H' : Hp} (h : Same H0 H) (nk : H0 s.k = none) (nu : H0 s.u = none) (nm : H0 s.m = none) (f : FdS s H H') : Same H0 H' := fun b o e => f b o (ne_of_none e nk) (ne_of_none e nu) (ne_of_none e nm) (h b o e)

/-! ### lists of lists -/
def Lf {α : Type} (f : α → V) (H : Hp) (p : Addr) (ls : List (List α)) : Prop := ∃ as : List Addr, H p = some (.lst (as.map V.ref)) ∧ as.length = ls.length ∧ ∀ (i : Nat) b l, as[i]? = some b → ls[i]? = some l → b ≠ p ∧ H b = some (.lst (l.map f))
theorem Lf.ext {α : Type} {f : α → V} {H H' : Hp} {p : Addr} {ls : List (List α)} (e : Same H H') (h : Lf f H p ls) : Lf f H' p ls := by
  obtain ⟨as, h1, h2, h3⟩ := h
  exact ⟨as, e _ _ h1, h2, fun i b l g1 g2 => ⟨(h3 i b l g1 g2).1, e _ _ (h3 i b l g1 g2).2⟩⟩
theorem Lf.snoc {α : Type} {f : α → V} {H : Hp} {p b : Addr} {ls : List (List α)} {l : List α} {xs : List V} (h : Lf f H p ls) (e : H p = some (.lst xs)) (n : b ≠ p) (hb : H b = some (.lst (l.map f))) : Lf f (upd H p (.lst (xs ++ [.ref b]))) p (ls ++ [l]) := by
  obtain ⟨as, h1, h2, h3⟩ := h
  have ex : xs = as.map V.ref := by rw [h1] at e; exact (HO.lst.inj (Option.some.inj e)).symm
  refine ⟨as ++ [b], by rw [upd_same, ex, List.map_append]; rfl, by rw [List.length_append, List.length_append, h2]; rfl, fun i c m hc hm => ?_⟩
  by_cases hi : i < as.length
  · rw [List.getElem?_append_left hi] at hc
    rw [List.getElem?_append_left (by omega)] at hm
    obtain ⟨g1, g2⟩ := h3 i c m hc hm
    exact ⟨g1, by rw [upd_ne g1]; exact g2⟩
  · rw [List.getElem?_append_right (by omega)] at hc
    rw [List.getElem?_append_right (by omega), ← h2] at hm
    cases hk : i - as.length with
    | zero =>
      rw [hk] at hc hm
      have e1 : b = c := Option.some.inj hc
      have e2 : l = m := Option.some.inj hm
      subst e1 e2
      exact ⟨n, by rw [upd_ne n]; exact hb⟩
    | succ k => rw [hk] at hc; simp at hc
theorem Lf.get {α : Type} {f : α → V} {H : Hp} {p : Addr} {ls : List (List α)} (h : Lf f H p ls) : ∃ as : List Addr, H p = some (.lst (as.map V.ref)) ∧ as.length = ls.length ∧ ∀ (i : Nat) l, ls[i]? = some l → ∃ b, as[i]? = some b ∧ H b = some (.lst (l.map f)) := by
  obtain ⟨as, h1, h2, h3⟩ := h
  refine ⟨as, h1, h2, fun i l hl => ?_⟩
  have hi : i < as.length := by rw [h2]; exact (List.getElem?_eq_some_iff.mp hl).1
  exact ⟨as[i], List.getElem?_eq_getElem hi, (h3 i _ l (List.getElem?_eq_getElem hi) hl).2⟩
/-! ### conditions by their truth -/
theorem subs_all' : ∀ (es pre : List Int) (f : List (List Int)), (pre ++ es).Nodup → (∀ ρ : Int → Bool, ∃ p ∈ f, (∀ e ∈ p, e ∈ pre) ∧ ∀ e ∈ pre, decide (e ∈ p) = ρ e) → ∀ ρ : Int → Bool, ∃ p ∈ es.foldl (fun f e => f ++ f.map (· ++ [e])) f, ∀ e ∈ pre ++ es, decide (e ∈ p) = ρ e
  | [], pre, f, _, h, ρ => by
    obtain ⟨p, hp, _, h2⟩ := h ρ
    exact ⟨p, hp, fun e he => h2 e (by rwa [List.append_nil] at he)⟩
  | x :: es, pre, f, hn, h, ρ => by
    have hx : x ∉ pre := by
      intro hx
      rw [List.nodup_append] at hn
      exact hn.2.2 x hx x List.mem_cons_self rfl
    have hn' : ((pre ++ [x]) ++ es).Nodup := by rw [List.append_assoc]; exact hn
    rw [List.foldl_cons, show pre ++ x :: es = (pre ++ [x]) ++ es by simp]
    refine subs_all' es (pre ++ [x]) _ hn' (fun ρ => ?_) ρ
    obtain ⟨p, hp, h1, h2⟩ := h ρ
    have hxp : x ∉ p := fun z => hx (h1 x z)
    cases e : ρ x with
    | true =>
      refine ⟨p ++ [x], List.mem_append_right _ (List.mem_map.mpr ⟨p, hp, rfl⟩), fun y hy => ?_, fun y hy => ?_⟩
      · rcases List.mem_append.mp hy with hy | hy
        · exact List.mem_append_left _ (h1 y hy)
        · exact List.mem_append_right _ hy
      · rcases List.mem_append.mp hy with hy | hy
        · have hyx : y ≠ x := fun z => hx (z ▸ hy)
          rw [← h2 y hy, decide_eq_decide, List.mem_append, List.mem_singleton]
          exact ⟨fun g => g.elim id (fun z => absurd z hyx), .inl⟩
        · rw [List.mem_singleton.mp hy, e]
          exact decide_eq_true (List.mem_append_right _ (List.mem_singleton.mpr rfl))
    | false =>
      refine ⟨p, List.mem_append_left _ hp, fun y hy => List.mem_append_left _ (h1 y hy), fun y hy => ?_⟩
      rcases List.mem_append.mp hy with hy | hy
      · exact h2 y hy
      · rw [List.mem_singleton.mp hy, e]
        exact decide_eq_false hxp
theorem subs_all {es : List Int} (hn : es.Nodup) (ρ : Int → Bool) : ∃ p ∈ subs es, ∀ e ∈ es, decide (e ∈ p) = ρ e :=
  subs_all' es [] [[]] hn (fun _ => ⟨[], List.mem_singleton.mpr rfl, fun _ h => (nomatch h), fun _ h => (nomatch h)⟩) ρ
def tru (es : List Int) (t : Tr) : List Bool := (subs es).map fun p => t.ev fun e => decide (e ∈ p)
theorem tru_eq {es : List Int} (hn : es.Nodup) {t u : Tr} (ht : t.ok es) (hu : u.ok es) : tru es t = tru es u ↔ ∀ ρ, t.ev ρ = u.ev ρ := by
  constructor
  · intro h ρ
    obtain ⟨p, hp, hr⟩ := subs_all hn ρ
    have := List.map_inj_left.mp h p hp
    rw [tr_agree ht hr, tr_agree hu hr] at this
    exact this
  · intro h
    exact List.map_inj_left.mpr fun p _ => h _
theorem tru_any {es : List Int} (hn : es.Nodup) {t : Tr} (ht : t.ok es) : (tru es t).any id = false ↔ ∀ ρ, t.ev ρ = false := by
  unfold tru
  rw [List.any_map, List.any_eq_false]
  constructor
  · intro h ρ
    obtain ⟨p, hp, hr⟩ := subs_all hn ρ
    have := h p hp
    rw [← tr_agree ht hr]
    simpa using this
  · intro h p _
    show ¬ (t.ev _) = true
    rw [h]
    exact Bool.false_ne_true
theorem tru_all {es : List Int} (hn : es.Nodup) {t : Tr} (ht : t.ok es) : (tru es t).all id = true ↔ ∀ ρ, t.ev ρ = true := by
  unfold tru
  rw [List.all_map, List.all_eq_true]
  constructor
  · intro h ρ
    obtain ⟨p, hp, hr⟩ := subs_all hn ρ
    have := h p hp
    rw [← tr_agree ht hr]
    exact this
  · intro h p _
    exact h _
theorem tru_len (es : List Int) (t : Tr) : (tru es t).length = 2 ^ es.length := by rw [tru, List.length_map, subs_len]
/-- conditions built, one for each tree -/
def Blt (N : Nds) (es : List Int) (ts : List Tr) (cs : List Nat) : Prop := cs.length = ts.length ∧ ∀ (i : Nat) t c, ts[i]? = some t → cs[i]? = some c → ∃ T, At N c T ∧ Wf es T ∧ ∀ ρ, T.ev ρ = t.ev ρ
theorem Blt.mono {N M : Nds} {es : List Int} {ts : List Tr} {cs : List Nat} (h : Blt N es ts cs) : Blt (N ++ M) es ts cs := ⟨h.1, fun i t c h1 h2 => by
  obtain ⟨T, a, b⟩ := h.2 i t c h1 h2
  exact ⟨T, a.mono, b⟩⟩
theorem Blt.snoc {N : Nds} {es : List Int} {ts : List Tr} {cs : List Nat} {t : Tr} {c : Nat} {T : Bd} (h : Blt N es ts cs) (a : At N c T) (b : Wf es T) (v : ∀ ρ, T.ev ρ = t.ev ρ) : Blt N es (ts ++ [t]) (cs ++ [c]) := by
  refine ⟨by rw [List.length_append, List.length_append, h.1]; rfl, fun i t' c' h1 h2 => ?_⟩
  by_cases hi : i < ts.length
  · rw [List.getElem?_append_left hi] at h1
    rw [List.getElem?_append_left (by rw [h.1]; exact hi)] at h2
    exact h.2 i t' c' h1 h2
  · rw [List.getElem?_append_right (by omega)] at h1
    rw [List.getElem?_append_right (by rw [h.1]; omega), h.1] at h2
    cases hk : i - ts.length with
    | zero =>
      rw [hk] at h1 h2
      have e1 : t = t' := Option.some.inj h1
      have e2 : c = c' := Option.some.inj h2
      subst e1 e2
      exact ⟨T, a, b, v⟩
    | succ k => rw [hk] at h1; simp at h1
theorem bls_eqvAll : ∀ a b : List Bool, PyData.eqvAll (a.map PyData.bool) (b.map PyData.bool) = decide (a = b)
  | [], [] => rfl
  | [], _ :: _ => rfl
  | _ :: _, [] => rfl
  | x :: a, y :: b => by
    rw [List.map_cons, List.map_cons]
    unfold PyData.eqvAll
    rw [bls_eqvAll a b]
    unfold PyData.eqv
    cases x <;> cases y <;> simp
theorem bls_eqv (a b : List Bool) : PyData.eqv (.list (a.map PyData.bool)) (.list (b.map PyData.bool)) = decide (a = b) := by
  unfold PyData.eqv
  exact bls_eqvAll a b
/-- one number for one condition -/
theorem num_eq {N : Nds} {es : List Int} (hN : N.Nodup) (hn : es.Nodup) {t u : Tr} (ht : t.ok es) (hu : u.ok es) {c d : Nat} {T U : Bd} (hT : At N c T) (hU : At N d U) (wT : Wf es T) (wU : Wf es U) (vT : ∀ ρ, T.ev ρ = t.ev ρ) (vU : ∀ ρ, U.ev ρ = u.ev ρ) : c = d ↔ tru es t = tru es u := by
  rw [tru_eq hn ht hu]
  constructor
  · intro e ρ
    subst e
    rw [← vT, ← vU, hT.fn hU]
  · intro h
    have := canon hn wT wU fun ρ => by rw [vT, vU, h]
    subst this
    exact hT.inj hN hU
theorem num_0 {N : Nds} {es : List Int} (hN : N.Nodup) (hn : es.Nodup) {t : Tr} (ht : t.ok es) {c : Nat} {T : Bd} (hT : At N c T) (wT : Wf es T) (vT : ∀ ρ, T.ev ρ = t.ev ρ) : c = 0 ↔ (tru es t).any id = false := by
  rw [tru_any hn ht]
  constructor
  · intro e ρ
    subst e
    rw [← vT, hT.fn .f]
    rfl
  · intro h
    have := canon hn wT (.lf (b := false)) fun ρ => by rw [vT, h]; rfl
    subst this
    exact hT.inj hN .f
theorem num_1 {N : Nds} {es : List Int} (hN : N.Nodup) (hn : es.Nodup) {t : Tr} (ht : t.ok es) {c : Nat} {T : Bd} (hT : At N c T) (wT : Wf es T) (vT : ∀ ρ, T.ev ρ = t.ev ρ) : c = 1 ↔ (tru es t).all id = true := by
  rw [tru_all hn ht]
  constructor
  · intro e ρ
    subst e
    rw [← vT, hT.fn .t]
    rfl
  · intro h
    have := canon hn wT (.lf (b := true)) fun ρ => by rw [vT, h]; rfl
    subst this
    exact hT.inj hN .t
/-- a list of conditions' trees -/
def TrL (K : PySem.W.Frag) (H : Hp) (D : Addr) (ts : List Tr) : Prop := ∃ vs, H D = some (.lst vs) ∧ DpAll K H vs (ts.map Tr.d)
theorem trs_only : ∀ ts : List Tr, tupOnlys (ts.map Tr.d) = true
  | [] => rfl
  | t :: ts => by
    rw [List.map_cons]
    unfold tupOnlys
    rw [tr_only, trs_only ts]
    rfl
theorem TrL.ext {K : PySem.W.Frag} {H H' : Hp} {D : Addr} {ts : List Tr} (e : Same H H') (h : TrL K H D ts) : TrL K H' D ts := by
  obtain ⟨vs, h1, h2⟩ := h
  exact ⟨vs, e _ _ h1, DpAll.ext e _ _ h2⟩
theorem TrL.snoc {K : PySem.W.Frag} {H : Hp} {D : Addr} {ts : List Tr} {vs : List V} {v : V} {t : Tr} (h : TrL K H D ts) (e : H D = some (.lst vs)) (hv : Dp K H v t.d) : TrL K (upd H D (.lst (vs ++ [v]))) D (ts ++ [t]) := by
  obtain ⟨vs', h1, h2⟩ := h
  have ev : vs' = vs := by rw [h1] at e; exact HO.lst.inj (Option.some.inj e)
  subst ev
  refine ⟨_, upd_same, ?_⟩
  rw [List.map_append]
  exact DpAll.snoc (DpAll.away h1 _ _ (trs_only ts) h2) (Dp.away h1 _ _ (tr_only t) hv)
theorem TrL.get {K : PySem.W.Frag} {H : Hp} {D : Addr} {ts : List Tr} (h : TrL K H D ts) : ∃ vs, H D = some (.lst vs) ∧ vs.length = ts.length ∧ ∀ (i : Nat) t, ts[i]? = some t → ∃ v, vs[i]? = some v ∧ Dp K H v t.d := by
  obtain ⟨vs, h1, h2⟩ := h
  refine ⟨vs, h1, by rw [DpAll.len h2, List.length_map], fun i t ht => DpAll.get h2 (by rw [List.getElem?_map, ht]; rfl)⟩
theorem TrL.fd {K : PySem.W.Frag} {H H' : Hp} {D d : Addr} {ts : List Tr} (hd : ∃ zs, H d = some (.lst zs)) (n : D ≠ d) (e : Fd d H H') (h : TrL K H D ts) : TrL K H' D ts := by
  obtain ⟨vs, h1, h2⟩ := h
  exact ⟨vs, e _ _ n h1, DpAll.fd hd e _ _ (trs_only ts) h2⟩
def intsV (cs : List Nat) : List V := cs.map fun c => .int ((c : Nat) : Int)
def sp_law (K : PySem.W.Frag) : Sp := fun vs H Q _ => ∃ (a : Addr) (ns : List Int), vs = [.ref a] ∧ SqL K H a (ns.map V.int) ∧ ns.length ≤ 63 ∧ ∀ H', Q (.bl true) H'
section
variable {P : Program} {w : World} {K : PySem.W.Frag} {mg : Str → Option Value} {base : Heap}
/-- conditions being built, one after another -/
def BuP (C : Addr) (K : PySem.W.Frag) (sa : SA) (N : Nds) (es : List Int) (b : Nat) (ts : List Tr) (H0 H : Hp) (B : Addr) (i : Nat) (Hi : Hp) : Prop := Same H0 Hi ∧ (∀ a o, H a = some o → a ≠ sa.k → a ≠ sa.u → a ≠ sa.m → Hi a = some o) ∧ ∃ M cs, Sto C K Hi sa (N ++ M) es (b + i * 33000) ∧ Hi B = some (.lst (intsV cs)) ∧ Blt (N ++ M) es (ts.take i) cs ∧ (N ++ M).length ≤ b + i * 33000
theorem bu_0 {C : Addr} {sa : SA} {N : Nds} {es : List Int} {L b : Nat} {ts : List Tr} {H0 H : Hp} {B : Addr} (S : Same H0 H) (st : Sto C K H sa N es L) (hb : N.length ≤ b ∧ L ≤ b) (nB : H B = none) : BuP C K sa N es b ts H0 H B 0 (upd H B (.lst [])) := by
  refine ⟨S.trans (same_upd nB), fun a o h _ _ _ => same_upd nB _ _ h, [], [], ?_, upd_same, ⟨rfl, fun i t c h _ => by simp at h⟩, ?_⟩
  · rw [List.append_nil]
    exact (st.ext (same_upd nB)).more (by omega)
  · rw [List.append_nil]
    omega
theorem bu_ne {C : Addr} {sa : SA} {N : Nds} {es : List Int} {L : Nat} {H : Hp} {B : Addr} (st : Sto C K H sa N es L) (nB : H B = none) : B ≠ sa.k ∧ B ≠ sa.u ∧ B ≠ sa.m := by
  obtain ⟨_, ⟨_, g1, _⟩, ⟨_, g2, _⟩, ⟨_, g3, _⟩, _⟩ := st
  exact ⟨(ne_of_none g1 nB).symm, (ne_of_none g2 nB).symm, (ne_of_none g3 nB).symm⟩
theorem bu_step {C : Addr} {sa : SA} {N : Nds} {es : List Int} {L b : Nat} {ts : List Tr} {H0 H Hi : Hp} {B : Addr} {i : Nat} {v : V} {t : Tr} {σ : L2.St} (S : Same H0 H) (st : Sto C K H sa N es L) (nk : H0 sa.k = none) (nu : H0 sa.u = none) (nm : H0 sa.m = none) (hl : es.length ≤ 5) (hb2 : b + ts.length * 33000 ≤ 400000) (nB : H B = none) (hp : BuP C K sa N es b ts H0 H B i Hi) (ht : ts[i]? = some t) (ok1 : t.ok es) (ht1 : t.ht < 9) (dp : Dp K H0 v t.d) (h5 : σ[5]? = some (some (.ref sa.p))) (h11 : σ[11]? = some (some v)) :
    tCall (sp_build C K 6 9) [] E0 (tCons (tVar 5) (tCons (tVar 11) tNil)) σ Hi fun y H4 => ∃ ys, H4 B = some (.lst ys) ∧ ys.length < sizeLine ∧ BuP C K sa N es b ts H0 H B (i + 1) (upd H4 B (.lst (ys ++ [y]))) := by
  have hob : opB es ≤ 64 := by
    have : 2 ^ es.length ≤ 2 ^ 5 := Nat.pow_le_pow_right (by decide) hl
    unfold opB
    omega
  have sl : (500000 : Nat) < sizeLine := by decide
  have nB0 := S.free nB
  have nBk := bu_ne st nB
  obtain ⟨si, fi, M, cs, sti, eB, bl, ln⟩ := hp
  have hi : i < ts.length := (List.getElem?_eq_some_iff.mp ht).1
  have hz : t.sz ≤ 511 := by
    have h1 := tr_sz t
    have h2 : 2 ^ (t.ht + 1) ≤ 2 ^ 9 := Nat.pow_le_pow_right (by decide) (by omega)
    omega
  have hzb : t.sz * opB es ≤ 511 * 64 := Nat.mul_le_mul hz hob
  have hib : i * 33000 + 33000 ≤ ts.length * 33000 := by
    have := Nat.mul_le_mul_right 33000 (show i + 1 ≤ ts.length by omega)
    omega
  refine ⟨_, h5, _, h11, sa, N ++ M, es, _, v, t, rfl, sti, by omega, ok1, ht1, Dp.ext si _ _ dp, by omega, by omega, fun H1 M1 r1 T1 f1 l1 st1 a1 w1 v1 => ?_⟩
  have eB1 := f1 _ _ nBk.1 nBk.2.1 nBk.2.2 eB
  have lcs : cs.length = i := by rw [bl.1, List.length_take]; omega
  refine ⟨_, eB1, ?_, ?_, ?_, M ++ M1, cs ++ [r1], ?_, ?_, ?_, ?_⟩
  · show (intsV cs).length < sizeLine
    unfold intsV
    rw [List.length_map, lcs]
    omega
  · intro x o e
    rw [upd_ne (ne_of_none e nB0)]
    exact f1.same si nk nu nm x o e
  · intro x o e n1 n2 n3
    rw [upd_ne (ne_of_none e nB)]
    exact f1 x o n1 n2 n3 (fi x o e n1 n2 n3)
  · rw [← List.append_assoc]
    exact (st1.fd ⟨_, eB1⟩ nBk.1 Fd.at).more (by omega)
  · rw [upd_same]
    unfold intsV
    rw [List.map_append]
    rfl
  · rw [← List.append_assoc, List.take_add_one, ht]
    exact bl.mono.snoc a1 w1 v1
  · rw [← List.append_assoc, List.length_append]
    omega
set_option maxHeartbeats 8000000 in
theorem ok_law {f C : Addr} {fd : FuncData} (F : Fun K "law" "law" s_law f fd) (M : Mg mg) (c__law_draw : Cl P w K mg base 1 "_law_draw" (sp_draw K)) (c__law_next : Cl P w K mg base 1 "_law_next" sp_next) (c__law_entries : Cl P w K mg base 2 "_law_entries" (sp_ents 5)) (c__law_tree : Cl P w K mg base 7 "_law_tree" (sp_ltr K 6)) (c_Diagrams___init__ : ClC P w K mg base 1 "Diagrams" C (sp_dinit C K))
    (c__law_build : Cl P w K mg base 19 "_law_build" (sp_build C K 6 9)) (c__law_subsets : Cl P w K mg base 1 "_law_subsets" sp_subs) (c__law_true : Cl P w K mg base 10 "_law_true" (sp_true K 9)) : FnOk P w K mg base CX0 20 f fd ["script"] (sp_law K) := by
  refine F.ok sc_law (fun vs H Q E h => ?_) (fun cdv A outer s H vs Q E hr h => ?_)
  · obtain ⟨a, ns, rfl, _⟩ := h
    rfl
  · obtain ⟨a, ns, rfl, hS, _, q⟩ := h
    refine ⟨_, (pss_cons (ps_set (i := 1) sc_law.nd rfl (.inr rfl) (pe_u c__law_draw hr (by first | decide | omega) (by rfl) (pa_cons (pv 0) pa_nil)))
      (pss_cons (ps_set (i := 2) sc_law.nd rfl (.inr rfl) (pe_u c__law_entries hr (by first | decide | omega) (by rfl) (pa_cons (pv 1) (pa_cons pe_int pa_nil))))
      (pss_cons (ps_setLc (i := 4) (own := [("k", 3)]) (g := gName 3) (tt := tYes) rfl sc_law.nd rfl rfl (sw_true rfl rfl rfl (by decide +kernel)) (pi_range1 (by rfl) M.range (pa_cons pe_int pa_nil)) (blkOk_by (N := N_law) (sc := defScope s_law) (by decide +kernel)) (fun _ _ _ _ _ => (pg_name (i := 3) sc_law.nd rfl (.inl rfl))) (fun _ _ _ _ _ => pts_nil) (fun _ _ _ _ _ => (pe_u c__law_tree hr (by first | decide | omega) (by rfl) (pa_cons (pv 1) (pa_cons (pv 2) (pa_cons (pe_op op_add pe_int (pe_u c__law_next hr (by first | decide | omega) (by rfl) (pa_cons (pv 1) (pa_cons pe_int pa_nil)))) pa_nil))))))
      (pss_cons (ps_expr (pe_bmK K PySem.F.plainAttrs_list PySem.F.slot_list_append PySem.F.type_list_append mt_append (pv 4) (pa_cons (pe_tup (pa_cons pe_str (pa_cons (pe_tup (pa_cons pe_str (pa_cons (pe_ix (ix_listK K) (pv 4) pe_int (fun _ _ => rfl)) pa_nil))) pa_nil))) pa_nil)))
      (pss_cons (ps_expr (pe_bmK K PySem.F.plainAttrs_list PySem.F.slot_list_append PySem.F.type_list_append mt_append (pv 4) (pa_cons (pe_tup (pa_cons pe_str (pa_cons (pe_tup (pa_cons pe_str (pa_cons (pe_ix (ix_listK K) (pv 4) pe_int (fun _ _ => rfl)) (pa_cons (pe_ix (ix_listK K) (pv 4) pe_int (fun _ _ => rfl)) pa_nil)))) (pa_cons (pe_tup (pa_cons pe_str (pa_cons (pe_ix (ix_listK K) (pv 4) pe_int (fun _ _ => rfl)) (pa_cons (pe_tup (pa_cons pe_str (pa_cons (pe_ix (ix_listK K) (pv 4) pe_int (fun _ _ => rfl)) pa_nil))) pa_nil)))) pa_nil)))) pa_nil)))
      (pss_cons (ps_set (i := 5) sc_law.nd rfl (.inr rfl) (pe_mk0 c_Diagrams___init__ hr (by first | decide | omega) (by rfl)))
      (pss_cons (ps_setLc (i := 6) (own := [("tree", 11)]) (g := gName 11) (tt := tYes) rfl sc_law.nd rfl rfl (sw_true rfl rfl rfl (by decide +kernel)) (pi_list (pv 4)) (blkOk_by (N := N_law) (sc := defScope s_law) (by decide +kernel)) (fun _ _ _ _ _ => (pg_name (i := 11) sc_law.nd rfl (.inl rfl))) (fun _ _ _ _ _ => pts_nil) (fun _ _ _ _ _ => (pe_u c__law_build hr (by first | decide | omega) (by rfl) (pa_cons (pv 5) (pa_cons (pv 11) pa_nil)))))
      (pss_cons (ps_setLc (i := 7) (own := [("tree", 11)]) (g := gName 11) (tt := tYes) rfl sc_law.nd rfl rfl (sw_true rfl rfl rfl (by decide +kernel)) (pi_list (pv 4)) (blkOk_by (N := N_law) (sc := defScope s_law) (by decide +kernel)) (fun _ _ _ _ _ => (pg_name (i := 11) sc_law.nd rfl (.inl rfl))) (fun _ _ _ _ _ => pts_nil) (fun _ _ _ _ _ => (pe_u c__law_build hr (by first | decide | omega) (by rfl) (pa_cons (pv 5) (pa_cons (pv 11) pa_nil)))))
      (pss_cons (ps_setLc (i := 8) (own := [("tree", 11)]) (g := gName 11) (tt := tYes) rfl sc_law.nd rfl rfl (sw_true rfl rfl rfl (by decide +kernel)) (pi_list (pv 4)) (blkOk_by (N := N_law) (sc := defScope s_law) (by decide +kernel)) (fun _ _ _ _ _ => (pg_name (i := 11) sc_law.nd rfl (.inr rfl))) (fun _ _ _ _ _ => pts_nil) (fun _ _ _ _ _ => (pe_lc (own := [("part", 12)]) (g := gName 12) (tt := tYes) rfl sc_law.nd (pi_listK K (pe_u c__law_subsets hr (by first | decide | omega) (by rfl) (pa_cons (pv 2) pa_nil))) (blkOk_by (N := N_law) (sc := relS { kind := PySem.ScopeKind.function, names := [ (PySem.Str.ofString ".0", PySem.NameKind.local), (PySem.Str.ofString "tree", PySem.NameKind.cell), (PySem.Str.ofString "_law_subsets", PySem.NameKind.globalImplicit), (PySem.Str.ofString "entries", PySem.NameKind.free)], isGenerator := false, isCoroutine := false, more := [] : PySem.Scope } (defScope s_law)) (by decide +kernel)) (fun _ _ _ _ _ => (pg_name (i := 12) sc_law.nd rfl (.inl rfl))) (fun _ _ _ _ _ => pts_nil) (fun _ _ _ _ _ => (pe_u c__law_true hr (by first | decide | omega) (by rfl) (pa_cons (pv 11) (pa_cons (pv 12) pa_nil)))))))
      (pss_cons (ps_for PassesOwn.never rfl (pi_range1 (by rfl) M.range (pa_cons (pe_callB (len_seqK K) (by rfl) M.len PySem.boot_len (pa_cons (pv 4) pa_nil)) pa_nil)) (pg_name (i := 3) sc_law.nd rfl (.inl rfl)) (pss_cons (ps_set (i := 9) sc_law.nd rfl (.inl rfl) (pe_ix (ix_listK K) (pv 6) (pv 3) (fun _ _ => rfl)))
      (pss_cons (ps_if (PW.pt (pw_or (pt_not (pt_val (pe_callB (isiK K) (by rfl) M.isinstance (by decide +kernel) (pa_cons (pv 9) (pa_cons (pe_bltn (v := .ty "int") (by rfl) M.int (by decide +kernel) rfl) pa_nil))))) (pw_or (pt_val (pe_callB (isiK K) (by rfl) M.isinstance (by decide +kernel) (pa_cons (pv 9) (pa_cons (pe_bltn (v := .ty "bool") (by rfl) M.bool (by decide +kernel) rfl) pa_nil)))) (pw_or (pt_cmpR op_ne (pe_ix (ix_listK K) (pv 7) (pv 3) (fun _ _ => rfl)) (pv 9) (nomark _)) (pw_or1 (pt_cmpR op_lt (pv 9) pe_int (nomark _))))))) (pss_one (ps_ret pe_bl)) pss_nil)
      (pss_cons (ps_if (PW.pt (pw_or (pt_cmpR op_ne (pe_cmpR op_eq (pv 9) pe_int (nomark _)) (pe_not (pe_callB (anyK K rfl) (by rfl) M.any (by decide +kernel) (pa_cons (pe_ix (ix_listK K) (pv 8) (pv 3) (fun _ _ => rfl)) pa_nil))) (nomark _)) (pw_or1 (pt_cmpR op_ne (pe_cmpR op_eq (pv 9) pe_int (nomark _)) (pe_callB (allK K rfl) (by rfl) M.all (by decide +kernel) (pa_cons (pe_ix (ix_listK K) (pv 8) (pv 3) (fun _ _ => rfl)) pa_nil)) (nomark _))))) (pss_one (ps_ret pe_bl)) pss_nil)
      (pss_one (ps_for PassesOwn.never rfl (pi_range1 (by rfl) M.range (pa_cons (pe_callB (len_seqK K) (by rfl) M.len PySem.boot_len (pa_cons (pv 4) pa_nil)) pa_nil)) (pg_name (i := 10) sc_law.nd rfl (.inl rfl)) (pss_one (ps_if (pt_cmpR op_ne (pe_cmpR op_eq (pv 9) (pe_ix (ix_listK K) (pv 6) (pv 10) (fun _ _ => rfl)) (nomark _)) (pe_cmpR (eqDK K hr.units) (pe_ix (ix_listK K) (pv 8) (pv 3) (fun _ _ => rfl)) (pe_ix (ix_listK K) (pv 8) (pv 10) (fun _ _ => rfl)) (nomark _)) (nomark _)) (pss_one (ps_ret pe_bl)) pss_nil))))))))
      (pss_one (ps_ret pe_bl)))))))))))), ?_⟩
    refine ⟨_, rfl, a, ns, rfl, hS, fun H1 d c s1 nd dr => ?_⟩
    refine ⟨_, rfl, d, c, rfl, by decide, by decide, dr, fun H2 ea es f2 dr2 na en => ?_⟩
    -- three trees
    refine ⟨_, rfl, by decide, by decide, fun D nD => ?_⟩
    have nDd := dr2.nd nD
    refine lc_range (lo := 0) (n := (3 : Int).toNat) (fun i Hi => Fd d H2 Hi ∧ Dr Hi d c ∧ ∃ ts : List Tr, TrL K Hi D ts ∧ ts.length = i ∧ ∀ t ∈ ts, t.ok es ∧ t.ht ≤ 5) ⟨Fd.new nD, dr2.ext (same_upd nD), [], ⟨[], upd_same, .nil⟩, rfl, fun _ h => nomatch h⟩ (fun i Hi hi hp => ?_) (fun H3 hp => ?_)
    · obtain ⟨fi, di, ts, tl, lt, ok⟩ := hp
      refine ⟨rfl, ?_⟩
      refine ⟨_, rfl, _, rfl, _, rfl, d, c, 5, rfl, di, by decide, by decide, fun H4 r f4 _ dr4 r0 r1 => ?_⟩
      obtain ⟨k, rfl⟩ := Int.eq_ofNat_of_zero_le r0
      have en4 := en.fd (fi.trans f4)
      refine ⟨_, _, rfl, rfl, d, c, ea, es, 5, 1 + k, rfl, by omega, dr4, en4, by decide, fun H5 p t f5 dr5 ok5 ht5 dp5 => ?_⟩
      have tl5 := (tl.fd di.lst nDd f4).fd dr4.lst nDd f5
      obtain ⟨vs, eD5, _⟩ := id tl5
      have lvs : vs.length = i := by
        obtain ⟨vs', g1, g2, _⟩ := tl5.get
        rw [eD5] at g1
        have := HO.lst.inj (Option.some.inj g1)
        rw [this, g2, lt]
      have hi : i < 3 := hi
      refine ⟨vs, eD5, by rw [lvs]; exact Nat.lt_of_lt_of_le (m := 100) (by omega) (by decide), ?_, dr5.upd nDd (dr2.nc nD), ts ++ [t], tl5.snoc eD5 dp5, by rw [List.length_append, lt]; rfl, fun u hu => ?_⟩
      · intro b o nb e
        rw [upd_ne (ne_of_none e nD)]
        exact f5 _ _ nb (f4 _ _ nb (fi _ _ nb e))
      · rcases List.mem_append.mp hu with hu | hu
        · exact ok u hu
        · rw [List.mem_singleton.mp hu]
          exact ⟨ok5, by omega⟩
    obtain ⟨f3, dr3, ts, tl, lt, ok⟩ := hp
    obtain ⟨t0, t1, t2, rfl⟩ : ∃ t0 t1 t2, ts = [t0, t1, t2] := by
      match ts, lt with
      | [t0, t1, t2], _ => exact ⟨t0, t1, t2, rfl⟩
    obtain ⟨ok0, ht0⟩ := ok t0 (by simp)
    obtain ⟨ok1, ht1⟩ := ok t1 (by simp)
    obtain ⟨ok2, ht2⟩ := ok t2 (by simp)
    obtain ⟨vs, eD3, lvs, gvs⟩ := tl.get
    obtain ⟨v0, hv0, dp0⟩ := gvs 0 t0 rfl
    -- not not
    refine ⟨_, rfl, .inl ⟨rfl, _, .inl (.inl eD3)⟩, _, rfl, D, _, 0, v0, rfl, rfl, .of eD3, atI_nat (j := 0) hv0, by show 2 ≤ sizeLine; decide, fun q1 nq1 => ?_⟩
    have g1 := same_upd nq1 (o := .tup [.str "not", v0])
    have d1 : Dp K (upd H3 q1 (.tup [.str "not", v0])) (.ref q1) (Tr.nt t0).d := .tup (.of upd_same) (.cons (.str _) (.cons (Dp.ext g1 _ _ dp0) .nil))
    generalize upd H3 q1 (.tup [.str "not", v0]) = H4 at g1 d1
    refine ⟨by show 2 ≤ sizeLine; decide, fun q2 nq2 => ?_⟩
    have g2 := same_upd nq2 (o := .tup [.str "not", .ref q1])
    have d2 : Dp K (upd H4 q2 (.tup [.str "not", .ref q1])) (.ref q2) (Tr.nt (.nt t0)).d := .tup (.of upd_same) (.cons (.str _) (.cons (Dp.ext g2 _ _ d1) .nil))
    generalize upd H4 q2 (.tup [.str "not", .ref q1]) = H5 at g2 d2
    have g35 := g1.trans g2
    have eD5 := g35 _ _ eD3
    have tl5 := tl.ext g35
    have sz3 : vs.length < sizeLine := by rw [lvs]; exact Nat.lt_of_lt_of_le (m := 100) (by show 3 < 100; decide) (by decide)
    refine ⟨D, vs, _, rfl, rfl, eD5, sz3, ?_⟩
    have tl6 := tl5.snoc eD5 d2
    have f6 : Fd d H2 (upd H5 D (.lst (vs ++ [.ref q2]))) := fun b o nb e => by
      rw [upd_ne (ne_of_none e nD)]
      exact g35 _ _ (f3 _ _ nb e)
    have dr6 : Dr (upd H5 D (.lst (vs ++ [.ref q2]))) d c := (dr3.ext g35).upd nDd (dr2.nc nD)
    generalize upd H5 D (.lst (vs ++ [.ref q2])) = H6 at tl6 f6 dr6
    obtain ⟨vs6, eD6, lvs6, gvs6⟩ := tl6.get
    obtain ⟨v1, hv1, dp1⟩ := gvs6 1 t1 rfl
    obtain ⟨v2, hv2, dp2⟩ := gvs6 2 t2 rfl
    -- or and, and not
    refine ⟨_, rfl, .inl ⟨rfl, _, .inl (.inl eD6)⟩, ?_⟩
    refine ⟨_, rfl, D, _, 1, v1, rfl, rfl, .of eD6, atI_nat (j := 1) hv1, _, rfl, D, _, 2, v2, rfl, rfl, .of eD6, atI_nat (j := 2) hv2, by show 3 ≤ sizeLine; decide, fun q3 nq3 => ?_⟩
    have g3 := same_upd nq3 (o := .tup [.str "and", v1, v2])
    have d3 : Dp K (upd H6 q3 (.tup [.str "and", v1, v2])) (.ref q3) (Tr.bin .and t1 t2).d := .tup (.of upd_same) (.cons (.str _) (.cons (Dp.ext g3 _ _ dp1) (.cons (Dp.ext g3 _ _ dp2) .nil)))
    generalize upd H6 q3 (.tup [.str "and", v1, v2]) = H7 at g3 d3
    have eD7 := g3 _ _ eD6
    refine ⟨_, rfl, D, _, 1, v1, rfl, rfl, .of eD7, atI_nat (j := 1) hv1, _, rfl, D, _, 2, v2, rfl, rfl, .of eD7, atI_nat (j := 2) hv2, by show 2 ≤ sizeLine; decide, fun q4 nq4 => ?_⟩
    have g4 := same_upd nq4 (o := .tup [.str "not", v2])
    have d4 : Dp K (upd H7 q4 (.tup [.str "not", v2])) (.ref q4) (Tr.nt t2).d := .tup (.of upd_same) (.cons (.str _) (.cons (Dp.ext (g3.trans g4) _ _ dp2) .nil))
    generalize upd H7 q4 (.tup [.str "not", v2]) = H8 at g4 d4
    refine ⟨by show 3 ≤ sizeLine; decide, fun q5 nq5 => ?_⟩
    have g5 := same_upd nq5 (o := .tup [.str "and", v1, .ref q4])
    have d5 : Dp K (upd H8 q5 (.tup [.str "and", v1, .ref q4])) (.ref q5) (Tr.bin .and t1 (.nt t2)).d := .tup (.of upd_same) (.cons (.str _) (.cons (Dp.ext ((g3.trans g4).trans g5) _ _ dp1) (.cons (Dp.ext g5 _ _ d4) .nil)))
    generalize upd H8 q5 (.tup [.str "and", v1, .ref q4]) = H9 at g5 d5
    refine ⟨by show 3 ≤ sizeLine; decide, fun q6 nq6 => ?_⟩
    have g6 := same_upd nq6 (o := .tup [.str "or", .ref q3, .ref q5])
    have d6 : Dp K (upd H9 q6 (.tup [.str "or", .ref q3, .ref q5])) (.ref q6) (Tr.bin .or (.bin .and t1 t2) (.bin .and t1 (.nt t2))).d := .tup (.of upd_same) (.cons (.str _) (.cons (Dp.ext ((g4.trans g5).trans g6) _ _ d3) (.cons (Dp.ext g6 _ _ d5) .nil)))
    generalize upd H9 q6 (.tup [.str "or", .ref q3, .ref q5]) = H10 at g6 d6
    have g610 := ((g3.trans g4).trans g5).trans g6
    have eD10 := g610 _ _ eD6
    refine ⟨D, vs6, _, rfl, rfl, eD10, by rw [lvs6]; exact Nat.lt_of_lt_of_le (m := 100) (by show 4 < 100; decide) (by decide), ?_⟩
    have tlF := (tl6.ext g610).snoc eD10 d6
    have fF : Fd d H2 (upd H10 D (.lst (vs6 ++ [.ref q6]))) := fun b o nb e => by
      rw [upd_ne (ne_of_none e nD)]
      exact g610 _ _ (f6 _ _ nb e)
    generalize upd H10 D (.lst (vs6 ++ [.ref q6])) = H11 at tlF fF
    have enF := en.fd fF
    have okF : ∀ t ∈ ([t0, t1, t2] ++ [Tr.nt (Tr.nt t0)]) ++ [Tr.bin .or (.bin .and t1 t2) (.bin .and t1 (.nt t2))], t.ok es ∧ t.ht < 9 := fun t ht => by
      simp only [List.mem_append, List.mem_cons, List.not_mem_nil, or_false] at ht
      rcases ht with ((rfl | rfl | rfl) | rfl) | rfl
      · exact ⟨ok0, by omega⟩
      · exact ⟨ok1, by omega⟩
      · exact ⟨ok2, by omega⟩
      · exact ⟨ok0, by show t0.ht + 1 + 1 < 9; omega⟩
      · exact ⟨⟨⟨ok1, ok2⟩, ok1, ok2⟩, by show max (max t1.ht t2.ht + 1) (max t1.ht (t2.ht + 1) + 1) + 1 < 9; omega⟩
    have lF : (([t0, t1, t2] ++ [Tr.nt (Tr.nt t0)]) ++ [Tr.bin .or (.bin .and t1 t2) (.bin .and t1 (.nt t2))]).length = 5 := rfl
    generalize ([t0, t1, t2] ++ [Tr.nt (Tr.nt t0)]) ++ [Tr.bin .or (.bin .and t1 t2) (.bin .and t1 (.nt t2))] = TS at tlF okF lF
    -- the store
    refine fun x dx nx ndx nex => ⟨x, dx, rfl, upd_same, fun H12 sa hsp f12 hk hu hm stm => ⟨rfl, ?_⟩⟩
    subst hsp
    have s12 := made_same nx ndx f12
    have hk := made_free hk
    have hu := made_free hu
    have hm := made_free hm
    have st12 := stm es enF.2.2.2.1
    have hl5 : es.length ≤ 5 := enF.2.2.2.2.2.1
    obtain ⟨ws0, eD11, lws0, gws0⟩ := tlF.get
    have one : ∀ (i : Nat) x, ws0[i]? = some x → ∃ t, TS[i]? = some t ∧ t.ok es ∧ t.ht < 9 ∧ Dp K H11 x t.d := fun i x hx => by
      have hi : i < TS.length := by rw [← lws0]; exact (List.getElem?_eq_some_iff.mp hx).1
      obtain ⟨v, hv, dp⟩ := gws0 i TS[i] (List.getElem?_eq_getElem hi)
      obtain rfl : v = x := Option.some.inj (hv.symm.trans hx)
      obtain ⟨o1, o2⟩ := okF TS[i] (List.getElem_mem hi)
      exact ⟨_, List.getElem?_eq_getElem hi, o1, o2, dp⟩
    have hbud : 0 + TS.length * 33000 + TS.length * 33000 ≤ 400000 := by rw [lF]; decide
    refine ⟨_, rfl, D, rfl, ⟨_, .of (s12 _ _ eD11)⟩, fun B1 nB1 => ?_⟩
    refine lc_list (K := K) (a := D) (xs := ws0) (BuP C K sa [] es 0 TS H11 H12 B1) (bu_0 s12 st12 ⟨Nat.le_refl _, Nat.le_refl _⟩ nB1) (fun i Hi _ hp => .of (hp.1 _ _ eD11)) (fun i x Hi hx hp => ?_) (fun H13 hp => ?_)
    · obtain ⟨t, ht, o1, o2, dp⟩ := one i x hx
      exact ⟨rfl, bu_step s12 st12 hk hu hm hl5 (by omega) nB1 hp ht o1 o2 dp rfl rfl⟩
    have nBk1 := bu_ne st12 nB1
    obtain ⟨s13, fr1, M1, cs1, st13, eB1, bl1, ln13⟩ := hp
    rw [lws0] at st13 bl1 ln13
    rw [List.take_of_length_le (Nat.le_refl _)] at bl1
    rw [List.nil_append] at st13 bl1 ln13
    refine ⟨_, rfl, D, rfl, ⟨_, .of (s13 _ _ eD11)⟩, fun B2 nB2 => ?_⟩
    refine lc_list (K := K) (a := D) (xs := ws0) (BuP C K sa M1 es (0 + TS.length * 33000) TS H11 H13 B2) (bu_0 s13 st13 ⟨ln13, Nat.le_refl _⟩ nB2) (fun i Hi _ hp => .of (hp.1 _ _ eD11)) (fun i x Hi hx hp => ?_) (fun H14 hp => ?_)
    · obtain ⟨t, ht, o1, o2, dp⟩ := one i x hx
      exact ⟨rfl, bu_step s13 st13 hk hu hm hl5 hbud nB2 hp ht o1 o2 dp rfl rfl⟩
    obtain ⟨s14, fr2, M2, cs2, st14, eB2, bl2, ln14⟩ := hp
    rw [lws0] at st14 bl2 ln14
    rw [List.take_of_length_le (Nat.le_refl _)] at bl2
    have bl1 := bl1.mono (M := M2)
    have eB1 : H14 B1 = some (.lst (intsV cs1)) := by
      obtain ⟨_, ⟨_, g1, _⟩, ⟨_, g2, _⟩, ⟨_, g3, _⟩, _⟩ := st13
      exact fr2 B1 _ eB1 nBk1.1 (ne_of eB1 g2 (fun z => nomatch z)) (ne_of eB1 g3 (fun z => nomatch z))
    generalize M1 ++ M2 = N at st14 bl1 bl2
    have hnd := st14.nd
    have hen := st14.es_nd
    have ec : cs2 = cs1 := by
      refine List.ext_getElem? fun i => ?_
      by_cases hi : i < TS.length
      · have h1 : i < cs1.length := by rw [bl1.1]; exact hi
        have h2 : i < cs2.length := by rw [bl2.1]; exact hi
        obtain ⟨T1, a1, w1, v1⟩ := bl1.2 i _ _ (List.getElem?_eq_getElem hi) (List.getElem?_eq_getElem h1)
        obtain ⟨T2, a2, w2, v2⟩ := bl2.2 i _ _ (List.getElem?_eq_getElem hi) (List.getElem?_eq_getElem h2)
        have := canon hen w2 w1 fun ρ => by rw [v1, v2]
        subst this
        rw [List.getElem?_eq_getElem h1, List.getElem?_eq_getElem h2, a2.inj hnd a1]
      · rw [List.getElem?_eq_none (by rw [bl2.1]; omega), List.getElem?_eq_none (by rw [bl1.1]; omega)]
    subst ec
    have tl14 := tlF.ext s14
    obtain ⟨ws, eD14, lws, gws⟩ := tl14.get
    have eE14 := s14 _ _ enF.2.2.1
    -- the truths
    refine ⟨_, rfl, D, rfl, ⟨_, .of eD14⟩, fun T nT => ?_⟩
    refine lc_list (K := K) (a := D) (xs := ws) (fun i Hi => Same H14 Hi ∧ Lf V.bl Hi T ((TS.take i).map (tru es))) ⟨same_upd nT, [], upd_same, rfl, fun i b l hb _ => by simp at hb⟩ (fun i Hi _ hp => .of (hp.1 _ _ eD14)) (fun i x Hi hx hp => ?_) (fun H15 hp => ?_)
    · obtain ⟨si, lf⟩ := hp
      have hi : i < TS.length := by rw [← lws]; exact (List.getElem?_eq_some_iff.mp hx).1
      obtain ⟨v, hv, dp⟩ := gws i TS[i] (List.getElem?_eq_getElem hi)
      obtain rfl : v = x := Option.some.inj (hv.symm.trans hx)
      have hti := (okF TS[i] (List.getElem_mem hi)).2
      refine ⟨rfl, ?_⟩
      refine ⟨_, rfl, ea, es, rfl, si _ _ eE14, by omega, fun Hs sp ss nsp ll => ?_⟩
      obtain ⟨as, l1', l2', l3'⟩ := ll.get
      refine ⟨sp, rfl, ⟨_, .of l1'⟩, fun D2 nD2 => ?_⟩
      have lsub : (subs es).length ≤ 32 := by
        rw [subs_len]
        exact Nat.le_trans (Nat.pow_le_pow_right (by decide) hl5) (by decide)
      refine lc_list (K := K) (a := sp) (xs := as.map V.ref) (fun j Hj => Same Hs Hj ∧ Hj D2 = some (.lst ((((subs es).take j).map fun p => TS[i].ev fun e => decide (e ∈ p)).map V.bl))) ⟨same_upd nD2, upd_same⟩ (fun j Hj _ hp => .of (hp.1 _ _ l1')) (fun j y Hj hy hp => ?_) (fun Hm hp => ?_)
      · obtain ⟨sj, eD2⟩ := hp
        obtain ⟨b, l, rfl, hl, hb⟩ := l3' j y hy
        have hj : j < (subs es).length := (List.getElem?_eq_some_iff.mp hl).1
        refine ⟨rfl, ?_⟩
        refine ⟨_, rfl, _, rfl, v, b, TS[i], l, rfl, Dp.ext ((si.trans ss).trans sj) _ _ dp, .of (sj _ _ hb), hti, ?_⟩
        refine ⟨_, eD2, ?_, ?_, ?_⟩
        · rw [List.length_map, List.length_map, List.length_take]
          exact Nat.lt_of_le_of_lt (m := 32) (by omega) (by decide)
        · intro z o e
          rw [upd_ne (ne_of_none e nD2)]
          exact sj _ _ e
        · rw [upd_same, List.take_add_one, hl, List.map_append, List.map_append]
          rfl
      · obtain ⟨sm, eD2⟩ := hp
        rw [List.length_map, l2', List.take_of_length_le (Nat.le_refl _)] at eD2
        obtain ⟨as', eT, _⟩ := id lf
        have sim := (ss.trans sm)
        have lf' := lf.ext sim
        have eT' := sim _ _ eT
        have nD2T : D2 ≠ T := (ne_of_none (ss _ _ eT) nD2).symm
        refine ⟨_, eT', ?_, ?_, ?_⟩
        · rw [List.length_map]
          obtain ⟨as2, g1, g2, _⟩ := lf
          have e2 : as2.map V.ref = as'.map V.ref := by rw [g1] at eT; exact HO.lst.inj (Option.some.inj eT)
          have e3 := congrArg List.length e2
          rw [List.length_map, List.length_map] at e3
          rw [← e3, g2, List.length_map, List.length_take]
          exact Nat.lt_of_le_of_lt (m := 100) (by omega) (by decide)
        · intro z o e
          rw [upd_ne (ne_of_none e nT)]
          exact sim _ _ (si _ _ e)
        · rw [List.take_add_one, List.getElem?_eq_getElem hi, List.map_append]
          exact lf'.snoc eT' nD2T eD2
    obtain ⟨s15, lf⟩ := hp
    rw [lws, List.take_of_length_le (Nat.le_refl _)] at lf
    obtain ⟨bs, eT, lbs, gbs⟩ := lf.get
    have eB1' := s15 _ _ eB1
    have eB2' := s15 _ _ eB2
    have eD15 := s15 _ _ eD14
    have lcs : (intsV cs2).length = 5 := by unfold intsV; rw [List.length_map, bl1.1, lF]
    refine ⟨_, rfl, D, _, rfl, .inl (.of eD15), ?_⟩
    rw [lws, lF]
    refine ⟨_, rfl, by decide, by decide, ?_⟩
    have key : ∀ i, i < 5 → ∃ (t : Tr) (c : Nat) (b : Addr), TS[i]? = some t ∧ (intsV cs2)[i]? = some (.int ((c : Nat) : Int)) ∧ (bs.map V.ref)[i]? = some (.ref b) ∧ H15 b = some (.lst ((tru es t).map V.bl)) ∧ t.ok es ∧ ∃ T, At N c T ∧ Wf es T ∧ ∀ ρ, T.ev ρ = t.ev ρ := fun i hi => by
      have h1 : i < TS.length := by rw [lF]; exact hi
      have h2 : i < cs2.length := by rw [bl1.1]; exact h1
      obtain ⟨b, hb, eb⟩ := gbs i (tru es TS[i]) (by rw [List.getElem?_map, List.getElem?_eq_getElem h1]; rfl)
      refine ⟨TS[i], cs2[i], b, List.getElem?_eq_getElem h1, by unfold intsV; rw [List.getElem?_map, List.getElem?_eq_getElem h2]; rfl, by rw [List.getElem?_map, hb]; rfl, eb, (okF _ (List.getElem_mem h1)).1, bl1.2 i _ _ (List.getElem?_eq_getElem h1) (List.getElem?_eq_getElem h2)⟩
    refine for_range (lo := 0) (n := ((5 : Nat) : Int).toNat) (fun i σ Hi => Hi = H15 ∧ ∃ z3 z9 z10 z11 z12, σ = [some (.ref a), some (.ref d), some (.ref ea), z3, some (.ref D), some (.ref sa.p), some (.ref B1), some (.ref B2), some (.ref T), z9, z10, z11, z12]) ⟨rfl, _, _, _, _, _, rfl⟩ (fun i σ Hi hi hp => ?_) (fun σ Hn hp => ?_)
    · obtain ⟨rfl, z3, z9, z10, z11, z12, rfl⟩ := hp
      have hi : i < 5 := hi
      obtain ⟨t, cn, b, ht, hc, hb, eb, okt, TT, aT, wT, vT⟩ := key i hi
      have h0 := num_0 hnd hen okt aT wT vT
      have h1 := num_1 hnd hen okt aT wT vT
      rw [Int.zero_add]
      refine ⟨_, rfl, _, rfl, B1, _, _, _, rfl, rfl, .of eB1', atI_nat hc, ?_⟩
      -- a number
      refine ⟨_, rfl, ⟨_, _, _, _, _, rfl, .ty _, TyX.base (TyOf.int _), kit_ty (show kitB _ _ = some true by decide +kernel), _, rfl, ?_⟩⟩
      show if (!true) = true then _ else _
      refine iteF ⟨_, rfl, ⟨_, _, _, _, _, rfl, .ty _, TyX.base (TyOf.int _), kit_ty (show kitB _ _ = some false by decide +kernel), _, rfl, ?_⟩⟩
      refine iteF ⟨_, rfl, _, rfl, B2, _, _, _, rfl, rfl, .of eB2', atI_nat hc, _, rfl, rfl, _, rfl, ?_⟩
      rw [decide_eq_true (rfl : V.int ((cn : Nat) : Int) = V.int ((cn : Nat) : Int))]
      refine iteF ⟨_, rfl, _, _, rfl, rfl, _, rfl, ?_⟩
      rw [decide_eq_false (show ¬ ((cn : Nat) : Int) < 0 by omega)]
      refine iteF ?_
      have e0 : decide (V.int ((cn : Nat) : Int) = V.int 0) = !(tru es t).any id := by
        cases e : (tru es t).any id with
        | true =>
          refine decide_eq_false fun z => ?_
          have : cn = 0 := by
            have := V.int.inj z
            omega
          rw [h0.mp this] at e
          cases e
        | false =>
          have := h0.mpr e
          subst this
          exact decide_eq_true rfl
      have e1 : decide (V.int ((cn : Nat) : Int) = V.int 1) = (tru es t).all id := by
        cases e : (tru es t).all id with
        | true =>
          have := h1.mpr e
          subst this
          exact decide_eq_true rfl
        | false =>
          refine decide_eq_false fun z => ?_
          have : cn = 1 := by
            have := V.int.inj z
            omega
          rw [h1.mp this] at e
          cases e
      refine ⟨_, rfl, rfl, _, rfl, _, rfl, T, _, _, _, rfl, rfl, .of eT, atI_nat hb, b, _, rfl, .of eb, _, rfl, rfl, _, rfl, ?_⟩
      rw [e0, decide_eq_true (rfl : V.bl (!(tru es t).any id) = V.bl (!(tru es t).any id))]
      refine iteF ⟨_, rfl, rfl, _, rfl, _, rfl, T, _, _, _, rfl, rfl, .of eT, atI_nat hb, b, _, rfl, .of eb, rfl, _, rfl, ?_⟩
      rw [e1, decide_eq_true (rfl : V.bl ((tru es t).all id) = V.bl ((tru es t).all id))]
      refine iteF ⟨_, rfl, D, _, rfl, .inl (.of eD15), ?_⟩
      rw [lws, lF]
      refine ⟨_, rfl, by decide, by decide, ?_⟩
      refine for_range (lo := 0) (n := ((5 : Nat) : Int).toNat) (fun j σ Hj => Hj = Hi ∧ ∃ z10 z11 z12, σ = [some (.ref a), some (.ref d), some (.ref ea), some (.int ((i : Nat) : Int)), some (.ref D), some (.ref sa.p), some (.ref B1), some (.ref B2), some (.ref T), some (.int ((cn : Nat) : Int)), z10, z11, z12]) ⟨rfl, _, _, _, rfl⟩ (fun j σ Hj hj hp => ?_) (fun σ Hm hp => ?_)
      · obtain ⟨rfl, z10, z11, z12, rfl⟩ := hp
        have hj : j < 5 := hj
        obtain ⟨u, cm, b2, hu2, hc2, hb2, eb2, oku, UU, aU, wU, vU⟩ := key j hj
        rw [Int.zero_add]
        refine ⟨_, rfl, _, rfl, _, rfl, B1, _, _, _, rfl, rfl, .of eB1', atI_nat hc2, rfl, ?_⟩
        refine ⟨_, rfl, _, rfl, T, _, _, _, rfl, rfl, .of eT, atI_nat hb, _, rfl, _, rfl, T, _, _, _, rfl, rfl, .of eT, atI_nat hb2, _, _, dp_bls (.of eb), dp_bls (.of eb2), bls_shaped _, bls_shaped _, rfl, _, rfl, ?_⟩
        rw [bls_eqv]
        have e3 : decide (V.int ((cn : Nat) : Int) = V.int ((cm : Nat) : Int)) = decide (tru es t = tru es u) := by
          rw [decide_eq_decide, ← num_eq hnd hen okt oku aT aU wT wU vT vU]
          constructor
          · intro z
            have := V.int.inj z
            omega
          · intro z
            rw [z]
        rw [e3, decide_eq_true (rfl : V.bl (decide (tru es t = tru es u)) = V.bl (decide (tru es t = tru es u)))]
        exact iteF ⟨rfl, _, _, _, rfl⟩
      · obtain ⟨rfl, z10, z11, z12, rfl⟩ := hp
        exact ⟨rfl, _, _, _, _, _, rfl⟩
    · obtain ⟨rfl, z3, z9, z10, z11, z12, rfl⟩ := hp
      exact q _
end

set_option maxHeartbeats 0 in
theorem all_mk {l : PySem.W.OpenLaw} {w : World} {K : PySem.W.Frag} {h : Heap} {mg : Str → Option Value} {fa : Addr} (X : K.In h) (G : h.Ns mainGlobals mg) (hfa : mg "law" = some (.ref fa))
    {od0 an0 : Option Addr} {sl0 : Array (Option Value)} {oc0 kV0 dc0 pm0 cd0 ct0 : Value} {f0 : Addr}
    {od1 an1 : Option Addr} {sl1 : Array (Option Value)} {oc1 kV1 dc1 pm1 cd1 ct1 : Value} {f1 : Addr}
    {od2 an2 : Option Addr} {sl2 : Array (Option Value)} {oc2 kV2 dc2 pm2 cd2 ct2 : Value} {f2 : Addr}
    {od3 an3 : Option Addr} {sl3 : Array (Option Value)} {oc3 kV3 dc3 pm3 cd3 ct3 : Value} {f3 : Addr}
    {od4 an4 : Option Addr} {sl4 : Array (Option Value)} {oc4 kV4 dc4 pm4 cd4 ct4 : Value} {f4 : Addr}
    {od5 an5 : Option Addr} {sl5 : Array (Option Value)} {oc5 kV5 dc5 pm5 cd5 ct5 : Value} {f5 : Addr}
    {od6 an6 : Option Addr} {sl6 : Array (Option Value)} {oc6 kV6 dc6 pm6 cd6 ct6 : Value} {f6 : Addr}
    {od7 an7 : Option Addr} {sl7 : Array (Option Value)} {oc7 kV7 dc7 pm7 cd7 ct7 : Value} {f7 : Addr}
    {od8 an8 : Option Addr} {sl8 : Array (Option Value)} {oc8 kV8 dc8 pm8 cd8 ct8 : Value} {f8 : Addr}
    {od9 an9 : Option Addr} {sl9 : Array (Option Value)} {oc9 kV9 dc9 pm9 cd9 ct9 : Value} {f9 : Addr}
    {od10 an10 : Option Addr} {sl10 : Array (Option Value)} {oc10 kV10 dc10 pm10 cd10 ct10 : Value} {f10 : Addr}
    {od11 an11 : Option Addr} {sl11 : Array (Option Value)} {oc11 kV11 dc11 pm11 cd11 ct11 : Value} {f11 : Addr}
    {od12 an12 : Option Addr} {sl12 : Array (Option Value)} {oc12 kV12 dc12 pm12 cd12 ct12 : Value} {f12 : Addr}
    {od13 an13 : Option Addr} {sl13 : Array (Option Value)} {oc13 kV13 dc13 pm13 cd13 ct13 : Value} {f13 : Addr}
    {od14 an14 : Option Addr} {sl14 : Array (Option Value)} {oc14 kV14 dc14 pm14 cd14 ct14 : Value} {f14 : Addr}
    {od15 an15 : Option Addr} {sl15 : Array (Option Value)} {oc15 kV15 dc15 pm15 cd15 ct15 : Value} {f15 : Addr}
    {od16 an16 : Option Addr} {sl16 : Array (Option Value)} {oc16 kV16 dc16 pm16 cd16 ct16 : Value} {f16 : Addr}
    {od17 an17 : Option Addr} {sl17 : Array (Option Value)} {oc17 kV17 dc17 pm17 cd17 ct17 : Value} {f17 : Addr}
    {od18 an18 : Option Addr} {sl18 : Array (Option Value)} {oc18 kV18 dc18 pm18 cd18 ct18 : Value} {f18 : Addr}
    {C_Diagrams : Addr}
    (a0 : PySem.W.findIn K (.ref C_Diagrams) "__init__" = some (some (.ref f0))) (i0 : PySem.W.isFn K (.ref f0) = true) (l0 : K.lookup f0 = some ⟨oc0, od0, .func (PySem.W.fnOf "__init__" "Diagrams.__init__" (defArgs s_Diagrams___init__) (defBody s_Diagrams___init__) (defScope s_Diagrams___init__) .none kV0 dc0 pm0 an0 cd0 ct0), sl0⟩) (c0 : PySem.W.codeIn K cd0 "Diagrams.__init__" = true) (k0 : PySem.W.keepIn K (.ref f0) = true)
    (a1 : PySem.W.findIn K (.ref C_Diagrams) "there" = some (some (.ref f1))) (i1 : PySem.W.isFn K (.ref f1) = true) (l1 : K.lookup f1 = some ⟨oc1, od1, .func (PySem.W.fnOf "there" "Diagrams.there" (defArgs s_Diagrams_there) (defBody s_Diagrams_there) (defScope s_Diagrams_there) .none kV1 dc1 pm1 an1 cd1 ct1), sl1⟩) (c1 : PySem.W.codeIn K cd1 "Diagrams.there" = true) (k1 : PySem.W.keepIn K (.ref f1) = true)
    (a2 : PySem.W.findIn K (.ref C_Diagrams) "conjunction" = some (some (.ref f2))) (i2 : PySem.W.isFn K (.ref f2) = true) (l2 : K.lookup f2 = some ⟨oc2, od2, .func (PySem.W.fnOf "conjunction" "Diagrams.conjunction" (defArgs s_Diagrams_conjunction) (defBody s_Diagrams_conjunction) (defScope s_Diagrams_conjunction) .none kV2 dc2 pm2 an2 cd2 ct2), sl2⟩) (c2 : PySem.W.codeIn K cd2 "Diagrams.conjunction" = true) (k2 : PySem.W.keepIn K (.ref f2) = true)
    (a3 : PySem.W.findIn K (.ref C_Diagrams) "disjunction" = some (some (.ref f3))) (i3 : PySem.W.isFn K (.ref f3) = true) (l3 : K.lookup f3 = some ⟨oc3, od3, .func (PySem.W.fnOf "disjunction" "Diagrams.disjunction" (defArgs s_Diagrams_disjunction) (defBody s_Diagrams_disjunction) (defScope s_Diagrams_disjunction) .none kV3 dc3 pm3 an3 cd3 ct3), sl3⟩) (c3 : PySem.W.codeIn K cd3 "Diagrams.disjunction" = true) (k3 : PySem.W.keepIn K (.ref f3) = true)
    (a4 : PySem.W.findIn K (.ref C_Diagrams) "negation" = some (some (.ref f4))) (i4 : PySem.W.isFn K (.ref f4) = true) (l4 : K.lookup f4 = some ⟨oc4, od4, .func (PySem.W.fnOf "negation" "Diagrams.negation" (defArgs s_Diagrams_negation) (defBody s_Diagrams_negation) (defScope s_Diagrams_negation) .none kV4 dc4 pm4 an4 cd4 ct4), sl4⟩) (c4 : PySem.W.codeIn K cd4 "Diagrams.negation" = true) (k4 : PySem.W.keepIn K (.ref f4) = true)
    (a5 : PySem.W.findIn K (.ref C_Diagrams) "differs" = some (some (.ref f5))) (i5 : PySem.W.isFn K (.ref f5) = true) (l5 : K.lookup f5 = some ⟨oc5, od5, .func (PySem.W.fnOf "differs" "Diagrams.differs" (defArgs s_Diagrams_differs) (defBody s_Diagrams_differs) (defScope s_Diagrams_differs) .none kV5 dc5 pm5 an5 cd5 ct5), sl5⟩) (c5 : PySem.W.codeIn K cd5 "Diagrams.differs" = true) (k5 : PySem.W.keepIn K (.ref f5) = true)
    (a6 : PySem.W.findIn K (.ref C_Diagrams) "top" = some (some (.ref f6))) (i6 : PySem.W.isFn K (.ref f6) = true) (l6 : K.lookup f6 = some ⟨oc6, od6, .func (PySem.W.fnOf "top" "Diagrams.top" (defArgs s_Diagrams_top) (defBody s_Diagrams_top) (defScope s_Diagrams_top) .none kV6 dc6 pm6 an6 cd6 ct6), sl6⟩) (c6 : PySem.W.codeIn K cd6 "Diagrams.top" = true) (k6 : PySem.W.keepIn K (.ref f6) = true)
    (a7 : PySem.W.findIn K (.ref C_Diagrams) "branches" = some (some (.ref f7))) (i7 : PySem.W.isFn K (.ref f7) = true) (l7 : K.lookup f7 = some ⟨oc7, od7, .func (PySem.W.fnOf "branches" "Diagrams.branches" (defArgs s_Diagrams_branches) (defBody s_Diagrams_branches) (defScope s_Diagrams_branches) .none kV7 dc7 pm7 an7 cd7 ct7), sl7⟩) (c7 : PySem.W.codeIn K cd7 "Diagrams.branches" = true) (k7 : PySem.W.keepIn K (.ref f7) = true)
    (a8 : PySem.W.findIn K (.ref C_Diagrams) "node_of" = some (some (.ref f8))) (i8 : PySem.W.isFn K (.ref f8) = true) (l8 : K.lookup f8 = some ⟨oc8, od8, .func (PySem.W.fnOf "node_of" "Diagrams.node_of" (defArgs s_Diagrams_node_of) (defBody s_Diagrams_node_of) (defScope s_Diagrams_node_of) .none kV8 dc8 pm8 an8 cd8 ct8), sl8⟩) (c8 : PySem.W.codeIn K cd8 "Diagrams.node_of" = true) (k8 : PySem.W.keepIn K (.ref f8) = true)
    (a9 : PySem.W.findIn K (.ref C_Diagrams) "node" = some (some (.ref f9))) (i9 : PySem.W.isFn K (.ref f9) = true) (l9 : K.lookup f9 = some ⟨oc9, od9, .func (PySem.W.fnOf "node" "Diagrams.node" (defArgs s_Diagrams_node) (defBody s_Diagrams_node) (defScope s_Diagrams_node) .none kV9 dc9 pm9 an9 cd9 ct9), sl9⟩) (c9 : PySem.W.codeIn K cd9 "Diagrams.node" = true) (k9 : PySem.W.keepIn K (.ref f9) = true)
    (a10 : PySem.W.findIn K (.ref C_Diagrams) "combine" = some (some (.ref f10))) (i10 : PySem.W.isFn K (.ref f10) = true) (l10 : K.lookup f10 = some ⟨oc10, od10, .func (PySem.W.fnOf "combine" "Diagrams.combine" (defArgs s_Diagrams_combine) (defBody s_Diagrams_combine) (defScope s_Diagrams_combine) .none kV10 dc10 pm10 an10 cd10 ct10), sl10⟩) (c10 : PySem.W.codeIn K cd10 "Diagrams.combine" = true) (k10 : PySem.W.keepIn K (.ref f10) = true)
    (a11 : PySem.W.nsIn K mainGlobals "_law_draw" = some (some (.ref f11))) (l11 : K.lookup f11 = some ⟨oc11, od11, .func (PySem.W.fnOf "_law_draw" "_law_draw" (defArgs s__law_draw) (defBody s__law_draw) (defScope s__law_draw) .none kV11 dc11 pm11 an11 cd11 ct11), sl11⟩) (c11 : PySem.W.codeIn K cd11 "_law_draw" = true) (k11 : PySem.W.keepIn K (.ref f11) = true)
    (a12 : PySem.W.nsIn K mainGlobals "_law_next" = some (some (.ref f12))) (l12 : K.lookup f12 = some ⟨oc12, od12, .func (PySem.W.fnOf "_law_next" "_law_next" (defArgs s__law_next) (defBody s__law_next) (defScope s__law_next) .none kV12 dc12 pm12 an12 cd12 ct12), sl12⟩) (c12 : PySem.W.codeIn K cd12 "_law_next" = true) (k12 : PySem.W.keepIn K (.ref f12) = true)
    (a13 : PySem.W.nsIn K mainGlobals "_law_entries" = some (some (.ref f13))) (l13 : K.lookup f13 = some ⟨oc13, od13, .func (PySem.W.fnOf "_law_entries" "_law_entries" (defArgs s__law_entries) (defBody s__law_entries) (defScope s__law_entries) .none kV13 dc13 pm13 an13 cd13 ct13), sl13⟩) (c13 : PySem.W.codeIn K cd13 "_law_entries" = true) (k13 : PySem.W.keepIn K (.ref f13) = true)
    (a14 : PySem.W.nsIn K mainGlobals "_law_tree" = some (some (.ref f14))) (l14 : K.lookup f14 = some ⟨oc14, od14, .func (PySem.W.fnOf "_law_tree" "_law_tree" (defArgs s__law_tree) (defBody s__law_tree) (defScope s__law_tree) .none kV14 dc14 pm14 an14 cd14 ct14), sl14⟩) (c14 : PySem.W.codeIn K cd14 "_law_tree" = true) (k14 : PySem.W.keepIn K (.ref f14) = true)
    (a15 : PySem.W.nsIn K mainGlobals "_law_build" = some (some (.ref f15))) (l15 : K.lookup f15 = some ⟨oc15, od15, .func (PySem.W.fnOf "_law_build" "_law_build" (defArgs s__law_build) (defBody s__law_build) (defScope s__law_build) .none kV15 dc15 pm15 an15 cd15 ct15), sl15⟩) (c15 : PySem.W.codeIn K cd15 "_law_build" = true) (k15 : PySem.W.keepIn K (.ref f15) = true)
    (a16 : PySem.W.nsIn K mainGlobals "_law_true" = some (some (.ref f16))) (l16 : K.lookup f16 = some ⟨oc16, od16, .func (PySem.W.fnOf "_law_true" "_law_true" (defArgs s__law_true) (defBody s__law_true) (defScope s__law_true) .none kV16 dc16 pm16 an16 cd16 ct16), sl16⟩) (c16 : PySem.W.codeIn K cd16 "_law_true" = true) (k16 : PySem.W.keepIn K (.ref f16) = true)
    (a17 : PySem.W.nsIn K mainGlobals "_law_subsets" = some (some (.ref f17))) (l17 : K.lookup f17 = some ⟨oc17, od17, .func (PySem.W.fnOf "_law_subsets" "_law_subsets" (defArgs s__law_subsets) (defBody s__law_subsets) (defScope s__law_subsets) .none kV17 dc17 pm17 an17 cd17 ct17), sl17⟩) (c17 : PySem.W.codeIn K cd17 "_law_subsets" = true) (k17 : PySem.W.keepIn K (.ref f17) = true)
    (a18 : PySem.W.nsIn K mainGlobals "law" = some (some (.ref f18))) (l18 : K.lookup f18 = some ⟨oc18, od18, .func (PySem.W.fnOf "law" "law" (defArgs s_law) (defBody s_law) (defScope s_law) .none kV18 dc18 pm18 an18 cd18 ct18), sl18⟩) (c18 : PySem.W.codeIn K cd18 "law" = true) (k18 : PySem.W.keepIn K (.ref f18) = true)
    {tk_NEVER : Tok} (w_NEVER : PySem.W.nsIn K mainGlobals "NEVER" = some (some (.int 0 tk_NEVER))) {tk_ALWAYS : Tok} (w_ALWAYS : PySem.W.nsIn K mainGlobals "ALWAYS" = some (some (.int 1 tk_ALWAYS))) {tk_FIRST_NODE : Tok} (w_FIRST_NODE : PySem.W.nsIn K mainGlobals "FIRST_NODE" = some (some (.int 2 tk_FIRST_NODE))) (aC_Diagrams : PySem.W.nsIn K mainGlobals "Diagrams" = some (some (.ref C_Diagrams))) (pg_Diagrams : PySem.W.plainGet K C_Diagrams Str.empty = true) (hd_Diagrams : PySem.W.hasDictIn K C_Diagrams = true) (po_Diagrams : PySem.W.plainOver K C_Diagrams = true) (sa_Diagrams : PySem.W.findIn K (.ref C_Diagrams) "__setattr__" = some (some (.builtin "object.__setattr__"))) (mk_Diagrams : PySem.W.makesIn K C_Diagrams = true) (kc_Diagrams : PySem.W.keepIn K (.ref C_Diagrams) = true) (nf_Diagrams_combined : PySem.W.findIn K (.ref C_Diagrams) "combined" = some none) (nf_Diagrams_kept : PySem.W.findIn K (.ref C_Diagrams) "kept" = some none) (nf_Diagrams_numbers : PySem.W.findIn K (.ref C_Diagrams) "numbers" = some none) (z_abs : PySem.W.nsIn K mainGlobals "abs" = some none) (z_all : PySem.W.nsIn K mainGlobals "all" = some none) (z_any : PySem.W.nsIn K mainGlobals "any" = some none) (z_bool : PySem.W.nsIn K mainGlobals "bool" = some none) (z_int : PySem.W.nsIn K mainGlobals "int" = some none) (z_isinstance : PySem.W.nsIn K mainGlobals "isinstance" = some none) (z_len : PySem.W.nsIn K mainGlobals "len" = some none) (z_list : PySem.W.nsIn K mainGlobals "list" = some none) (z_min : PySem.W.nsIn K mainGlobals "min" = some none) (z_range : PySem.W.nsIn K mainGlobals "range" = some none) :
    ∃ fd : FuncData, (∀ (s : Shared) (v : Value), BindsTo s fd ⟨[v], []⟩ [("script", v)]) ∧ ∀ base : Heap, K.In base → base.Ns mainGlobals mg → FnOk l.prog w K mg base CX0 20 fa fd ["script"] (sp_law K) := by
  have e := hfa.symm.trans (PySem.W.mg_of X G a18)
  cases e
  have F_Diagrams___init__ := fun_mk (st := s_Diagrams___init__) l0 c0 k0
  have b_Diagrams___init__ := F_Diagrams___init__.binds (ps := ["self"]) fun _ _ _ _ _ _ us hl => match us, hl with | [_], _ => rfl
  have mk0_Diagrams : Mk K C_Diagrams f0 := ⟨mk_Diagrams, a0, i0, kc_Diagrams⟩
  have F_Diagrams_there := fun_mk (st := s_Diagrams_there) l1 c1 k1
  have b_Diagrams_there := F_Diagrams_there.binds (ps := ["self", "entry"]) fun _ _ _ _ _ _ us hl => match us, hl with | [_, _], _ => rfl
  have m_Diagrams_there : Meth K C_Diagrams "there" f1 := ⟨a1, i1, k1⟩
  have F_Diagrams_conjunction := fun_mk (st := s_Diagrams_conjunction) l2 c2 k2
  have b_Diagrams_conjunction := F_Diagrams_conjunction.binds (ps := ["self", "first", "second"]) fun _ _ _ _ _ _ us hl => match us, hl with | [_, _, _], _ => rfl
  have m_Diagrams_conjunction : Meth K C_Diagrams "conjunction" f2 := ⟨a2, i2, k2⟩
  have F_Diagrams_disjunction := fun_mk (st := s_Diagrams_disjunction) l3 c3 k3
  have b_Diagrams_disjunction := F_Diagrams_disjunction.binds (ps := ["self", "first", "second"]) fun _ _ _ _ _ _ us hl => match us, hl with | [_, _, _], _ => rfl
  have m_Diagrams_disjunction : Meth K C_Diagrams "disjunction" f3 := ⟨a3, i3, k3⟩
  have F_Diagrams_negation := fun_mk (st := s_Diagrams_negation) l4 c4 k4
  have b_Diagrams_negation := F_Diagrams_negation.binds (ps := ["self", "condition"]) fun _ _ _ _ _ _ us hl => match us, hl with | [_, _], _ => rfl
  have m_Diagrams_negation : Meth K C_Diagrams "negation" f4 := ⟨a4, i4, k4⟩
  have F_Diagrams_differs := fun_mk (st := s_Diagrams_differs) l5 c5 k5
  have b_Diagrams_differs := F_Diagrams_differs.binds (ps := ["self", "first", "second"]) fun _ _ _ _ _ _ us hl => match us, hl with | [_, _, _], _ => rfl
  have m_Diagrams_differs : Meth K C_Diagrams "differs" f5 := ⟨a5, i5, k5⟩
  have F_Diagrams_top := fun_mk (st := s_Diagrams_top) l6 c6 k6
  have b_Diagrams_top := F_Diagrams_top.binds (ps := ["self", "conditions"]) fun _ _ _ _ _ _ us hl => match us, hl with | [_, _], _ => rfl
  have m_Diagrams_top : Meth K C_Diagrams "top" f6 := ⟨a6, i6, k6⟩
  have F_Diagrams_branches := fun_mk (st := s_Diagrams_branches) l7 c7 k7
  have b_Diagrams_branches := F_Diagrams_branches.binds (ps := ["self", "condition", "entry"]) fun _ _ _ _ _ _ us hl => match us, hl with | [_, _, _], _ => rfl
  have m_Diagrams_branches : Meth K C_Diagrams "branches" f7 := ⟨a7, i7, k7⟩
  have F_Diagrams_node_of := fun_mk (st := s_Diagrams_node_of) l8 c8 k8
  have b_Diagrams_node_of := F_Diagrams_node_of.binds (ps := ["self", "condition"]) fun _ _ _ _ _ _ us hl => match us, hl with | [_, _], _ => rfl
  have m_Diagrams_node_of : Meth K C_Diagrams "node_of" f8 := ⟨a8, i8, k8⟩
  have F_Diagrams_node := fun_mk (st := s_Diagrams_node) l9 c9 k9
  have b_Diagrams_node := F_Diagrams_node.binds (ps := ["self", "entry", "without", "there"]) fun _ _ _ _ _ _ us hl => match us, hl with | [_, _, _, _], _ => rfl
  have m_Diagrams_node : Meth K C_Diagrams "node" f9 := ⟨a9, i9, k9⟩
  have F_Diagrams_combine := fun_mk (st := s_Diagrams_combine) l10 c10 k10
  have b_Diagrams_combine := F_Diagrams_combine.binds (ps := ["self", "condition", "first", "second"]) fun _ _ _ _ _ _ us hl => match us, hl with | [_, _, _, _], _ => rfl
  have m_Diagrams_combine : Meth K C_Diagrams "combine" f10 := ⟨a10, i10, k10⟩
  have F__law_draw := fun_mk (st := s__law_draw) l11 c11 k11
  have b__law_draw := F__law_draw.binds (ps := ["script"]) fun _ _ _ _ _ _ us hl => match us, hl with | [_], _ => rfl
  have g__law_draw := PySem.W.mg_of X G a11
  have F__law_next := fun_mk (st := s__law_next) l12 c12 k12
  have b__law_next := F__law_next.binds (ps := ["draw", "many"]) fun _ _ _ _ _ _ us hl => match us, hl with | [_, _], _ => rfl
  have g__law_next := PySem.W.mg_of X G a12
  have F__law_entries := fun_mk (st := s__law_entries) l13 c13 k13
  have b__law_entries := F__law_entries.binds (ps := ["draw", "most"]) fun _ _ _ _ _ _ us hl => match us, hl with | [_, _], _ => rfl
  have g__law_entries := PySem.W.mg_of X G a13
  have F__law_tree := fun_mk (st := s__law_tree) l14 c14 k14
  have b__law_tree := F__law_tree.binds (ps := ["draw", "entries", "depth"]) fun _ _ _ _ _ _ us hl => match us, hl with | [_, _, _], _ => rfl
  have g__law_tree := PySem.W.mg_of X G a14
  have F__law_build := fun_mk (st := s__law_build) l15 c15 k15
  have b__law_build := F__law_build.binds (ps := ["store", "tree"]) fun _ _ _ _ _ _ us hl => match us, hl with | [_, _], _ => rfl
  have g__law_build := PySem.W.mg_of X G a15
  have F__law_true := fun_mk (st := s__law_true) l16 c16 k16
  have b__law_true := F__law_true.binds (ps := ["tree", "present"]) fun _ _ _ _ _ _ us hl => match us, hl with | [_, _], _ => rfl
  have g__law_true := PySem.W.mg_of X G a16
  have F__law_subsets := fun_mk (st := s__law_subsets) l17 c17 k17
  have b__law_subsets := F__law_subsets.binds (ps := ["entries"]) fun _ _ _ _ _ _ us hl => match us, hl with | [_], _ => rfl
  have g__law_subsets := PySem.W.mg_of X G a17
  have F_law := fun_mk (st := s_law) l18 c18 k18
  have cl_Diagrams : Cls K C_Diagrams := ⟨pg_Diagrams, hd_Diagrams, po_Diagrams, sa_Diagrams⟩
  have g_Diagrams := PySem.W.mg_of X G aC_Diagrams
  have M : Mg mg := ⟨PySem.W.mg_none_of X G z_abs, PySem.W.mg_none_of X G z_all, PySem.W.mg_none_of X G z_any, PySem.W.mg_none_of X G z_bool, PySem.W.mg_none_of X G z_int, PySem.W.mg_none_of X G z_isinstance, PySem.W.mg_none_of X G z_len, PySem.W.mg_none_of X G z_list, PySem.W.mg_none_of X G z_min, PySem.W.mg_none_of X G z_range⟩
  exact ⟨PySem.W.fnOf "law" "law" (defArgs s_law) (defBody s_law) (defScope s_law) .none kV18 dc18 pm18 an18 cd18 ct18, fun s v => .of_eq rfl, fun base _ _ => by
  have GD : DgC K C_Diagrams mg := ⟨cl_Diagrams, nf_Diagrams_kept, nf_Diagrams_numbers, nf_Diagrams_combined, ⟨_, PySem.W.mg_of X G w_NEVER, _, rfl⟩, ⟨_, PySem.W.mg_of X G w_ALWAYS, _, rfl⟩, ⟨_, PySem.W.mg_of X G w_FIRST_NODE, _, rfl⟩⟩
  have NOF := FnOk.clm (P := l.prog) (w := w) (base := base) (ok_nof F_Diagrams_node_of M GD) m_Diagrams_node_of cl_Diagrams b_Diagrams_node_of
  have NDE := FnOk.clm (P := l.prog) (w := w) (base := base) (ok_node F_Diagrams_node M GD) m_Diagrams_node cl_Diagrams b_Diagrams_node
  have TOP := FnOk.clm (ok_top F_Diagrams_top M GD NOF) m_Diagrams_top cl_Diagrams b_Diagrams_top
  have BRA := FnOk.clm (ok_bra F_Diagrams_branches M GD NOF) m_Diagrams_branches cl_Diagrams b_Diagrams_branches
  have CMB := cl_comb F_Diagrams_combine M GD m_Diagrams_combine b_Diagrams_combine NDE TOP BRA 6
  have THE := FnOk.clm (ok_there F_Diagrams_there M GD NDE) m_Diagrams_there cl_Diagrams b_Diagrams_there
  have CON := FnOk.clm (ok_conj F_Diagrams_conjunction M GD CMB) m_Diagrams_conjunction cl_Diagrams b_Diagrams_conjunction
  have DIS := FnOk.clm (ok_disj F_Diagrams_disjunction M GD CMB) m_Diagrams_disjunction cl_Diagrams b_Diagrams_disjunction
  have NEG := FnOk.clm (ok_neg F_Diagrams_negation M GD CMB) m_Diagrams_negation cl_Diagrams b_Diagrams_negation
  have DIF := FnOk.clm (ok_diff F_Diagrams_differs M GD CMB NEG) m_Diagrams_differs cl_Diagrams b_Diagrams_differs
  have DIN : ClC l.prog w K mg base 1 "Diagrams" C_Diagrams (sp_dinit C_Diagrams K) := ⟨_, _, _, ok_dinit F_Diagrams___init__ GD, mk0_Diagrams, g_Diagrams, b_Diagrams___init__⟩
  have N := FnOk.cl (P := l.prog) (w := w) (base := base) (ok_next F__law_next M) F__law_next g__law_next b__law_next
  have DR := FnOk.cl (P := l.prog) (w := w) (base := base) (ok_draw F__law_draw M) F__law_draw g__law_draw b__law_draw
  have LTR := cl_ltr F__law_tree M g__law_tree b__law_tree N
  have LBU := cl_build 6 F__law_build M g__law_build b__law_build THE CON DIS NEG DIF
  have LTU := cl_true (P := l.prog) (w := w) (base := base) F__law_true M g__law_true b__law_true
  have LSU := FnOk.cl (P := l.prog) (w := w) (base := base) (ok_subs F__law_subsets M) F__law_subsets g__law_subsets b__law_subsets

  have LEN := FnOk.cl (ok_ents 5 F__law_entries M N) F__law_entries g__law_entries b__law_entries
  exact ok_law F_law M DR N LEN (LTR 6) DIN (LBU 9) LSU (LTU 9)⟩
end Lw
open PySem PySem.W PyProof.Rows
set_option maxHeartbeats 0 in
theorem PySem.Challenge.cw_lineworks_k55_conditions_have_one_form_holds : PySem.Challenge.rw_lineworks_k55_conditions_have_one_form.Holds := by
  w_on; o_law; k_head; (case hw => w_witness2)
  k_fill
  refine L2.walk_of (l := PySem.Challenge.rw_lineworks_k55_conditions_have_one_form) (n := 63) (k := 20) (x := "script") (CX := fun _ => L2.CX0) (sp := fun w => Lw.sp_law _) rfl (by decide) rfl ⟨rfl, by decide, by decide⟩ (fun w h Y => PySem.W.kIn_of Y) ?F (fun _ _ a ns hl _ hS => ⟨a, ns, rfl, hS, hl, fun _ => rfl⟩) (fun _ _ _ _ _ h => h)
  case F =>
    intro w mg fa h KX G hmg
    refine' Lw.all_mk KX G hmg ?a0 ?i0 ?l0 ?c0 ?k0 ?a1 ?i1 ?l1 ?c1 ?k1 ?a2 ?i2 ?l2 ?c2 ?k2 ?a3 ?i3 ?l3 ?c3 ?k3 ?a4 ?i4 ?l4 ?c4 ?k4 ?a5 ?i5 ?l5 ?c5 ?k5 ?a6 ?i6 ?l6 ?c6 ?k6 ?a7 ?i7 ?l7 ?c7 ?k7 ?a8 ?i8 ?l8 ?c8 ?k8 ?a9 ?i9 ?l9 ?c9 ?k9 ?a10 ?i10 ?l10 ?c10 ?k10 ?a11 ?l11 ?c11 ?k11 ?a12 ?l12 ?c12 ?k12 ?a13 ?l13 ?c13 ?k13 ?a14 ?l14 ?c14 ?k14 ?a15 ?l15 ?c15 ?k15 ?a16 ?l16 ?c16 ?k16 ?a17 ?l17 ?c17 ?k17 ?a18 ?l18 ?c18 ?k18 ?w_NEVER ?w_ALWAYS ?w_FIRST_NODE ?aC_Diagrams ?pg_Diagrams ?hd_Diagrams ?po_Diagrams ?sa_Diagrams ?mk_Diagrams ?kc_Diagrams ?nf_Diagrams_combined ?nf_Diagrams_kept ?nf_Diagrams_numbers ?z_abs ?z_all ?z_any ?z_bool ?z_int ?z_isinstance ?z_len ?z_list ?z_min ?z_range
    (case aC_Diagrams => k_is)
    (case pg_Diagrams => k_is)
    (case hd_Diagrams => k_is)
    (case po_Diagrams => k_is)
    (case sa_Diagrams => k_is)
    (case mk_Diagrams => k_is)
    (case kc_Diagrams => k_is)
    (case nf_Diagrams_combined => k_is)
    (case nf_Diagrams_kept => k_is)
    (case nf_Diagrams_numbers => k_is)
    (case a0 => k_is); (case i0 => k_is); (case l0 => k_is); (case c0 => k_is); (case k0 => k_is)
    (case a1 => k_is); (case i1 => k_is); (case l1 => k_is); (case c1 => k_is); (case k1 => k_is)
    (case a2 => k_is); (case i2 => k_is); (case l2 => k_is); (case c2 => k_is); (case k2 => k_is)
    (case a3 => k_is); (case i3 => k_is); (case l3 => k_is); (case c3 => k_is); (case k3 => k_is)
    (case a4 => k_is); (case i4 => k_is); (case l4 => k_is); (case c4 => k_is); (case k4 => k_is)
    (case a5 => k_is); (case i5 => k_is); (case l5 => k_is); (case c5 => k_is); (case k5 => k_is)
    (case a6 => k_is); (case i6 => k_is); (case l6 => k_is); (case c6 => k_is); (case k6 => k_is)
    (case a7 => k_is); (case i7 => k_is); (case l7 => k_is); (case c7 => k_is); (case k7 => k_is)
    (case a8 => k_is); (case i8 => k_is); (case l8 => k_is); (case c8 => k_is); (case k8 => k_is)
    (case a9 => k_is); (case i9 => k_is); (case l9 => k_is); (case c9 => k_is); (case k9 => k_is)
    (case a10 => k_is); (case i10 => k_is); (case l10 => k_is); (case c10 => k_is); (case k10 => k_is)
    (case a11 => k_is); (case l11 => k_is); (case c11 => k_is); (case k11 => k_is)
    (case a12 => k_is); (case l12 => k_is); (case c12 => k_is); (case k12 => k_is)
    (case a13 => k_is); (case l13 => k_is); (case c13 => k_is); (case k13 => k_is)
    (case a14 => k_is); (case l14 => k_is); (case c14 => k_is); (case k14 => k_is)
    (case a15 => k_is); (case l15 => k_is); (case c15 => k_is); (case k15 => k_is)
    (case a16 => k_is); (case l16 => k_is); (case c16 => k_is); (case k16 => k_is)
    (case a17 => k_is); (case l17 => k_is); (case c17 => k_is); (case k17 => k_is)
    (case a18 => k_is); (case l18 => k_is); (case c18 => k_is); (case k18 => k_is)
    (case w_NEVER => k_is)
    (case w_ALWAYS => k_is)
    (case w_FIRST_NODE => k_is)
    (case z_abs => k_is); (case z_all => k_is); (case z_any => k_is); (case z_bool => k_is); (case z_int => k_is); (case z_isinstance => k_is); (case z_len => k_is); (case z_list => k_is); (case z_min => k_is); (case z_range => k_is)

