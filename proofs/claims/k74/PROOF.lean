import PyProof.Rows.All
import Wide.All
import OpenK.AllK
import Wide.FinOn
import HandS.ForMost
import HandS.Wide
import HandS.IsInst
import HandS.Codes
import HandS.More
import HandS.DictComp
import HandS.Star
import HandS.CallLocal
import HandS.SortKw
import HandS.Set
import HandS.SetBool
import HandS.SetKeys
import HandS.Deep
import HandS.Iter
import HandS.SortInts
import HandS.Zip
import HandS.Rev
import HandS.RevRange
import HandS.Strs
import HandS.Evl
import HandS.Gcd
import KE.KMathGC
import KE.LtSeq
import KE.LtData
import KE.KSortTup
import KE.DataCmp
import KE.KMinKey
import KE.DataMinKey
import KE.DataMinMax
import PySem.Challenge.RW_lineworks_k74_shares_add_up
set_option Elab.async false
set_option linter.all false
set_option maxRecDepth 100000
namespace Lw
open PySem PySem.Spec PyProof.Rows L2
def topS (i : Nat) : Stmt := PySem.Challenge.pw_lineworks_k74_shares_add_up.main.body.getD i (.Pass ⟨0, 0, 0, 0⟩)
abbrev s__wall : Stmt := topS 1
abbrev s_lowest_terms : Stmt := topS 3
abbrev N_lowest_terms : List Str := ["numerator", "denominator", "common"]
theorem sc_lowest_terms : FnScope N_lowest_terms ["numerator", "denominator"] (defScope s_lowest_terms) := ⟨rfl, rfl, rfl, by decide +kernel, rfl, by decide +kernel, by decide +kernel⟩
abbrev s_shares : Stmt := topS 5
abbrev N_shares : List Str := ["store", "condition", "present", "entries", "left", "entry", "added", "number"]
theorem sc_shares : FnScope N_shares ["store", "condition", "present"] (defScope s_shares) := ⟨rfl, rfl, rfl, by decide +kernel, rfl, by decide +kernel, by decide +kernel⟩
abbrev s_added_by_entries : Stmt := topS 6
abbrev N_added_by_entries : List Str := ["store", "condition", "entries", "nodes", "root", "number", "at", "entry", "places", "starts", "holding", "leading", "size", "orders", "added", "without", "there", "start", "with_it", "without_it", "gained", "before", "weights", "_", "one", "other", "more", "weight"]
theorem sc_added_by_entries : FnScope N_added_by_entries ["store", "condition", "entries"] (defScope s_added_by_entries) := ⟨rfl, rfl, rfl, by decide +kernel, rfl, by decide +kernel, by decide +kernel⟩
abbrev s_sets_below : Stmt := topS 7
abbrev N_sets_below : List Str := ["nodes", "starts", "found", "at", "_", "without", "there", "start", "missing", "grown"]
theorem sc_sets_below : FnScope N_sets_below ["nodes", "starts"] (defScope s_sets_below) := ⟨rfl, rfl, rfl, by decide +kernel, rfl, by decide +kernel, by decide +kernel⟩
abbrev s_sets_above : Stmt := topS 8
abbrev N_sets_above : List Str := ["nodes", "starts", "root", "start", "found", "at", "_", "without", "there", "missing", "grown"]
theorem sc_sets_above : FnScope N_sets_above ["nodes", "starts", "root"] (defScope s_sets_above) := ⟨rfl, rfl, rfl, by decide +kernel, rfl, by decide +kernel, by decide +kernel⟩
abbrev s_spread : Stmt := topS 9
abbrev N_spread : List Str := ["counts", "free", "found", "_"]
theorem sc_spread : FnScope N_spread ["counts", "free"] (defScope s_spread) := ⟨rfl, rfl, rfl, by decide +kernel, rfl, by decide +kernel, by decide +kernel⟩
abbrev s_sums : Stmt := topS 10
abbrev N_sums : List Str := ["first", "second", "one", "other"]
theorem sc_sums : FnScope N_sums ["first", "second"] (defScope s_sums) := ⟨rfl, rfl, rfl, by decide +kernel, rfl, by decide +kernel, by decide +kernel⟩
abbrev s_Diagrams___init__ : Stmt := inClass (topS 15) 0
abbrev N_Diagrams___init__ : List Str := ["self"]
theorem sc_Diagrams___init__ : FnScope N_Diagrams___init__ ["self"] (defScope s_Diagrams___init__) := ⟨rfl, rfl, rfl, by decide +kernel, rfl, by decide +kernel, by decide +kernel⟩
abbrev s_Diagrams_there : Stmt := inClass (topS 15) 1
abbrev N_Diagrams_there : List Str := ["self", "entry"]
theorem sc_Diagrams_there : FnScope N_Diagrams_there ["self", "entry"] (defScope s_Diagrams_there) := ⟨rfl, rfl, rfl, by decide +kernel, rfl, by decide +kernel, by decide +kernel⟩
abbrev s_Diagrams_conjunction : Stmt := inClass (topS 15) 2
abbrev N_Diagrams_conjunction : List Str := ["self", "first", "second"]
theorem sc_Diagrams_conjunction : FnScope N_Diagrams_conjunction ["self", "first", "second"] (defScope s_Diagrams_conjunction) := ⟨rfl, rfl, rfl, by decide +kernel, rfl, by decide +kernel, by decide +kernel⟩
abbrev s_Diagrams_disjunction : Stmt := inClass (topS 15) 3
abbrev N_Diagrams_disjunction : List Str := ["self", "first", "second"]
theorem sc_Diagrams_disjunction : FnScope N_Diagrams_disjunction ["self", "first", "second"] (defScope s_Diagrams_disjunction) := ⟨rfl, rfl, rfl, by decide +kernel, rfl, by decide +kernel, by decide +kernel⟩
abbrev s_Diagrams_negation : Stmt := inClass (topS 15) 4
abbrev N_Diagrams_negation : List Str := ["self", "condition"]
theorem sc_Diagrams_negation : FnScope N_Diagrams_negation ["self", "condition"] (defScope s_Diagrams_negation) := ⟨rfl, rfl, rfl, by decide +kernel, rfl, by decide +kernel, by decide +kernel⟩
abbrev s_Diagrams_differs : Stmt := inClass (topS 15) 5
abbrev N_Diagrams_differs : List Str := ["self", "first", "second"]
theorem sc_Diagrams_differs : FnScope N_Diagrams_differs ["self", "first", "second"] (defScope s_Diagrams_differs) := ⟨rfl, rfl, rfl, by decide +kernel, rfl, by decide +kernel, by decide +kernel⟩
abbrev s_Diagrams_restrict : Stmt := inClass (topS 15) 6
abbrev N_Diagrams_restrict : List Str := ["self", "condition", "entry", "is_there", "nodes", "root", "known", "asked", "without", "there"]
theorem sc_Diagrams_restrict : FnScope N_Diagrams_restrict ["self", "condition", "entry", "is_there"] (defScope s_Diagrams_restrict) := ⟨rfl, rfl, rfl, by decide +kernel, rfl, by decide +kernel, by decide +kernel⟩
abbrev s_Diagrams_holds : Stmt := inClass (topS 15) 7
abbrev s_Diagrams_depends : Stmt := inClass (topS 15) 8
abbrev N_Diagrams_depends : List Str := ["self", "condition", "nodes", "_", "entry"]
theorem sc_Diagrams_depends : FnScope N_Diagrams_depends ["self", "condition"] (defScope s_Diagrams_depends) := ⟨rfl, rfl, rfl, by decide +kernel, rfl, by decide +kernel, by decide +kernel⟩
abbrev s_Diagrams_size : Stmt := inClass (topS 15) 9
abbrev s_Diagrams_implies : Stmt := inClass (topS 15) 10
abbrev s_Diagrams_helps : Stmt := inClass (topS 15) 11
abbrev s_Diagrams_hurts : Stmt := inClass (topS 15) 12
abbrev s_Diagrams_ways : Stmt := inClass (topS 15) 13
abbrev s_Diagrams_first_set : Stmt := inClass (topS 15) 14
abbrev s_Diagrams_table : Stmt := inClass (topS 15) 15
abbrev N_Diagrams_table : List Str := ["self", "condition", "nodes", "numbers"]
theorem sc_Diagrams_table : FnScope N_Diagrams_table ["self", "condition"] (defScope s_Diagrams_table) := ⟨rfl, rfl, rfl, by decide +kernel, rfl, by decide +kernel, by decide +kernel⟩
abbrev s_Diagrams_listed : Stmt := inClass (topS 15) 16
abbrev N_Diagrams_listed : List Str := ["self", "conditions", "nodes", "numbers", "left", "condition", "entry", "without", "there", "waiting", "part"]
theorem sc_Diagrams_listed : FnScope N_Diagrams_listed ["self", "conditions"] (defScope s_Diagrams_listed) := ⟨rfl, rfl, rfl, by decide +kernel, rfl, by decide +kernel, by decide +kernel⟩
abbrev s_Diagrams_top : Stmt := inClass (topS 15) 17
abbrev N_Diagrams_top : List Str := ["self", "conditions", "condition"]
theorem sc_Diagrams_top : FnScope N_Diagrams_top ["self", "conditions"] (defScope s_Diagrams_top) := ⟨rfl, rfl, rfl, by decide +kernel, rfl, by decide +kernel, by decide +kernel⟩
abbrev s_Diagrams_branches : Stmt := inClass (topS 15) 18
abbrev N_Diagrams_branches : List Str := ["self", "condition", "entry", "asked", "without", "there"]
theorem sc_Diagrams_branches : FnScope N_Diagrams_branches ["self", "condition", "entry"] (defScope s_Diagrams_branches) := ⟨rfl, rfl, rfl, by decide +kernel, rfl, by decide +kernel, by decide +kernel⟩
abbrev s_Diagrams_node_of : Stmt := inClass (topS 15) 19
abbrev N_Diagrams_node_of : List Str := ["self", "condition"]
theorem sc_Diagrams_node_of : FnScope N_Diagrams_node_of ["self", "condition"] (defScope s_Diagrams_node_of) := ⟨rfl, rfl, rfl, by decide +kernel, rfl, by decide +kernel, by decide +kernel⟩
abbrev s_Diagrams_node : Stmt := inClass (topS 15) 20
abbrev N_Diagrams_node : List Str := ["self", "entry", "without", "there", "made"]
theorem sc_Diagrams_node : FnScope N_Diagrams_node ["self", "entry", "without", "there"] (defScope s_Diagrams_node) := ⟨rfl, rfl, rfl, by decide +kernel, rfl, by decide +kernel, by decide +kernel⟩
abbrev s_Diagrams_combine : Stmt := inClass (topS 15) 21
abbrev N_Diagrams_combine : List Str := ["self", "condition", "first", "second", "asked", "entry", "without", "there", "first_without", "first_there", "second_without", "second_there"]
theorem sc_Diagrams_combine : FnScope N_Diagrams_combine ["self", "condition", "first", "second"] (defScope s_Diagrams_combine) := ⟨rfl, rfl, rfl, by decide +kernel, rfl, by decide +kernel, by decide +kernel⟩
abbrev s__law_draw : Stmt := topS 17
abbrev N__law_draw : List Str := ["script"]
theorem sc__law_draw : FnScope N__law_draw ["script"] (defScope s__law_draw) := ⟨rfl, rfl, rfl, by decide +kernel, rfl, by decide +kernel, by decide +kernel⟩
abbrev s__law_next : Stmt := topS 18
abbrev N__law_next : List Str := ["draw", "many", "found", "cell"]
theorem sc__law_next : FnScope N__law_next ["draw", "many"] (defScope s__law_next) := ⟨rfl, rfl, rfl, by decide +kernel, rfl, by decide +kernel, by decide +kernel⟩
abbrev s__law_entries : Stmt := topS 19
abbrev N__law_entries : List Str := ["draw", "most", "entries", "last", "k"]
theorem sc__law_entries : FnScope N__law_entries ["draw", "most"] (defScope s__law_entries) := ⟨rfl, rfl, rfl, by decide +kernel, rfl, by decide +kernel, by decide +kernel⟩
abbrev s__law_tree : Stmt := topS 20
abbrev N__law_tree : List Str := ["draw", "entries", "depth", "form", "first"]
theorem sc__law_tree : FnScope N__law_tree ["draw", "entries", "depth"] (defScope s__law_tree) := ⟨rfl, rfl, rfl, by decide +kernel, rfl, by decide +kernel, by decide +kernel⟩
abbrev s__law_build : Stmt := topS 21
abbrev N__law_build : List Str := ["store", "tree", "first", "second"]
theorem sc__law_build : FnScope N__law_build ["store", "tree"] (defScope s__law_build) := ⟨rfl, rfl, rfl, by decide +kernel, rfl, by decide +kernel, by decide +kernel⟩
abbrev s__law_true : Stmt := topS 22
abbrev N__law_true : List Str := ["tree", "present", "first", "second"]
theorem sc__law_true : FnScope N__law_true ["tree", "present"] (defScope s__law_true) := ⟨rfl, rfl, rfl, by decide +kernel, rfl, by decide +kernel, by decide +kernel⟩
abbrev s__law_subsets : Stmt := topS 23
abbrev s__law_common : Stmt := topS 24
abbrev N__law_common : List Str := ["first", "second", "k", "quotient"]
theorem sc__law_common : FnScope N__law_common ["first", "second"] (defScope s__law_common) := ⟨rfl, rfl, rfl, by decide +kernel, rfl, by decide +kernel, by decide +kernel⟩
abbrev s__law_lowest : Stmt := topS 25
abbrev s_law : Stmt := topS 26
abbrev N_law : List Str := ["script", "draw", "entries", "tree", "entry", "present", "store", "condition", "under", "total", "numerator", "denominator", "over"]
theorem sc_law : FnScope N_law ["script"] (defScope s_law) := ⟨rfl, rfl, rfl, by decide +kernel, rfl, by decide +kernel, by decide +kernel⟩
/-! ### heaps and calls -/
theorem same_upd {H : Hp} {p : Addr} {o : HO} (h : H p = none) : Same H (upd H p o) := fun b x e => by
  rw [upd_ne (ne_of_none e h)]
  exact e
/-- what stood stands, but for the object at d -/
def Fd (d : Addr) (H H' : Hp) : Prop := ∀ b o, b ≠ d → H b = some o → H' b = some o
theorem Fd.refl (d : Addr) (H : Hp) : Fd d H H := fun _ _ _ e => e
theorem Fd.trans {d : Addr} {H H1 H2 : Hp} (a : Fd d H H1) (b : Fd d H1 H2) : Fd d H H2 := fun c o n e => b c o n (a c o n e)
theorem Fd.of {d : Addr} {H H' : Hp} (a : Same H H') : Fd d H H' := fun b o _ e => a b o e
theorem Fd.new {d : Addr} {H : Hp} {p : Addr} {o : HO} (h : H p = none) : Fd d H (upd H p o) := Fd.of (same_upd h)
theorem Fd.at {d : Addr} {H : Hp} {o : HO} : Fd d H (upd H d o) := fun b x n e => by
  rw [upd_ne n]
  exact e
/-- a def that may be called by its name -/
structure Cl (P : Program) (w : World) (K : PySem.W.Frag) (mg : Str → Option Value) (base : Heap) (k : Nat) (x : Str) (sp : Sp) : Prop where
  ex : ∃ (f : Addr) (fd : FuncData) (ps : List Str), FnOk P w K mg base CX0 k f fd ps sp ∧ mg x = some (.ref f) ∧ PySem.W.keepIn K (.ref f) = true ∧ Binds K fd ps []
section
variable {X : Cx} {k j : Nat} {x : Str} {sp : Sp} {p pos : Pos} {e : Expr} {es : List Expr} {t : TA}
theorem pe_u (c : Cl X.prog X.w X.K X.mg X.base k x sp) (hr : Room j X.A) (hk : k ≤ j) (hg : Gl X x) (ha : PA X (e :: es) t)
    (hdb : (x == ("__debug__" : Str)) = false := by decide) (he : starEach (e :: es) X.env = (false, eval e X.env) :: starEach es X.env := by rfl) (hpl : (backTo pos (starEach es X.env)).any (·.1) = false := by rfl) :
    PE X (.Call (.Name x p) (e :: es) [] pos) (tCall sp [] E0 t) := by
  obtain ⟨f, fd, ps, F, hm, kp, b⟩ := c.ex
  exact pe_call F (hr.mono hk) hg hm kp b .nil pass0 ha hdb he hpl
theorem pe_u0 (c : Cl X.prog X.w X.K X.mg X.base k x sp) (hr : Room j X.A) (hk : k ≤ j) (hg : Gl X x) (hdb : (x == ("__debug__" : Str)) = false := by decide) : PE X (.Call (.Name x p) [] [] pos) (tCall sp [] E0 tNil) := by
  obtain ⟨f, fd, ps, F, hm, kp, b⟩ := c.ex
  exact pe_call0 F (hr.mono hk) hg hm kp b .nil pass0 hdb
end
theorem FnOk.cl {P : Program} {w : World} {K : PySem.W.Frag} {mg : Str → Option Value} {base : Heap} {k : Nat} {x q : Str} {st : Stmt} {f : Addr} {fd : FuncData} {ps : List Str} {sp : Sp} (h : FnOk P w K mg base CX0 k f fd ps sp) (F : Fun K x q st f fd) (g : mg x = some (.ref f)) (b : Binds K fd ps []) : Cl P w K mg base k x sp := ⟨f, fd, ps, h, g, F.kp, b⟩
/-! ### rules with the written part named (within a comprehension) -/
section
variable {X : Cx} (K : PySem.W.Frag)
theorem ix_listK (h : X.K = K := by rfl) : IxR X (rIxL K) := by subst h; exact ix_list
theorem ix_tupK (h : X.K = K := by rfl) : IxR X (rIxT K) := by subst h; exact ix_tup
theorem ix_seqK (h : X.K = K := by rfl) : IxR X (rIx K) := by subst h; exact ix_seq
theorem len_seqK (h : X.K = K := by rfl) : CallR X (.builtin "len") (fun xs H Q => ∃ p ys, xs = [.ref p] ∧ (SqL K H p ys ∨ SqT K H p ys) ∧ Q (.int ys.length) H) := by subst h; exact call_len_seq
theorem isiK (h : X.K = K := by rfl) : CallR X (.builtin "isinstance") (rIsi K) := by subst h; exact call_isi
theorem isiTK (h : X.K = K := by rfl) : CallR X (.builtin "isinstance") (rIsiT K) := by subst h; exact call_isiT
theorem allK (hc : X.calm = true) (h : X.K = K := by rfl) : CallR X (.builtin "all") (rAll K) := by subst h; exact cr_all hc
theorem listK (h : X.K = K := by rfl) : CallR X (.type "list") (fun xs H Q => ∃ p ys, xs = [.ref p] ∧ (SqL K H p ys ∨ SqT K H p ys) ∧ ∀ l, H l = none → Q (.ref l) (upd H l (.lst ys))) := by subst h; exact call_list_of
theorem tupleK (h : X.K = K := by rfl) : CallR X (.type "tuple") (fun xs H Q => ∃ p ys, xs = [.ref p] ∧ ((SqL K H p ys ∧ ∀ l, H l = none → Q (.ref l) (upd H l (.tup ys))) ∨ (SqT K H p ys ∧ Q (.ref p) H))) := by subst h; exact call_tuple_of
theorem inK (h : X.K = K := by rfl) : OpR X (compareOp .In) (rIn K false) := by subst h; exact op_in_seq
theorem notInK (h : X.K = K := by rfl) : OpR X (compareOp .NotIn) (rIn K true) := by subst h; exact op_notIn_seq
theorem pe_bmK {T : String} {name : Str} {id : String} {r : V → List V → Hp → VK → Prop} {o e : Expr} {es : List Expr} {to : TE} {t : TA} {apos cpos : Pos} (pa : PlainAttrs T) (slot : Slot T name id) (hty : typeOf (.builtin id) = pure (.type "method_descriptor")) (hm : MtR X id r) (ho : PE X o to) (ha : PA X (e :: es) t) (hK : X.K = K := by rfl)
    (hbase : attributeBase o name X.env (eval o X.env) = eval o X.env := by rfl)
    (hfew : ((backTo cpos (starEach (e :: es) X.env)).all (fun x => !x.1) && (backToKw cpos (keywordEach [] X.env)).all (fun x => x.1.isSome)
      && decide ((e :: es).length + ([] : List Keyword).length + (if ([] : List Keyword).isEmpty then 0 else 1) < 30)) = true := by rfl)
    (hline : (apos.endLine == cpos.line) = true := by rfl) (hs : starEach (e :: es) X.env = (false, eval e X.env) :: starEach es X.env := by rfl) (hplain : (backTo cpos (starEach es X.env)).any (·.1) = false := by rfl) :
    PE X (.Call (.Attribute o name apos) (e :: es) [] cpos) (tBM K T r to t) := by subst hK; exact pe_bm pa slot hty hm ho ha hbase hfew hline hs hplain
theorem pt_truthK {a : Expr} {ta : TE} (ha : PE X a ta) (he : ∀ whole, isTrue a X.env whole = (do let v ← whole; standAt a.pos; holding [v] (truthy v))) (h : X.K = K := by rfl) : PT X a (fun σ H Q => ta σ H fun x H' => ∃ k, TruV K x H' k ∧ Q k H') := by subst h; exact pt_truth ha he
theorem eqDK (hu : X.A.units + 64 < cLine) (h : X.K = K := by rfl) : OpR X (compareOp .Eq) (rEqD K) := by subst h; exact op_eqD hu
theorem neDK (hu : X.A.units + 64 < cLine) (h : X.K = K := by rfl) : OpR X (compareOp .NotEq) (rNeD K) := by subst h; exact op_neD hu
end
/-- over the signs of a text -/
theorem for_strs {x : Str} {g : TG} {tb : TS} {D : Ends} {σ : L2.St} {H : Hp} (Pv : Nat → L2.St → Hp → Prop) (h0 : Pv 0 σ H)
    (hs : ∀ i c σ H, x.cps.toList[i]? = some c → Pv i σ H → g (.str ⟨#[c]⟩) σ H fun σ2 H2 => tb { D with nx := Pv (i + 1), ct := Pv (i + 1), bk := D.nx } σ2 H2) (hd : ∀ σ H, Pv x.cps.toList.length σ H → D.nx σ H) :
    ∃ W : Nat → Nat → L2.St → Hp → Prop, (∃ m, W 0 m σ H) ∧ ∀ i m σ H, W i m σ H →
      ((Its x).stop i H ∧ D.nx σ H) ∨ ((Its x).go i H ∧ ∃ N : L2.St → Hp → Prop, (∀ σ' H', N σ' H' → ∃ m', m' < m ∧ W (i + 1) m' σ' H') ∧ ∀ v H', (Its x).yld i H v H' → g v σ H' fun σ2 H2 => tb { D with nx := N, ct := N, bk := D.nx } σ2 H2) := by
  have es : x.cps.toList.length = x.cps.size := by simp
  refine ⟨fun i m σ H => m = x.cps.size - i ∧ i ≤ x.cps.size ∧ Pv i σ H, ⟨x.cps.size, by simp, Nat.zero_le _, h0⟩, ?_⟩
  rintro i m σ H ⟨rfl, hi, p⟩
  by_cases hlt : i < x.cps.size
  · refine .inr ⟨hlt, Pv (i + 1), fun σ' H' p' => ⟨x.cps.size - (i + 1), by omega, rfl, hlt, p'⟩, fun v H' y => ?_⟩
    obtain ⟨e, c, hc, rfl⟩ := y
    subst e
    exact hs i c σ _ (by rw [Array.getElem?_toList]; exact hc) p
  · have e : i = x.cps.size := by omega
    subst e
    exact .inl ⟨Nat.le_refl _, hd σ H (by rw [es]; exact p)⟩
theorem joinL0 : ∀ ps : List (List Nat), TL.joinL [] ps = ps.flatten
  | [] => rfl
  | [p] => by
    show p = p ++ []
    rw [List.append_nil]
  | p :: q :: r => by
    show p ++ ([] ++ TL.joinL [] (q :: r)) = p ++ (q :: r).flatten
    rw [joinL0 (q :: r), List.nil_append]
theorem join0 (ys : List Str) : Txt.join ⟨#[]⟩ ys = ⟨((ys.map TL.tl).flatten).toArray⟩ := by
  refine TL.ext_tl ?_
  rw [TL.join_eq, TL.tl_join]
  show TL.joinL [] _ = _
  rw [joinL0]
theorem flat_len : ∀ ys : List Str, ((ys.map TL.tl).flatten).length = (ys.map (·.length)).sum
  | [] => rfl
  | y :: ys => by
    rw [List.map_cons, List.flatten_cons, List.length_append, flat_len ys, List.map_cons, List.sum_cons]
    show y.cps.toList.length + _ = _
    rw [Array.length_toList]
    rfl
theorem S_len' (l : List Nat) : (⟨l.toArray⟩ : Str).length = l.length := by simp [Str.length]
theorem cut_to (l : List Nat) {o : Nat} (h : o ≤ l.length) : cutS ⟨l.toArray⟩ none (some (o : Int)) = ⟨(l.take o).toArray⟩ := by
  unfold cutS
  rw [HT.sIx_none, HT.sIx_nat, S_len', Nat.sub_zero, Nat.min_eq_left h]
  show (⟨((l.drop 0).take o).toArray⟩ : Str) = _
  rw [List.drop_zero]
theorem str1 (c : Nat) (d : Nat) : decide (V.str ⟨#[c]⟩ = V.str ⟨#[d]⟩) = decide (c = d) := by
  by_cases h : c = d
  · subst h
    rw [decide_eq_true rfl, decide_eq_true rfl]
  · rw [decide_eq_false h, decide_eq_false]
    intro e
    have e1 := V.str.inj e
    have e2 := Array.toList_inj.mpr (Str.mk.inj e1)
    exact h (by simpa using e2)
def tx (l : List Nat) : V := .str ⟨l.toArray⟩
/-- a comprehension's scope within another scope -/
def relS (scope sc : Scope) : Scope := { scope with names := scope.names.map fun (n, k) => if (k == .free && sc.kind == .function && sc.names.lookup n == some .cell) then (n, .cell) else (n, k) }
theorem anyK {X : Cx} (K : PySem.W.Frag) (hc : X.calm = true) (h : X.K = K := by rfl) : CallR X (.builtin "any") (rAny K) := by subst h; exact cr_any hc
theorem pi_listK {X : Cx} (K : PySem.W.Frag) {l tg : Expr} {tl : TE} (hl : PE X l tl) (h : X.K = K := by rfl) : PI X tg l (iList K tl) := by subst h; exact pi_list hl
theorem pi_tupK {X : Cx} (K : PySem.W.Frag) {l tg : Expr} {tl : TE} (hl : PE X l tl) (h : X.K = K := by rfl) : PI X tg l (iTup K tl) := by subst h; exact pi_tup hl

structure Mg (mg : Str → Option Value) : Prop where
  abs : mg "abs" = none
  enumerate : mg "enumerate" = none
  int : mg "int" = none
  len : mg "len" = none
  list : mg "list" = none
  min : mg "min" = none
  range : mg "range" = none
  reversed : mg "reversed" = none
  sorted : mg "sorted" = none
  sum : mg "sum" = none
  zip : mg "zip" = none
/-! ### the law's draws: a list of the script's copy, a place in it, what is left of a great number, a seed -/
def Dr (H : Hp) (d c : Addr) : Prop := c ≠ d ∧ ∃ (ns : List Int) (pos rest seed : Int), H d = some (.lst [.ref c, .int pos, .int rest, .int seed]) ∧ H c = some (.lst (ns.map V.int)) ∧ 0 ≤ pos ∧ 0 ≤ rest ∧ 0 ≤ seed ∧ seed < 2147483647
theorem Dr.ext {H H' : Hp} {d c : Addr} (h : Dr H d c) (e : Same H H') : Dr H' d c := by
  obtain ⟨n, ns, pos, rest, seed, h1, h2, r⟩ := h
  exact ⟨n, ns, pos, rest, seed, e _ _ h1, e _ _ h2, r⟩
theorem Dr.upd {H : Hp} {d c p : Addr} {o : HO} (h : Dr H d c) (n1 : p ≠ d) (n2 : p ≠ c) : Dr (upd H p o) d c := by
  obtain ⟨n, ns, pos, rest, seed, h1, h2, r⟩ := h
  exact ⟨n, ns, pos, rest, seed, by rw [upd_ne n1.symm]; exact h1, by rw [upd_ne n2.symm]; exact h2, r⟩
theorem Dr.nd {H : Hp} {d c p : Addr} (h : Dr H d c) (n : H p = none) : p ≠ d := by
  obtain ⟨_, ns, pos, rest, seed, h1, _⟩ := h
  exact (ne_of_none h1 n).symm
theorem Dr.nc {H : Hp} {d c p : Addr} (h : Dr H d c) (n : H p = none) : p ≠ c := by
  obtain ⟨_, ns, pos, rest, seed, _, h2, _⟩ := h
  exact (ne_of_none h2 n).symm
theorem Dr.lst {H : Hp} {d c : Addr} (h : Dr H d c) : ∃ zs, H d = some (.lst zs) := by
  obtain ⟨_, ns, pos, rest, seed, h1, _⟩ := h
  exact ⟨_, h1⟩
theorem Dr.lift {H H' : Hp} {d c d' c' : Addr} (_h : Dr H d c) (h' : Dr H' d' c') : Dr H' d' c' := h'
def sp_draw (K : PySem.W.Frag) : Sp := fun vs H Q _ => ∃ (a : Addr) (ns : List Int), vs = [.ref a] ∧ SqL K H a (ns.map V.int) ∧ ∀ H' d c, Same H H' → H d = none → Dr H' d c → Q (.ref d) H'
/-- a draw: some number below many -/
def sp_next : Sp := fun vs H Q _ => ∃ (d c : Addr) (many : Int), vs = [.ref d, .int many] ∧ Dr H d c ∧ 1 ≤ many ∧ many < 2 ^ 64 ∧ ∀ H' r, Fd d H H' → (∀ p, p ≠ d → H' p = H p) → Dr H' d c → 0 ≤ r → r < many → Q (.int r) H'
section
variable {P : Program} {w : World} {K : PySem.W.Frag} {mg : Str → Option Value} {base : Heap}
theorem ok_draw {f : Addr} {fd : FuncData} (F : Fun K "_law_draw" "_law_draw" s__law_draw f fd) (M : Mg mg) : FnOk P w K mg base CX0 1 f fd ["script"] (sp_draw K) := by
  refine F.ok sc__law_draw (fun vs H Q E h => ?_) (fun cdv A outer s H vs Q E hr h => ?_)
  · obtain ⟨a, ns, rfl, _⟩ := h
    rfl
  · obtain ⟨a, ns, rfl, hS, q⟩ := h
    refine ⟨_, (pss_one (ps_ret (pe_lst (pa_cons (pe_callTy (listK K) (by rfl) M.list (by decide +kernel) (pa_cons (pv 0) pa_nil)) (pa_cons pe_int (pa_cons pe_int (pa_cons pe_int pa_nil))))))), ?_⟩
    refine ⟨_, rfl, a, _, rfl, .inl hS, fun c nc => ?_⟩
    refine ⟨by show 4 ≤ sizeLine; decide, fun d nd => ?_⟩
    have hc : (upd H c (.lst (ns.map V.int))) c = some (.lst (ns.map V.int)) := upd_same
    have ncd : c ≠ d := ne_of_none hc nd
    have s1 := (same_upd nc (o := .lst (ns.map V.int))).trans (same_upd nd (o := .lst [.ref c, .int 0, .int 0, .int 17]))
    refine q _ d c s1 ((same_upd nc).free nd) ⟨ncd, ns, 0, 0, 17, upd_same, ?_, by decide, by decide, by decide, by decide⟩
    rw [upd_ne ncd]
    exact hc
theorem next_aux {H : Hp} {d c : Addr} {xs' : List V} {pos rest seed : Int} {ns : List Int} (hn : c ≠ d) (h2 : H c = some (.lst (ns.map V.int))) (hx : xs' = [.ref c, .int pos, .int rest, .int seed]) (h0 : 0 ≤ pos) (h1 : 0 ≤ rest) (h3 : 0 ≤ seed) (h4 : seed < 2147483647) : Dr (upd H d (.lst xs')) d c := by
  subst hx
  refine ⟨hn, ns, pos, rest, seed, upd_same, ?_, h0, h1, h3, h4⟩
  rw [upd_ne hn]
  exact h2
theorem ok_next {f : Addr} {fd : FuncData} (F : Fun K "_law_next" "_law_next" s__law_next f fd) (M : Mg mg) : FnOk P w K mg base CX0 1 f fd ["draw", "many"] sp_next := by
  refine F.ok sc__law_next (fun vs H Q E h => ?_) (fun cdv A outer s H vs Q E hr h => ?_)
  · obtain ⟨d, c, many, rfl, _⟩ := h
    rfl
  · obtain ⟨d, c, many, rfl, ⟨ncd, ns, pos, rest, seed, h1, h2, h0, h3, h4, h5⟩, hm1, hm2, q⟩ := h
    have hdv : ∀ x : Int, CDivW x many := fun x => wide_div (b := 64) (by omega) (by omega) (by decide) (by decide)
    have hcd : d ≠ c := ncd.symm
    have L0 : SqL K H d [.ref c, .int pos, .int rest, .int seed] := .of h1
    have at0 : ∀ (a b e g : V), atI [a, b, e, g] (0 : Int) = some a := fun a b e g => atI_nat (j := 0) rfl
    have at1 : ∀ (a b e g : V), atI [a, b, e, g] (1 : Int) = some b := fun a b e g => atI_nat (j := 1) rfl
    have at2 : ∀ (a b e g : V), atI [a, b, e, g] (2 : Int) = some e := fun a b e g => atI_nat (j := 2) rfl
    have at3 : ∀ (a b e g : V), atI [a, b, e, g] (3 : Int) = some g := fun a b e g => atI_nat (j := 3) rfl
    have fr : ∀ (H0 : Hp) (o : HO), (∀ p, p ≠ d → H0 p = H p) → (∀ p, p ≠ d → (upd H0 d o) p = H p) := fun H0 o e p n => by rw [upd_ne n]; exact e p n
    have fF : ∀ (H0 : Hp), (∀ p, p ≠ d → H0 p = H p) → Fd d H H0 := fun H0 e b o n h => by rw [e b n]; exact h
    -- the last row's value
    have last : ∀ (seed' : Int), 0 ≤ seed' → seed' < 2147483647 → ∀ H0 : Hp, (∀ p, p ≠ d → H0 p = H p) → (∃ pos rest, H0 d = some (.lst [.ref c, .int pos, .int rest, .int seed']) ∧ 0 ≤ pos ∧ 0 ≤ rest) → Q (.int ((seed' * 69621 % 2147483629 / 7) % many)) H0 := by
      intro seed' g0 g1 H0 e ⟨pos', rest', g2, g3, g4⟩
      exact q H0 _ (fF _ e) e ⟨ncd, ns, pos', rest', seed', g2, by rw [e c ncd]; exact h2, g3, g4, g0, g1⟩ (Int.emod_nonneg _ (by omega)) (Int.emod_lt_of_pos _ (by omega))
    refine ⟨_, (pss_cons (ps_if (pt_cmpR op_gt (pe_ix (ix_listK K) (pv 0) pe_int (fun _ _ => rfl)) pe_int (nomark _)) (pss_cons (ps_set (i := 2) sc__law_next.nd rfl (.inl rfl) (pe_op op_mod (pe_callTy call_int1 (by rfl) M.int (by decide +kernel) (pa_cons (pe_ix (ix_listK K) (pv 0) pe_int (fun _ _ => rfl)) pa_nil)) (pv 1)))
      (pss_cons (ps_asg (pe_op op_fdivW (pe_ix (ix_listK K) (pv 0) pe_int (fun _ _ => rfl)) (pv 1)) (pg_sub (pv 0) pe_int set_list))
      (pss_one (ps_ret (pv 2))))) pss_nil)
      (pss_cons (ps_if (pt_cmpR op_lt (pe_ix (ix_listK K) (pv 0) pe_int (fun _ _ => rfl)) (pe_callB (len_seqK K) (by rfl) M.len PySem.boot_len (pa_cons (pe_ix (ix_listK K) (pv 0) pe_int (fun _ _ => rfl)) pa_nil)) (nomark _)) (pss_cons (ps_set (i := 3) sc__law_next.nd rfl (.inl rfl) (pe_callB call_abs (by rfl) M.abs (by decide +kernel) (pa_cons (pe_ix (ix_listK K) (pe_ix (ix_listK K) (pv 0) pe_int (fun _ _ => rfl)) (pe_ix (ix_listK K) (pv 0) pe_int (fun _ _ => rfl)) (fun _ _ => rfl)) pa_nil)))
      (pss_cons (ps_asg (pe_op op_add (pe_ix (ix_listK K) (pv 0) pe_int (fun _ _ => rfl)) pe_int) (pg_sub (pv 0) pe_int set_list))
      (pss_cons (ps_if (pt_cmpR op_ge (pv 3) (pe_op op_pow pe_int pe_int) (nomark _)) (pss_cons (ps_asg (pe_op op_fdivW (pv 3) (pv 1)) (pg_sub (pv 0) pe_int set_list))
      (pss_one (ps_ret (pe_op op_mod (pe_callTy call_int1 (by rfl) M.int (by decide +kernel) (pa_cons (pv 3) pa_nil)) (pv 1))))) pss_nil)
      (pss_one (ps_asg (pe_op op_mod (pe_callTy call_int1 (by rfl) M.int (by decide +kernel) (pa_cons (pe_op op_add (pe_op op_add (pe_op op_mul (pe_ix (ix_listK K) (pv 0) pe_int (fun _ _ => rfl)) pe_int) (pv 3)) pe_int) pa_nil)) pe_int) (pg_sub (pv 0) pe_int set_list)))))) (pss_one (ps_asg (pe_op op_mod (pe_callTy call_int1 (by rfl) M.int (by decide +kernel) (pa_cons (pe_op op_add (pe_op op_mul (pe_ix (ix_listK K) (pv 0) pe_int (fun _ _ => rfl)) pe_int) pe_int) pa_nil)) pe_int) (pg_sub (pv 0) pe_int set_list))))
      (pss_one (ps_ret (pe_op op_mod (pe_op op_fdivW (pe_callTy call_int1 (by rfl) M.int (by decide +kernel) (pa_cons (pe_op op_mod (pe_op op_mul (pe_ix (ix_listK K) (pv 0) pe_int (fun _ _ => rfl)) pe_int) pe_int) pa_nil)) pe_int) (pv 1)))))), ?_⟩
    refine ⟨_, rfl, d, _, 2, .int rest, rfl, rfl, L0, at2 .., ?_⟩
    refine ⟨_, _, rfl, rfl, _, rfl, ite2 (fun e => ?_) (fun e => ?_)⟩
    · -- draw[2] > 0
      have hr0 : 0 < rest := of_decide_eq_true e
      refine ⟨_, rfl, d, _, 2, .int rest, rfl, rfl, L0, at2 .., .inl ⟨_, rfl, ?_⟩⟩
      refine ⟨_, rfl, _, _, rfl, rfl, by omega, ?_⟩
      refine ⟨_, rfl, d, _, 2, .int rest, rfl, rfl, L0, at2 .., ?_⟩
      refine ⟨_, rfl, _, _, rfl, rfl, hdv _, ?_⟩
      refine ⟨_, rfl, d, _, 2, 2, rfl, rfl, h1, rfl, ?_⟩
      refine ⟨_, rfl, ?_⟩
      have e1 := fr H (.lst ([.ref c, .int pos, .int rest, .int seed].set 2 (.int (rest / many)))) (fun _ _ => rfl)
      exact q _ _ (fF _ e1) e1 (next_aux ncd h2 rfl h0 (Int.ediv_nonneg h3 (by omega)) h4 h5) (Int.emod_nonneg _ (by omega)) (Int.emod_lt_of_pos _ (by omega))
    · refine ⟨_, rfl, d, _, 1, .int pos, rfl, rfl, L0, at1 .., ?_⟩
      refine ⟨_, rfl, d, _, 0, .ref c, rfl, rfl, L0, at0 .., ?_⟩
      refine ⟨c, _, rfl, .inl (.of h2), ?_⟩
      refine ⟨_, _, rfl, rfl, _, rfl, ite2 (fun e2 => ?_) (fun e2 => ?_)⟩
      · have hp : pos < ((ns.map V.int).length : Int) := of_decide_eq_true e2
        rw [List.length_map] at hp
        obtain ⟨i, rfl⟩ := Int.eq_ofNat_of_zero_le h0
        have hi : i < ns.length := by omega
        have hat : atI (ns.map V.int) ((i : Nat) : Int) = some (.int ns[i]) := atI_nat (by rw [List.getElem?_map, List.getElem?_eq_getElem hi]; rfl)
        -- cell = abs(..)
        refine ⟨_, rfl, d, _, 0, .ref c, rfl, rfl, L0, at0 .., ?_⟩
        refine ⟨_, rfl, d, _, 1, _, rfl, rfl, L0, at1 .., ?_⟩
        refine ⟨c, _, _, _, rfl, rfl, .of h2, hat, ?_⟩
        refine ⟨_, rfl, ?_⟩
        have hcell : (0 : Int) ≤ (if ns[i] < 0 then -ns[i] else ns[i]) := by split <;> omega
        generalize (if ns[i] < 0 then -ns[i] else ns[i]) = cell at hcell
        -- draw[1] = draw[1] + 1
        refine ⟨_, rfl, d, _, 1, _, rfl, rfl, L0, at1 .., ?_⟩
        refine ⟨_, _, rfl, rfl, ?_⟩
        refine ⟨_, rfl, d, _, 1, 1, rfl, rfl, h1, rfl, ?_⟩
        have hd1 : (upd H d (.lst ([.ref c, .int ((i : Nat) : Int), .int rest, .int seed].set 1 (.int ((i : Nat) + 1))))) d = some (.lst [.ref c, .int ((i : Nat) + 1), .int rest, .int seed]) := upd_same
        have e1 := fr H (.lst ([.ref c, .int ((i : Nat) : Int), .int rest, .int seed].set 1 (.int ((i : Nat) + 1)))) (fun _ _ => rfl)
        generalize upd H d (.lst ([.ref c, .int ((i : Nat) : Int), .int rest, .int seed].set 1 (.int ((i : Nat) + 1)))) = H1 at hd1 e1
        have h2' : H1 c = some (.lst (ns.map V.int)) := by rw [e1 c ncd]; exact h2
        -- cell >= 10 ** 18
        refine ⟨_, rfl, _, _, rfl, rfl, ⟨by decide, by decide, by decide⟩, ?_⟩
        refine ⟨_, _, rfl, rfl, _, rfl, ite2 (fun e3 => ?_) (fun e3 => ?_)⟩
        · refine ⟨_, rfl, _, rfl, _, _, rfl, rfl, hdv _, ?_⟩
          refine ⟨_, rfl, d, _, 2, 2, rfl, rfl, hd1, rfl, ?_⟩
          refine ⟨_, rfl, .inl ⟨_, rfl, ?_⟩⟩
          refine ⟨_, rfl, _, _, rfl, rfl, by omega, ?_⟩
          have e5 := fr H1 (.lst ([.ref c, .int ((i : Nat) + 1), .int rest, .int seed].set 2 (.int (cell / many)))) e1
          exact q _ _ (fF _ e5) e5 (next_aux ncd h2' rfl (by omega) (Int.ediv_nonneg hcell (by omega)) h4 h5) (Int.emod_nonneg _ (by omega)) (Int.emod_lt_of_pos _ (by omega))
        · -- draw[3] = ..
          refine ⟨_, rfl, d, _, 3, .int seed, rfl, rfl, .of hd1, at3 .., ?_⟩
          refine ⟨_, _, rfl, rfl, .inl ⟨by omega, by omega⟩, ?_⟩
          refine ⟨_, rfl, _, _, rfl, rfl, ?_⟩
          refine ⟨_, _, rfl, rfl, .inl ⟨_, rfl, ?_⟩⟩
          refine ⟨_, _, rfl, rfl, by show (0 : Int) < 2147483647; decide, ?_⟩
          refine ⟨_, rfl, d, _, 3, 3, rfl, rfl, hd1, rfl, ?_⟩
          have hs0 : 0 ≤ (seed * 48271 + cell + 11) % 2147483647 := Int.emod_nonneg _ (by decide)
          have hs1 : (seed * 48271 + cell + 11) % 2147483647 < 2147483647 := Int.emod_lt_of_pos _ (by decide)
          have e5 := fr H1 (.lst ([.ref c, .int ((i : Nat) + 1), .int rest, .int seed].set 3 (.int ((seed * 48271 + cell + 11) % 2147483647)))) e1
          have hd5 : (upd H1 d (.lst ([.ref c, .int ((i : Nat) + 1), .int rest, .int seed].set 3 (.int ((seed * 48271 + cell + 11) % 2147483647))))) d = some (.lst [.ref c, .int ((i : Nat) + 1), .int rest, .int ((seed * 48271 + cell + 11) % 2147483647)]) := upd_same
          dsimp only
          generalize (seed * 48271 + cell + 11) % 2147483647 = seed' at hs0 hs1 e5 hd5 ⊢
          refine ⟨_, rfl, d, _, 3, .int seed', rfl, rfl, .of hd5, at3 .., ?_⟩
          refine ⟨_, _, rfl, rfl, .inl ⟨by omega, by omega⟩, ?_⟩
          refine ⟨_, _, rfl, rfl, by show (0 : Int) < 2147483629; decide, .inl ⟨_, rfl, ?_⟩⟩
          refine ⟨_, _, rfl, rfl, ⟨by decide, by decide⟩, ?_⟩
          refine ⟨_, rfl, _, _, rfl, rfl, by omega, ?_⟩
          exact last seed' hs0 hs1 _ e5 ⟨_, _, hd5, by omega, h3⟩
      · -- draw[3] = ..
        refine ⟨_, rfl, d, _, 3, .int seed, rfl, rfl, L0, at3 .., ?_⟩
        refine ⟨_, _, rfl, rfl, .inl ⟨by omega, by omega⟩, ?_⟩
        refine ⟨_, _, rfl, rfl, .inl ⟨_, rfl, ?_⟩⟩
        refine ⟨_, _, rfl, rfl, by show (0 : Int) < 2147483647; decide, ?_⟩
        refine ⟨_, rfl, d, _, 3, 3, rfl, rfl, h1, rfl, ?_⟩
        have hs0 : 0 ≤ (seed * 48271 + 12345) % 2147483647 := Int.emod_nonneg _ (by decide)
        have hs1 : (seed * 48271 + 12345) % 2147483647 < 2147483647 := Int.emod_lt_of_pos _ (by decide)
        have e5 := fr H (.lst ([.ref c, .int pos, .int rest, .int seed].set 3 (.int ((seed * 48271 + 12345) % 2147483647)))) (fun _ _ => rfl)
        have hd5 : (upd H d (.lst ([.ref c, .int pos, .int rest, .int seed].set 3 (.int ((seed * 48271 + 12345) % 2147483647))))) d = some (.lst [.ref c, .int pos, .int rest, .int ((seed * 48271 + 12345) % 2147483647)]) := upd_same
        dsimp only
        generalize (seed * 48271 + 12345) % 2147483647 = seed' at hs0 hs1 e5 hd5 ⊢
        refine ⟨_, rfl, d, _, 3, .int seed', rfl, rfl, .of hd5, at3 .., ?_⟩
        refine ⟨_, _, rfl, rfl, .inl ⟨by omega, by omega⟩, ?_⟩
        refine ⟨_, _, rfl, rfl, by show (0 : Int) < 2147483629; decide, .inl ⟨_, rfl, ?_⟩⟩
        refine ⟨_, _, rfl, rfl, ⟨by decide, by decide⟩, ?_⟩
        refine ⟨_, rfl, _, _, rfl, rfl, by omega, ?_⟩
        exact last seed' hs0 hs1 _ e5 ⟨_, _, hd5, h0, h3⟩
end

/-! ### data in the heap -/
theorem SqT.ext {K : PySem.W.Frag} {H H' : Hp} {a : Addr} {xs : List V} (e : Same H H') (h : SqT K H a xs) : SqT K H' a xs := by
  rcases h with (h | ⟨o, h⟩) | h
  · exact .inl (.inl (e _ _ h))
  · exact .inl (.inr ⟨o, e _ _ h⟩)
  · exact .inr h
mutual
theorem Dp.ext {K : PySem.W.Frag} {H H' : Hp} (e : Same H H') : ∀ (d : PyData) (v : V), Dp K H v d → Dp K H' v d
  | .none, _, h => by cases h; exact .non
  | .bool b, _, h => by cases h; exact .bl b
  | .int i, _, h => by cases h; exact .int i
  | .str x, _, h => by cases h; exact .str x
  | .list ds, _, h => by
    cases h with
    | lst hs ha => exact .lst (e.seq hs) (DpAll.ext e ds _ ha)
  | .tuple ds, _, h => by
    cases h with
    | tup hs ha => exact .tup (SqT.ext e hs) (DpAll.ext e ds _ ha)
  | .dict _, _, h => by cases h
theorem DpAll.ext {K : PySem.W.Frag} {H H' : Hp} (e : Same H H') : ∀ (ds : List PyData) (vs : List V), DpAll K H vs ds → DpAll K H' vs ds
  | [], _, h => by cases h; exact .nil
  | d :: ds, _, h => by
    cases h with
    | cons h1 h2 => exact .cons (Dp.ext e d _ h1) (DpAll.ext e ds _ h2)
end
theorem DpAll.len {K : PySem.W.Frag} {H : Hp} : ∀ {ds : List PyData} {vs : List V}, DpAll K H vs ds → vs.length = ds.length
  | [], _, h => by cases h; rfl
  | d :: ds, _, h => by
    cases h with
    | cons h1 h2 => exact congrArg (· + 1) (DpAll.len h2)
theorem DpAll.get {K : PySem.W.Frag} {H : Hp} : ∀ {ds : List PyData} {vs : List V} {i : Nat} {d : PyData}, DpAll K H vs ds → ds[i]? = some d → ∃ v, vs[i]? = some v ∧ Dp K H v d
  | [], _, _, _, _, e => by simp at e
  | x :: ds, _, 0, d, h, e => by
    cases h with
    | cons h1 h2 =>
      have e1 : x = d := Option.some.inj e
      subst e1
      exact ⟨_, rfl, h1⟩
  | x :: ds, _, i + 1, d, h, e => by
    cases h with
    | cons h1 h2 =>
      obtain ⟨v, hv, hd⟩ := DpAll.get (i := i) h2 (by simpa using e)
      exact ⟨v, by simpa using hv, hd⟩
theorem tyL {K : PySem.W.Frag} {H : Hp} {a : Addr} {xs : List V} (h : SqL K H a xs) : TyX K H (.ref a) (.type "list") := by
  rcases h with (h | ⟨o, h⟩) | ⟨o, its, n, h, c, _⟩
  · exact .base (.lst h)
  · exact .base (.frz h)
  · exact .kList h c
theorem tyT {K : PySem.W.Frag} {H : Hp} {a : Addr} {xs : List V} (h : SqT K H a xs) : TyX K H (.ref a) (.type "tuple") := by
  rcases h with (h | ⟨o, h⟩) | ⟨o, its, n, h, c, _⟩
  · exact .base (.tup h)
  · exact .fTuple h
  · exact .kTuple h c
mutual
/-- no list within -/
def tupOnly : PyData → Bool
  | .list _ => false
  | .dict _ => false
  | .tuple ds => tupOnlys ds
  | _ => true
def tupOnlys : List PyData → Bool
  | [] => true
  | d :: ds => tupOnly d && tupOnlys ds
end
mutual
theorem Dp.away {K : PySem.W.Frag} {H : Hp} {D : Addr} {zs : List V} {o : HO} (hD : H D = some (.lst zs)) : ∀ (d : PyData) (v : V), tupOnly d = true → Dp K H v d → Dp K (upd H D o) v d
  | .none, _, _, h => by cases h; exact .non
  | .bool b, _, _, h => by cases h; exact .bl b
  | .int i, _, _, h => by cases h; exact .int i
  | .str x, _, _, h => by cases h; exact .str x
  | .list ds, _, e, _ => by unfold tupOnly at e; cases e
  | .tuple ds, _, e, h => by
    unfold tupOnly at e
    cases h with
    | @tup a _ _ hs ha =>
      refine .tup ?_ (DpAll.away hD ds _ e ha)
      rcases hs with (hs | ⟨o', hs⟩) | hs
      · exact .inl (.inl (by rw [upd_ne (ne_of hs hD (fun z => nomatch z))]; exact hs))
      · exact .inl (.inr ⟨o', by rw [upd_ne (ne_of hs hD (fun z => nomatch z))]; exact hs⟩)
      · exact .inr hs
  | .dict _, _, _, h => by cases h
theorem DpAll.away {K : PySem.W.Frag} {H : Hp} {D : Addr} {zs : List V} {o : HO} (hD : H D = some (.lst zs)) : ∀ (ds : List PyData) (vs : List V), tupOnlys ds = true → DpAll K H vs ds → DpAll K (upd H D o) vs ds
  | [], _, _, h => by cases h; exact .nil
  | d :: ds, _, e, h => by
    unfold tupOnlys at e
    rw [Bool.and_eq_true] at e
    cases h with
    | cons h1 h2 => exact .cons (Dp.away hD d _ e.1 h1) (DpAll.away hD ds _ e.2 h2)
end
theorem DpAll.snoc {K : PySem.W.Frag} {H : Hp} : ∀ {ds : List PyData} {xs : List V} {v : V} {d : PyData}, DpAll K H xs ds → Dp K H v d → DpAll K H (xs ++ [v]) (ds ++ [d])
  | [], _, _, _, h, h2 => by cases h; exact .cons h2 .nil
  | _ :: ds, _, _, _, h, h2 => by
    cases h with
    | cons a b => exact .cons a (DpAll.snoc b h2)
theorem at_0 {α : Type} {xs : List α} {i : Nat} {v : α} (h : xs[i]? = some v) : atI xs (0 + (i : Int)) = some v := by
  rw [Int.zero_add]
  exact atI_nat h
mutual
/-- what is made of tuples stands when another list is changed -/
theorem Dp.fd {K : PySem.W.Frag} {H H' : Hp} {D : Addr} (hD : ∃ zs, H D = some (.lst zs)) (e : Fd D H H') : ∀ (d : PyData) (v : V), tupOnly d = true → Dp K H v d → Dp K H' v d
  | .none, _, _, h => by cases h; exact .non
  | .bool b, _, _, h => by cases h; exact .bl b
  | .int i, _, _, h => by cases h; exact .int i
  | .str x, _, _, h => by cases h; exact .str x
  | .list ds, _, e, _ => by unfold tupOnly at e; cases e
  | .tuple ds, _, e', h => by
    unfold tupOnly at e'
    obtain ⟨zs, hz⟩ := hD
    cases h with
    | @tup a _ _ hs ha =>
      refine .tup ?_ (DpAll.fd ⟨zs, hz⟩ e ds _ e' ha)
      rcases hs with (hs | ⟨o', hs⟩) | hs
      · exact .inl (.inl (e _ _ (ne_of hs hz (fun z => nomatch z)) hs))
      · exact .inl (.inr ⟨o', e _ _ (ne_of hs hz (fun z => nomatch z)) hs⟩)
      · exact .inr hs
  | .dict _, _, _, h => by cases h
theorem DpAll.fd {K : PySem.W.Frag} {H H' : Hp} {D : Addr} (hD : ∃ zs, H D = some (.lst zs)) (e : Fd D H H') : ∀ (ds : List PyData) (vs : List V), tupOnlys ds = true → DpAll K H vs ds → DpAll K H' vs ds
  | [], _, _, h => by cases h; exact .nil
  | d :: ds, _, e', h => by
    unfold tupOnlys at e'
    rw [Bool.and_eq_true] at e'
    cases h with
    | cons h1 h2 => exact .cons (Dp.fd hD e d _ e'.1 h1) (DpAll.fd hD e ds _ e'.2 h2)
end

/-! ### diagrams as trees -/
inductive Bd where
  | lf (b : Bool)
  | nd (e : Int) (w t : Bd)
deriving DecidableEq
def Bd.ev : Bd → (Int → Bool) → Bool
  | .lf b, _ => b
  | .nd e w t, r => if r e = true then t.ev r else w.ev r
/-- its questions ascend, they are all of the list; both sides of a node differ -/
inductive Wf : List Int → Bd → Prop
  | lf {es b} : Wf es (.lf b)
  | here {x es w t} : Wf es w → Wf es t → w ≠ t → Wf (x :: es) (.nd x w t)
  | skip {x es a} : Wf es a → Wf (x :: es) a
def setR (r : Int → Bool) (x : Int) (b : Bool) : Int → Bool := fun y => if y = x then b else r y
theorem setR_same (r : Int → Bool) (x : Int) (b : Bool) : setR r x b x = b := if_pos rfl
theorem setR_ne {r : Int → Bool} {x y : Int} {b : Bool} (h : y ≠ x) : setR r x b y = r y := if_neg h
theorem Wf.away {es : List Int} {a : Bd} (h : Wf es a) : ∀ {x : Int} {b : Bool} {r : Int → Bool}, x ∉ es → a.ev (setR r x b) = a.ev r := by
  induction h with
  | lf => intros; rfl
  | @here y es w t _ _ _ iw it =>
    intro x b r hx
    rw [List.mem_cons, not_or] at hx
    show (if setR r x b y = true then t.ev (setR r x b) else w.ev (setR r x b)) = if r y = true then t.ev r else w.ev r
    rw [setR_ne (Ne.symm hx.1), iw hx.2, it hx.2]
  | @skip y es a _ ih =>
    intro x b r hx
    rw [List.mem_cons, not_or] at hx
    exact ih hx.2
/-- both sides at the question x, which no other one comes ahead of -/
def Bd.cw (x : Int) : Bd → Bd
  | .nd e w t => if e = x then w else .nd e w t
  | a => a
def Bd.ct (x : Int) : Bd → Bd
  | .nd e w t => if e = x then t else .nd e w t
  | a => a
theorem Wf.none_of {es : List Int} {x : Int} {w t : Bd} (h : Wf es (.nd x w t)) : x ∈ es := by
  generalize e : Bd.nd x w t = a at h
  induction h with
  | lf => cases e
  | here _ _ _ => cases e; exact List.mem_cons_self
  | skip _ ih => exact List.mem_cons_of_mem _ (ih e)
theorem Wf.cw {x : Int} {es : List Int} {a : Bd} (hx : x ∉ es) (h : Wf (x :: es) a) : Wf es (a.cw x) ∧ ∀ r, (a.cw x).ev r = a.ev (setR r x false) := by
  cases h with
  | lf => exact ⟨.lf, fun _ => rfl⟩
  | @here _ _ w t hw ht hn =>
    have e1 : (Bd.nd x w t).cw x = w := if_pos rfl
    rw [e1]
    refine ⟨hw, fun r => ?_⟩
    show _ = if setR r x false x = true then _ else _
    rw [setR_same, if_neg Bool.false_ne_true, hw.away hx]
  | skip h =>
    have e : a.cw x = a := by
      cases a with
      | lf b => rfl
      | nd y w t =>
        have hy := h.none_of
        exact if_neg (fun (z : y = x) => hx (z ▸ hy))
    rw [e]
    exact ⟨h, fun r => (h.away hx).symm⟩
theorem Wf.ct {x : Int} {es : List Int} {a : Bd} (hx : x ∉ es) (h : Wf (x :: es) a) : Wf es (a.ct x) ∧ ∀ r, (a.ct x).ev r = a.ev (setR r x true) := by
  cases h with
  | lf => exact ⟨.lf, fun _ => rfl⟩
  | @here _ _ w t hw ht hn =>
    have e1 : (Bd.nd x w t).ct x = t := if_pos rfl
    rw [e1]
    refine ⟨ht, fun r => ?_⟩
    show _ = if setR r x true x = true then _ else _
    rw [setR_same, if_pos rfl, ht.away hx]
  | skip h =>
    have e : a.ct x = a := by
      cases a with
      | lf b => rfl
      | nd y w t =>
        have hy := h.none_of
        exact if_neg (fun (z : y = x) => hx (z ▸ hy))
    rw [e]
    exact ⟨h, fun r => (h.away hx).symm⟩
theorem Wf.cwt_eq {x : Int} {es : List Int} {a : Bd} (hx : x ∉ es) (h : Wf (x :: es) a) : (a.cw x = a.ct x ↔ Wf es a) ∧ (a.cw x = a.ct x → a.cw x = a) ∧ (a.cw x ≠ a.ct x → a = .nd x (a.cw x) (a.ct x)) := by
  have key : ∀ {a : Bd}, Wf es a → a.cw x = a ∧ a.ct x = a := fun {a} h => by
    cases a with
    | lf b => exact ⟨rfl, rfl⟩
    | nd y w t =>
      have hy := h.none_of
      exact ⟨if_neg (fun (z : y = x) => hx (z ▸ hy)), if_neg (fun (z : y = x) => hx (z ▸ hy))⟩
  cases h with
  | lf => exact ⟨⟨fun _ => .lf, fun _ => rfl⟩, fun _ => rfl, fun n => absurd rfl n⟩
  | @here _ _ w t hw ht hn =>
    have e1 : (Bd.nd x w t).cw x = w := if_pos rfl
    have e2 : (Bd.nd x w t).ct x = t := if_pos rfl
    rw [e1, e2]
    exact ⟨⟨fun e => absurd e hn, fun h => absurd h.none_of hx⟩, fun e => absurd e hn, fun _ => rfl⟩
  | skip h =>
    obtain ⟨e1, e2⟩ := key h
    rw [e1, e2]
    exact ⟨⟨fun _ => h, fun _ => rfl⟩, fun _ => rfl, fun n => absurd rfl n⟩
/-- just one diagram for each condition -/
theorem canon : ∀ {es : List Int} {a b : Bd}, es.Nodup → Wf es a → Wf es b → (∀ r, a.ev r = b.ev r) → a = b
  | [], a, b, _, ha, hb, h => by
    cases ha
    cases hb
    exact congrArg Bd.lf (h fun _ => false)
  | x :: es, a, b, hn, ha, hb, h => by
    rw [List.nodup_cons] at hn
    have w := canon hn.2 (ha.cw hn.1).1 (hb.cw hn.1).1 fun r => by rw [(ha.cw hn.1).2, (hb.cw hn.1).2, h]
    have t := canon hn.2 (ha.ct hn.1).1 (hb.ct hn.1).1 fun r => by rw [(ha.ct hn.1).2, (hb.ct hn.1).2, h]
    obtain ⟨_, ea, na⟩ := ha.cwt_eq hn.1
    obtain ⟨_, eb, nb⟩ := hb.cwt_eq hn.1
    by_cases e : a.cw x = a.ct x
    · rw [← ea e, ← eb (by rw [← w, ← t, e]), w]
    · rw [na e, nb (by rw [← w, ← t]; exact e), w, t]
/-- a node, or what both sides are -/
def mkB (x : Int) (w t : Bd) : Bd := if w = t then w else .nd x w t
theorem mkB_wf {x : Int} {es : List Int} {w t : Bd} (hw : Wf es w) (ht : Wf es t) : Wf (x :: es) (mkB x w t) := by
  unfold mkB
  split
  · exact .skip hw
  · exact .here hw ht ‹_›
theorem mkB_ev {x : Int} {w t : Bd} (r : Int → Bool) : (mkB x w t).ev r = if r x = true then t.ev r else w.ev r := by
  unfold mkB
  split
  · rename_i h
    subst h
    split <;> rfl
  · rfl
/-! ### diagrams in a store: its nodes by their places -/
abbrev Nds := List (Int × Nat × Nat)
inductive At (N : Nds) : Nat → Bd → Prop
  | f : At N 0 (.lf false)
  | t : At N 1 (.lf true)
  | nd {k : Nat} {e : Int} {w t : Nat} {a b : Bd} : N[k]? = some (e, w, t) → At N w a → At N t b → At N (k + 2) (.nd e a b)
theorem At.mono {N M : Nds} {c : Nat} {a : Bd} (h : At N c a) : At (N ++ M) c a := by
  induction h with
  | f => exact .f
  | t => exact .t
  | nd hk _ _ ia ib => exact .nd (by rw [List.getElem?_append_left (List.getElem?_eq_some_iff.mp hk).1]; exact hk) ia ib
theorem At.fn {N : Nds} {c : Nat} {a : Bd} (h : At N c a) : ∀ {b : Bd}, At N c b → a = b := by
  induction h with
  | f => intro b hb; cases hb; rfl
  | t => intro b hb; cases hb; rfl
  | nd hk _ _ ia ib =>
    intro b hb
    cases hb with
    | nd hk2 ha2 hb2 =>
      have e := Option.some.inj (hk.symm.trans hk2)
      cases e
      have e1 := ia ha2
      have e2 := ib hb2
      rw [e1, e2]
theorem nodup_at {α : Type} : ∀ {l : List α} {i j : Nat} {x : α}, l.Nodup → l[i]? = some x → l[j]? = some x → i = j
  | [], _, _, _, _, h, _ => by simp at h
  | y :: l, 0, 0, _, _, _, _ => rfl
  | y :: l, 0, j + 1, x, hn, h1, h2 => by
    rw [List.nodup_cons] at hn
    have e : y = x := Option.some.inj h1
    have h2 : l[j]? = some x := by simpa using h2
    exact absurd (e ▸ List.mem_of_getElem? h2) hn.1
  | y :: l, i + 1, 0, x, hn, h1, h2 => by
    rw [List.nodup_cons] at hn
    have e : y = x := Option.some.inj h2
    have h1 : l[i]? = some x := by simpa using h1
    exact absurd (e ▸ List.mem_of_getElem? h1) hn.1
  | y :: l, i + 1, j + 1, x, hn, h1, h2 => by
    rw [List.nodup_cons] at hn
    exact congrArg (· + 1) (nodup_at hn.2 (by simpa using h1) (by simpa using h2))
theorem At.inj {N : Nds} (hn : N.Nodup) {c : Nat} {a : Bd} (h : At N c a) : ∀ {d : Nat}, At N d a → c = d := by
  induction h with
  | f => intro d hd; cases hd; rfl
  | t => intro d hd; cases hd; rfl
  | nd hk _ _ ia ib =>
    intro d hd
    cases hd with
    | nd hk2 ha2 hb2 =>
      have e1 := ia ha2
      have e2 := ib hb2
      subst e1 e2
      rw [nodup_at hn hk hk2]
theorem At.lt {N : Nds} {c : Nat} {a : Bd} (h : At N c a) : c < N.length + 2 := by
  cases h with
  | f => omega
  | t => omega
  | nd hk _ _ => have := (List.getElem?_eq_some_iff.mp hk).1; omega
theorem At.leaf {N : Nds} {c : Nat} {b : Bool} (h : At N c (.lf b)) : c = if b = true then 1 else 0 := by cases h <;> rfl
theorem At.ge {N : Nds} {c : Nat} {a : Bd} (h : At N c a) (h2 : 2 ≤ c) : ∃ e w t a1 b1, N[c - 2]? = some (e, w, t) ∧ At N w a1 ∧ At N t b1 ∧ a = .nd e a1 b1 := by
  cases h with
  | f => omega
  | t => omega
  | nd hk ha hb => exact ⟨_, _, _, _, _, hk, ha, hb, rfl⟩

/-! ### a store of diagrams in the heap -/
/-! ### what is made of tuples stands where all tuples stand -/
theorem SqT.tsn {K : PySem.W.Frag} {H H' : Hp} {a : Addr} {xs : List V} (e : ∀ b o, (∃ ys, o = HO.tup ys) ∨ (∃ q u, o = HO.frz q u) → H b = some o → H' b = some o) (h : SqT K H a xs) : SqT K H' a xs := by
  rcases h with (h | ⟨o, h⟩) | h
  · exact .inl (.inl (e _ _ (.inl ⟨_, rfl⟩) h))
  · exact .inl (.inr ⟨o, e _ _ (.inr ⟨_, _, rfl⟩) h⟩)
  · exact .inr h
mutual
/-- what is made of tuples stands where all tuples stand -/
theorem Dp.tsn {K : PySem.W.Frag} {H H' : Hp} (e : ∀ b o, (∃ ys, o = HO.tup ys) ∨ (∃ q u, o = HO.frz q u) → H b = some o → H' b = some o) : ∀ (d : PyData) (v : V), tupOnly d = true → Dp K H v d → Dp K H' v d
  | .none, _, _, h => by cases h; exact .non
  | .bool b, _, _, h => by cases h; exact .bl b
  | .int i, _, _, h => by cases h; exact .int i
  | .str x, _, _, h => by cases h; exact .str x
  | .list ds, _, e', _ => by unfold tupOnly at e'; cases e'
  | .tuple ds, _, e', h => by
    unfold tupOnly at e'
    cases h with
    | tup hs ha => exact .tup (SqT.tsn e hs) (DpAll.tsn e ds _ e' ha)
  | .dict _, _, _, h => by cases h
theorem DpAll.tsn {K : PySem.W.Frag} {H H' : Hp} (e : ∀ b o, (∃ ys, o = HO.tup ys) ∨ (∃ q u, o = HO.frz q u) → H b = some o → H' b = some o) : ∀ (ds : List PyData) (vs : List V), tupOnlys ds = true → DpAll K H vs ds → DpAll K H' vs ds
  | [], _, _, h => by cases h; exact .nil
  | d :: ds, _, e', h => by
    unfold tupOnlys at e'
    rw [Bool.and_eq_true] at e'
    cases h with
    | cons h1 h2 => exact .cons (Dp.tsn e d _ e'.1 h1) (DpAll.tsn e ds _ e'.2 h2)
end

/-- the instance, its list, its two dicts -/
structure SA where
  p : Addr
  k : Addr
  u : Addr
  m : Addr
def sfl (s : SA) : List (Str × V) := [("kept", .ref s.k), ("numbers", .ref s.u), ("combined", .ref s.m)]
theorem sf_kept (s : SA) : (sfl s).lookup ("kept" : Str) = some (.ref s.k) := rfl
theorem sf_num (s : SA) : (sfl s).lookup ("numbers" : Str) = some (.ref s.u) := rfl
theorem sf_comb (s : SA) : (sfl s).lookup ("combined" : Str) = some (.ref s.m) := rfl
theorem sf_no (s : SA) {m : Str} (h1 : (m == ("kept" : Str)) = false) (h2 : (m == ("numbers" : Str)) = false) (h3 : (m == ("combined" : Str)) = false) : (sfl s).lookup m = none := by
  unfold sfl
  simp only [List.lookup, h1, h2, h3]
/-- what stood stands, but for the store's list and dicts -/
def FdS (s : SA) (H H' : Hp) : Prop := ∀ b o, b ≠ s.k → b ≠ s.u → b ≠ s.m → H b = some o → H' b = some o
theorem FdS.refl (s : SA) (H : Hp) : FdS s H H := fun _ _ _ _ _ h => h
theorem FdS.trans {s : SA} {H H1 H2 : Hp} (a : FdS s H H1) (b : FdS s H1 H2) : FdS s H H2 := fun x o h1 h2 h3 h => b x o h1 h2 h3 (a x o h1 h2 h3 h)
theorem FdS.of {s : SA} {H H' : Hp} (a : Same H H') : FdS s H H' := fun x o _ _ _ h => a x o h
def nD (n : Int × Nat × Nat) : PyData := .tuple [.int n.1, .int (n.2.1 : Nat), .int (n.2.2 : Nat)]
theorem nD_only : ∀ N : Nds, tupOnlys (N.map nD) = true
  | [] => rfl
  | n :: N => by
    rw [List.map_cons]
    unfold tupOnlys
    rw [nD_only N]
    rfl
abbrev ky3 (a b c : Int) : List Key := [.inl a, .inl b, .inl c]
def NumsOk (N : Nds) (kvs : List (List Key × V)) : Prop := (∀ (e : Int) (w t : Nat), valV kvs (ky3 e w t) = none → (e, w, t) ∉ N) ∧ ∀ (e : Int) (w t : Nat) v, valV kvs (ky3 e w t) = some v → ∃ i : Nat, N[i]? = some (e, w, t) ∧ v = .int ((i + 2 : Nat) : Int)
/-- the diagram that is one of two, where a third one holds -/
def IsIte (es : List Int) (a b c d : Bd) : Prop := Wf es d ∧ ∀ r, d.ev r = if a.ev r = true then b.ev r else c.ev r
def MemoOk (N : Nds) (es : List Int) (cvs : List (List Key × V)) : Prop := ∀ (c a b : Nat) v, valV cvs (ky3 c a b) = some v → ∃ (r : Nat) (A B C T : Bd), v = .int (r : Int) ∧ At N c A ∧ At N a B ∧ At N b C ∧ At N r T ∧ IsIte es A B C T
def Sto (C : Addr) (K : PySem.W.Frag) (H : Hp) (s : SA) (N : Nds) (es : List Int) (L : Nat) : Prop :=
  (∃ dx, H s.p = some (.ins C dx (sfl s))) ∧ (∃ xs, H s.k = some (.lst xs) ∧ DpAll K H xs (N.map nD)) ∧ (∃ kvs, H s.u = some (.dT kvs) ∧ kvs.length ≤ N.length ∧ NumsOk N kvs) ∧
    (∃ cvs, H s.m = some (.dT cvs) ∧ cvs.length ≤ L ∧ MemoOk N es cvs) ∧ N.Nodup ∧ s.u ≠ s.m ∧ es.Pairwise (· < ·)
section
variable {C : Addr} {K : PySem.W.Frag} {H H' : Hp} {s : SA} {N : Nds} {es : List Int} {L : Nat}
theorem Sto.ins (h : Sto C K H s N es L) : ∃ dx, H s.p = some (.ins C dx (sfl s)) := h.1
theorem Sto.nd (h : Sto C K H s N es L) : N.Nodup := h.2.2.2.2.1
theorem Sto.srt (h : Sto C K H s N es L) : es.Pairwise (· < ·) := h.2.2.2.2.2.2
theorem Sto.es_nd (h : Sto C K H s N es L) : es.Nodup := h.srt.imp fun h => by omega
theorem Sto.ext (e : Same H H') (h : Sto C K H s N es L) : Sto C K H' s N es L := by
  obtain ⟨⟨dx, h1⟩, ⟨xs, h2, h3⟩, ⟨kvs, h4, h5⟩, ⟨cvs, h6, h7⟩, h8⟩ := h
  exact ⟨⟨dx, e _ _ h1⟩, ⟨xs, e _ _ h2, DpAll.ext e _ _ h3⟩, ⟨kvs, e _ _ h4, h5⟩, ⟨cvs, e _ _ h6, h7⟩, h8⟩
theorem Sto.tup (h : Sto C K H s N es L) (f : FdS s H H') : ∀ b o, (∃ ys, o = HO.tup ys) ∨ (∃ q u, o = HO.frz q u) → H b = some o → H' b = some o := by
  obtain ⟨_, ⟨xs, h2, _⟩, ⟨kvs, h4, _⟩, ⟨cvs, h6, _⟩, _⟩ := h
  rintro b o (⟨ys, rfl⟩ | ⟨q, u, rfl⟩) hb
  · exact f _ _ (ne_of hb h2 (fun z => nomatch z)) (ne_of hb h4 (fun z => nomatch z)) (ne_of hb h6 (fun z => nomatch z)) hb
  · exact f _ _ (ne_of hb h2 (fun z => nomatch z)) (ne_of hb h4 (fun z => nomatch z)) (ne_of hb h6 (fun z => nomatch z)) hb
theorem Sto.dp (h : Sto C K H s N es L) (f : FdS s H H') {d : PyData} {v : V} (ht : tupOnly d = true) (hd : Dp K H v d) : Dp K H' v d := Dp.tsn (h.tup f) d v ht hd
theorem Sto.at (h : Sto C K H s N es L) {c : Nat} {n : Int × Nat × Nat} (h2 : 2 ≤ c) (hn : N[c - 2]? = some n) : ∃ dx xs q, H s.p = some (.ins C dx (sfl s)) ∧ SqL K H s.k xs ∧ atI xs ((c : Int) - 2) = some (.ref q) ∧ SqT K H q [.int n.1, .int (n.2.1 : Nat), .int (n.2.2 : Nat)] := by
  obtain ⟨⟨dx, h1⟩, ⟨xs, h3, h4⟩, _⟩ := h
  obtain ⟨v, hv, hd⟩ := DpAll.get h4 (show (N.map nD)[c - 2]? = some (nD n) by rw [List.getElem?_map, hn]; rfl)
  have e : (c : Int) - 2 = ((c - 2 : Nat) : Int) := by omega
  cases hd with
  | @tup q _ _ hs ha =>
    cases ha with
    | cons g1 g2 =>
      cases g1
      cases g2 with
      | cons g3 g4 =>
        cases g3
        cases g4 with
        | cons g5 g6 =>
          cases g5
          cases g6
          exact ⟨dx, xs, q, h1, .of h3, by rw [e]; exact atI_nat hv, hs⟩
end
theorem NumsOk.snoc {N : Nds} {kvs : List (List Key × V)} (h : NumsOk N kvs) {e : Int} {w t : Nat} (hn : valV kvs (ky3 e w t) = none) : NumsOk (N ++ [(e, w, t)]) (putK kvs (ky3 e w t) (.int ((N.length + 2 : Nat) : Int))) := by
  have inj : ∀ {e' : Int} {w' t' : Nat}, ky3 e' w' t' = ky3 e w t → (e', w', t') = (e, w, t) := by
    intro e' w' t' h
    injection h with h1 h2
    injection h2 with h2 h3
    injection h3 with h3 _
    injection h1 with h1
    injection h2 with h2
    injection h3 with h3
    have : w' = w := by omega
    have : t' = t := by omega
    subst_vars
    rfl
  refine ⟨fun e' w' t' h' hm => ?_, fun e' w' t' v h' => ?_⟩
  · rw [valV_put] at h'
    split at h'
    · cases h'
    · rename_i hne
      rcases List.mem_append.mp hm with hm | hm
      · exact h.1 _ _ _ h' hm
      · rw [List.mem_singleton] at hm
        cases hm
        exact hne rfl
  · rw [valV_put] at h'
    split at h'
    · rename_i he
      cases inj he
      refine ⟨N.length, by rw [List.getElem?_append_right (Nat.le_refl _), Nat.sub_self]; rfl, ?_⟩
      exact (Option.some.inj h').symm
    · obtain ⟨i, hi, hv⟩ := h.2 _ _ _ _ h'
      exact ⟨i, by rw [List.getElem?_append_left (List.getElem?_eq_some_iff.mp hi).1]; exact hi, hv⟩
theorem MemoOk.mono {N M : Nds} {es : List Int} {cvs : List (List Key × V)} (h : MemoOk N es cvs) : MemoOk (N ++ M) es cvs := fun c a b v hv => by
  obtain ⟨r, A, B, C, T, e, h1, h2, h3, h4, h5⟩ := h c a b v hv
  exact ⟨r, A, B, C, T, e, h1.mono, h2.mono, h3.mono, h4.mono, h5⟩
theorem MemoOk.put {N : Nds} {es : List Int} {cvs : List (List Key × V)} (h : MemoOk N es cvs) {c a b r : Nat} {A B C T : Bd} (h1 : At N c A) (h2 : At N a B) (h3 : At N b C) (h4 : At N r T) (h5 : IsIte es A B C T) : MemoOk N es (putK cvs (ky3 c a b) (.int (r : Int))) := fun c' a' b' v hv => by
  rw [valV_put] at hv
  split at hv
  · rename_i he
    injection he with e1 e2
    injection e2 with e2 e3
    injection e3 with e3 _
    injection e1 with e1
    injection e2 with e2
    injection e3 with e3
    have e1 : c' = c := by omega
    have e2 : a' = a := by omega
    have e3 : b' = b := by omega
    subst e1 e2 e3
    exact ⟨r, A, B, C, T, (Option.some.inj hv).symm, h1, h2, h3, h4, h5⟩
  · exact h _ _ _ _ hv
/-! ### what both sides give -/
theorem Wf.skips {es : List Int} {a : Bd} (h : Wf es a) : ∀ pre : List Int, Wf (pre ++ es) a
  | [] => h
  | _ :: pre => .skip (h.skips pre)
theorem ite_step {x : Int} {es : List Int} {a b c t1 t2 : Bd} (hx : x ∉ es) (ha : Wf (x :: es) a) (hb : Wf (x :: es) b) (hc : Wf (x :: es) c) (h1 : IsIte es (a.cw x) (b.cw x) (c.cw x) t1) (h2 : IsIte es (a.ct x) (b.ct x) (c.ct x) t2) : IsIte (x :: es) a b c (mkB x t1 t2) := by
  refine ⟨mkB_wf h1.1 h2.1, fun r => ?_⟩
  have hs : ∀ v, r x = v → setR r x v = r := fun v e => by
    funext y
    by_cases hy : y = x
    · subst hy
      rw [setR_same, e]
    · rw [setR_ne hy]
  rw [mkB_ev]
  cases e : r x with
  | true => rw [if_pos rfl, h2.2, (ha.ct hx).2, (hb.ct hx).2, (hc.ct hx).2, hs _ e]
  | false => rw [if_neg Bool.false_ne_true, h1.2, (ha.cw hx).2, (hb.cw hx).2, (hc.cw hx).2, hs _ e]
/-- there is one -/
theorem ite_ex : ∀ {es : List Int} {a b c : Bd}, es.Nodup → Wf es a → Wf es b → Wf es c → ∃ t, IsIte es a b c t
  | [], a, b, c, _, ha, hb, hc => by
    cases ha with
    | @lf _ v =>
      cases v with
      | true => exact ⟨b, hb, fun _ => (if_pos rfl).symm⟩
      | false => exact ⟨c, hc, fun _ => (if_neg Bool.false_ne_true).symm⟩
  | x :: es, a, b, c, hn, ha, hb, hc => by
    rw [List.nodup_cons] at hn
    obtain ⟨t1, h1⟩ := ite_ex hn.2 (ha.cw hn.1).1 (hb.cw hn.1).1 (hc.cw hn.1).1
    obtain ⟨t2, h2⟩ := ite_ex hn.2 (ha.ct hn.1).1 (hb.ct hn.1).1 (hc.ct hn.1).1
    exact ⟨_, ite_step hn.1 ha hb hc h1 h2⟩
theorem ite_low {pre es : List Int} {a b c t : Bd} (hn : (pre ++ es).Nodup) (ha : Wf es a) (hb : Wf es b) (hc : Wf es c) (h : IsIte (pre ++ es) a b c t) : IsIte es a b c t := by
  obtain ⟨t', h'⟩ := ite_ex (List.nodup_append.mp hn).2.1 ha hb hc
  have e := canon hn h.1 (h'.1.skips pre) fun r => by rw [h.2, h'.2]
  rw [e]
  exact h'
theorem IsIte.skips {es : List Int} {a b c t : Bd} (pre : List Int) (h : IsIte es a b c t) : IsIte (pre ++ es) a b c t := ⟨h.1.skips pre, h.2⟩
/-- the question of the first one that has one -/
theorem top_ex : ∀ {es : List Int} {cs : List Bd}, (∀ a ∈ cs, Wf es a) → (∃ a ∈ cs, ∀ b, a ≠ .lf b) → ∃ pre x rest, es = pre ++ x :: rest ∧ (∀ a ∈ cs, Wf (x :: rest) a) ∧ ∃ w t, Bd.nd x w t ∈ cs
  | [], cs, h, ⟨a, ha, hn⟩ => by
    have := h a ha
    cases this
    exact absurd rfl (hn _)
  | x :: es, cs, h, hex => by
    by_cases hx : ∃ w t, Bd.nd x w t ∈ cs
    · exact ⟨[], x, es, rfl, h, hx⟩
    · have h' : ∀ a ∈ cs, Wf es a := fun a ha => by
        cases h a ha with
        | lf => exact .lf
        | here _ _ _ => exact absurd ⟨_, _, ha⟩ hx
        | skip h => exact h
      obtain ⟨pre, y, rest, e, h1, h2⟩ := top_ex h' hex
      exact ⟨x :: pre, y, rest, by rw [e]; rfl, h1, h2⟩
theorem Wf.head {es : List Int} {x : Int} {w t : Bd} (h : Wf es (.nd x w t)) : x ∈ es := h.none_of

/-! ### methods, defs that a name holds, instances -/
structure ClM (P : Program) (w : World) (K : PySem.W.Frag) (mg : Str → Option Value) (base : Heap) (k : Nat) (C : Addr) (m : Str) (sp : Sp) : Prop where
  ex : ∃ (f : Addr) (fd : FuncData) (ps : List Str), FnOk P w K mg base CX0 k f fd ps sp ∧ Meth K C m f ∧ Cls K C ∧ Binds K fd ps []
structure ClC (P : Program) (w : World) (K : PySem.W.Frag) (mg : Str → Option Value) (base : Heap) (k : Nat) (x : Str) (C : Addr) (sp : Sp) : Prop where
  ex : ∃ (f : Addr) (fd : FuncData) (ps : List Str), FnOk P w K mg base CX0 k f fd ps sp ∧ Mk K C f ∧ mg x = some (.ref C) ∧ Binds K fd ps []
theorem FnOk.clm {P : Program} {w : World} {K : PySem.W.Frag} {mg : Str → Option Value} {base : Heap} {k : Nat} {C : Addr} {m : Str} {f : Addr} {fd : FuncData} {ps : List Str} {sp : Sp} (h : FnOk P w K mg base CX0 k f fd ps sp) (mt : Meth K C m f) (cl : Cls K C) (b : Binds K fd ps []) : ClM P w K mg base k C m sp := ⟨f, fd, ps, h, mt, cl, b⟩
section
variable {X : Cx} {k j i : Nat} {m x : Str} {C : Addr} {sp : Sp} {p pos apos : Pos} {o e : Expr} {es : List Expr} {t : TA} {ta : TE}
theorem pe_mt {pl : Sem Bool} (c : ClM X.prog X.w X.K X.mg X.base k C m sp) (hr : Room j X.A) (hk : k ≤ j) (he : PE X o ta) (ha : PA X (e :: es) t) (hst : starEach (e :: es) X.env = (false, eval e X.env) :: starEach es X.env := by rfl) (hpl : (backTo pos (starEach es X.env)).any (·.1) = false := by rfl)
    (ht : eval (.Call (.Attribute o m apos) (e :: es) [] pos) X.env = (do let ov ← eval o X.env; standAt apos.atName; let (f, first) ← holding [ov] (getMethod ov m pl); callWith pos f first (backTo pos (starEach (e :: es) X.env)) (backToKw pos (keywordEach [] X.env))) := by rfl) : PE X (.Call (.Attribute o m apos) (e :: es) [] pos) (tMeth C m sp [] E0 ta t) := by
  obtain ⟨f, fd, ps, F, hm, cl, b⟩ := c.ex
  exact pe_meth he cl hm F (hr.mono hk) b .nil pass0 ha hst hpl ht
theorem pe_mt0 {pl : Sem Bool} (c : ClM X.prog X.w X.K X.mg X.base k C m sp) (hr : Room j X.A) (hk : k ≤ j) (he : PE X o ta)
    (ht : eval (.Call (.Attribute o m apos) [] [] pos) X.env = (do let ov ← eval o X.env; standAt apos.atName; let (f, first) ← holding [ov] (getMethod ov m pl); callWith pos f first (backTo pos (starEach [] X.env)) (backToKw pos (keywordEach [] X.env))) := by rfl) : PE X (.Call (.Attribute o m apos) [] [] pos) (tMeth C m sp [] E0 ta tNil) := by
  obtain ⟨f, fd, ps, F, hm, cl, b⟩ := c.ex
  exact pe_meth0 he cl hm F (hr.mono hk) b .nil pass0 ht
theorem pe_mk (c : ClC X.prog X.w X.K X.mg X.base k x C sp) (hr : Room j X.A) (hk : k + 1 ≤ j) (hg : L2.Gl X x) (ha : PA X (e :: es) t) (hdb : (x == ("__debug__" : Str)) = false := by decide) (he : starEach (e :: es) X.env = (false, eval e X.env) :: starEach es X.env := by rfl) (hpl : (backTo pos (starEach es X.env)).any (·.1) = false := by rfl) : PE X (.Call (.Name x p) (e :: es) [] pos) (tMake C sp [] E0 t) := by
  obtain ⟨f, fd, ps, F, M, hm, b⟩ := c.ex
  exact pe_make M F (hr.mono hk) hg hm b .nil pass0 ha hdb he hpl
theorem pe_mk0 (c : ClC X.prog X.w X.K X.mg X.base k x C sp) (hr : Room j X.A) (hk : k + 1 ≤ j) (hg : L2.Gl X x) (hdb : (x == ("__debug__" : Str)) = false := by decide) : PE X (.Call (.Name x p) [] [] pos) (tMake C sp [] E0 tNil) := by
  obtain ⟨f, fd, ps, F, M, hm, b⟩ := c.ex
  exact pe_make0 M F (hr.mono hk) hg hm b .nil pass0 hdb
end

/-! ### the store's methods -/
structure DgC (K : PySem.W.Frag) (C : Addr) (mg : Str → Option Value) : Prop where
  cl : Cls K C
  nK : NoAttr K C "kept"
  nN : NoAttr K C "numbers"
  nM : NoAttr K C "combined"
  NEVER : ∃ u, mg "NEVER" = some u ∧ RelV (.int 0) u
  ALWAYS : ∃ u, mg "ALWAYS" = some u ∧ RelV (.int 1) u
  FIRST_NODE : ∃ u, mg "FIRST_NODE" = some u ∧ RelV (.int 2) u
theorem Sto.go {C : Addr} {K : PySem.W.Frag} {H : Hp} {s : SA} {N : Nds} {es : List Int} {L : Nat} (h : Sto C K H s N es L) {m : Str} (h1 : (m == ("kept" : Str)) = false) (h2 : (m == ("numbers" : Str)) = false) (h3 : (m == ("combined" : Str)) = false) {R : Prop} (r : R) : ∃ a dx fs, V.ref s.p = .ref a ∧ H a = some (.ins C dx fs) ∧ fs.lookup m = none ∧ R := by
  obtain ⟨dx, hp⟩ := h.ins
  exact ⟨s.p, dx, _, rfl, hp, sf_no s h1 h2 h3, r⟩
def sp_nof (C : Addr) (K : PySem.W.Frag) : Sp := fun vs H Q _ => ∃ s N es L c n, vs = [.ref s.p, .int ((c : Nat) : Int)] ∧ Sto C K H s N es L ∧ 2 ≤ c ∧ N[c - 2]? = some n ∧ ∀ q, SqT K H q [.int n.1, .int (n.2.1 : Nat), .int (n.2.2 : Nat)] → Q (.ref q) H
def sp_node (C : Addr) (K : PySem.W.Frag) : Sp := fun vs H Q _ => ∃ s N es L x w t W T, vs = [.ref s.p, .int x, .int ((w : Nat) : Int), .int ((t : Nat) : Int)] ∧ Sto C K H s N es L ∧ At N w W ∧ At N t T ∧ N.length + 1 < sizeLine ∧
  ∀ H' M r, FdS s H H' → M.length ≤ 1 → Sto C K H' s (N ++ M) es L → At (N ++ M) r (mkB x W T) → Q (.int ((r : Nat) : Int)) H'
def sp_top (C : Addr) (K : PySem.W.Frag) : Sp := fun vs H Q _ => ∃ s N es L pre es' a, ∃ cs : List (Nat × Bd), vs = [.ref s.p, .ref a] ∧ Sto C K H s N es L ∧ SqT K H a (cs.map fun c => .int ((c.1 : Nat) : Int)) ∧ es = pre ++ es' ∧ cs.length ≤ 3 ∧ (∀ c ∈ cs, At N c.1 c.2 ∧ Wf es' c.2) ∧ (∃ c ∈ cs, 2 ≤ c.1) ∧
  ∀ H' pre2 x es2, Same H H' → es' = pre2 ++ x :: es2 → (∀ c ∈ cs, Wf (x :: es2) c.2) → Q (.int x) H'
def sp_bra (C : Addr) (K : PySem.W.Frag) : Sp := fun vs H Q _ => ∃ s N es L x es2 c A, vs = [.ref s.p, .int ((c : Nat) : Int), .int x] ∧ Sto C K H s N es L ∧ At N c A ∧ Wf (x :: es2) A ∧ x ∉ es2 ∧
  ∀ H' q w t, Same H H' → H' q = some (.tup [.int ((w : Nat) : Int), .int ((t : Nat) : Int)]) → At N w (A.cw x) → At N t (A.ct x) → Q (.ref q) H'
def sp_comb (C : Addr) (K : PySem.W.Frag) (n : Nat) : Sp := fun vs H Q _ => ∃ s N es L pre es' c a b A B D, vs = [.ref s.p, .int ((c : Nat) : Int), .int ((a : Nat) : Int), .int ((b : Nat) : Int)] ∧ Sto C K H s N es L ∧ es = pre ++ es' ∧ es'.length < n ∧ At N c A ∧ At N a B ∧ At N b D ∧ Wf es' A ∧ Wf es' B ∧ Wf es' D ∧
  N.length + 2 ^ es'.length < sizeLine ∧ L + 2 ^ es'.length < sizeLine ∧
  ∀ H' M r T, FdS s H H' → M.length + 1 ≤ 2 ^ es'.length → Sto C K H' s (N ++ M) es (L + (2 ^ es'.length - 1)) → At (N ++ M) r T → IsIte es' A B D T → Q (.int ((r : Nat) : Int)) H'
section
variable {P : Program} {w : World} {K : PySem.W.Frag} {mg : Str → Option Value} {base : Heap}
theorem ok_nof {f C : Addr} {fd : FuncData} (F : Fun K "node_of" "Diagrams.node_of" s_Diagrams_node_of f fd) (M : Mg mg) (G : DgC K C mg) : FnOk P w K mg base CX0 1 f fd ["self", "condition"] (sp_nof C K) := by
  refine F.ok sc_Diagrams_node_of (fun vs H Q E h => ?_) (fun cdv A outer s H vs Q E hr h => ?_)
  · obtain ⟨s, N, es, L, c, n, rfl, _⟩ := h
    rfl
  · obtain ⟨s, N, es, L, c, n, rfl, st, h2, hn, q⟩ := h
    obtain ⟨dx, xs, a, hp, hk, hat, hq⟩ := st.at h2 hn
    refine ⟨_, (pss_one (ps_ret (pe_ix (ix_listK K) (pe_fld (pv 0) rfl) (pe_op op_sub (pv 1) (C8.pe_gc (by rfl) G.FIRST_NODE)) (fun _ _ => rfl)))), ?_⟩
    exact ⟨_, rfl, s.p, C, dx, _, _, rfl, hp, G.cl, G.nK, sf_kept s, _, rfl, _, _, rfl, rfl, s.k, xs, _, _, rfl, rfl, hk, hat, q a hq⟩
theorem ok_node {f C : Addr} {fd : FuncData} (F : Fun K "node" "Diagrams.node" s_Diagrams_node f fd) (M : Mg mg) (G : DgC K C mg) : FnOk P w K mg base CX0 1 f fd ["self", "entry", "without", "there"] (sp_node C K) := by
  refine F.ok sc_Diagrams_node (fun vs H Q E h => ?_) (fun cdv A outer s H vs Q E hr h => ?_)
  · obtain ⟨s, N, es, L, x, w, t, W, T, rfl, _⟩ := h
    rfl
  · obtain ⟨s, N, es, L, x, w, t, W, T, rfl, st, hw, ht, hz, q⟩ := h
    refine ⟨_, (pss_cons (ps_if (pt_cmpR op_eq (pv 2) (pv 3) (nomark _)) (pss_one (ps_ret (pv 2))) pss_nil)
      (pss_cons (ps_set (i := 4) sc_Diagrams_node.nd rfl (.inl rfl) (pe_tup (pa_cons (pv 1) (pa_cons (pv 2) (pa_cons (pv 3) pa_nil)))))
      (pss_cons (ps_if (pt_cmp (pc_dnotin (hu_of hr) (pv 4) (pe_fld (pv 0) rfl))) (pss_cons (ps_dput (hu_of hr) (pe_fld (pv 0) rfl) (pv 4) (pe_op op_add (pe_callB (len_seqK K) (by rfl) M.len PySem.boot_len (pa_cons (pe_fld (pv 0) rfl) pa_nil)) (C8.pe_gc (by rfl) G.FIRST_NODE)) rfl)
      (pss_one (ps_expr (pe_bmK K PySem.F.plainAttrs_list PySem.F.slot_list_append PySem.F.type_list_append mt_append (pe_fld (pv 0) rfl) (pa_cons (pv 4) pa_nil))))) pss_nil)
      (pss_one (ps_ret (pe_dget (hu_of hr) (pe_fld (pv 0) rfl) (pv 4) (fun _ _ => rfl))))))), ?_⟩
    refine ⟨_, rfl, _, rfl, rfl, _, rfl, ite2 (fun e => ?_) (fun e => ?_)⟩
    · have e1 : w = t := by
        have := V.int.inj (of_decide_eq_true e)
        omega
      subst e1
      have e2 := hw.fn ht
      subst e2
      refine ⟨_, rfl, q H [] w (FdS.refl s H) (Nat.zero_le _) (by rw [List.append_nil]; exact st) ?_⟩
      rw [List.append_nil, show mkB x W W = W from if_pos rfl]
      exact hw
    · have hne : W ≠ T := fun z => by
        subst z
        exact e (by rw [hw.inj st.nd ht]; exact decide_eq_true rfl)
      have em : mkB x W T = .nd x W T := if_neg hne
      rw [em] at q
      refine ⟨_, rfl, _, rfl, _, rfl, by show 3 ≤ sizeLine; decide, fun tp ntp => ?_⟩
      have s1 := same_upd ntp (o := .tup [.int x, .int ((w : Nat) : Int), .int ((t : Nat) : Int)])
      have et : (upd H tp (.tup [.int x, .int ((w : Nat) : Int), .int ((t : Nat) : Int)])) tp = some (.tup ((ky3 x w t).map kV)) := upd_same
      generalize upd H tp (.tup [.int x, .int ((w : Nat) : Int), .int ((t : Nat) : Int)]) = H1 at s1 et
      have st1 := st.ext s1
      obtain ⟨⟨dx, hp⟩, ⟨xs, hk, hxs⟩, ⟨kvs, hu, hkl, hko⟩, ⟨cvs, hm, hcl, hco⟩, hnd, hum, hes⟩ := id st1
      have npk : s.p ≠ s.k := ne_of hp hk (fun z => nomatch z)
      have npu : s.p ≠ s.u := ne_of hp hu (fun z => nomatch z)
      have nku : s.k ≠ s.u := ne_of hk hu (fun z => nomatch z)
      have nkm : s.k ≠ s.m := ne_of hk hm (fun z => nomatch z)
      have ntk : tp ≠ s.k := ne_of et hk (fun z => nomatch z)
      have ntu : tp ≠ s.u := ne_of et hu (fun z => nomatch z)
      refine ⟨_, rfl, _, rfl, s.p, C, dx, _, _, rfl, hp, G.cl, G.nN, sf_num s, s.u, _, rfl, DGet.t hu et, _, rfl, ?_⟩
      cases ev : valV kvs (ky3 x w t) with
      | some v =>
        obtain ⟨i, hi, rfl⟩ := hko.2 _ _ _ _ ev
        refine iteF ?_
        refine ⟨_, rfl, s.p, C, dx, _, _, rfl, hp, G.cl, G.nN, sf_num s, _, rfl, s.u, .int ((i + 2 : Nat) : Int), rfl, ?_, ?_⟩
        · have := DGet.t hu et
          rw [ev] at this
          exact this
        · exact q H1 [] (i + 2) (FdS.of s1) (Nat.zero_le _) (by rw [List.append_nil]; exact st1) (by rw [List.append_nil]; exact .nd hi hw ht)
      | none =>
        have hnew : (x, w, t) ∉ N := hko.1 _ _ _ ev
        have lxs : xs.length = N.length := by rw [DpAll.len hxs, List.length_map]
        refine iteT ?_
        refine ⟨_, rfl, s.p, C, dx, _, _, rfl, hp, G.cl, G.nK, sf_kept s, s.k, xs, rfl, .inl (.of hk), _, _, rfl, rfl, _, rfl, s.p, C, dx, _, _, rfl, hp, G.cl, G.nN, sf_num s, _, rfl, s.u, _, rfl, DPut.t hu et (by omega), ?_⟩
        rw [lxs]
        dsimp only
        rw [show ((N.length : Nat) : Int) + 2 = ((N.length + 2 : Nat) : Int) by omega]
        have hk2 : (upd H1 s.u (.dT (putK kvs (ky3 x w t) (.int ((N.length + 2 : Nat) : Int))))) s.k = some (.lst xs) := by rw [upd_ne nku]; exact hk
        have hp2 : (upd H1 s.u (.dT (putK kvs (ky3 x w t) (.int ((N.length + 2 : Nat) : Int))))) s.p = some (.ins C dx (sfl s)) := by rw [upd_ne npu]; exact hp
        refine ⟨_, rfl, s.p, C, dx, _, _, rfl, hp2, G.cl, G.nK, sf_kept s, .inl ⟨rfl, _, .inl (.inl hk2)⟩, _, rfl, s.k, xs, _, rfl, rfl, hk2, by omega, ?_⟩
        have eu3 : (upd (upd H1 s.u (.dT (putK kvs (ky3 x w t) (.int ((N.length + 2 : Nat) : Int))))) s.k (.lst (xs ++ [.ref tp]))) s.u = some (.dT (putK kvs (ky3 x w t) (.int ((N.length + 2 : Nat) : Int)))) := by rw [upd_ne nku.symm, upd_same]
        have f3 : FdS s H1 (upd (upd H1 s.u (.dT (putK kvs (ky3 x w t) (.int ((N.length + 2 : Nat) : Int))))) s.k (.lst (xs ++ [.ref tp]))) := fun b o n1 n2 n3 hb => by
          rw [upd_ne n1, upd_ne n2]
          exact hb
        have ep3 : (upd (upd H1 s.u (.dT (putK kvs (ky3 x w t) (.int ((N.length + 2 : Nat) : Int))))) s.k (.lst (xs ++ [.ref tp]))) s.p = some (.ins C dx (sfl s)) := by rw [upd_ne npk]; exact hp2
        have em3 : (upd (upd H1 s.u (.dT (putK kvs (ky3 x w t) (.int ((N.length + 2 : Nat) : Int))))) s.k (.lst (xs ++ [.ref tp]))) s.m = some (.dT cvs) := by rw [upd_ne nkm.symm, upd_ne hum.symm]; exact hm
        have ek3 : (upd (upd H1 s.u (.dT (putK kvs (ky3 x w t) (.int ((N.length + 2 : Nat) : Int))))) s.k (.lst (xs ++ [.ref tp]))) s.k = some (.lst (xs ++ [.ref tp])) := upd_same
        have et3 : (upd (upd H1 s.u (.dT (putK kvs (ky3 x w t) (.int ((N.length + 2 : Nat) : Int))))) s.k (.lst (xs ++ [.ref tp]))) tp = some (.tup ((ky3 x w t).map kV)) := by rw [upd_ne ntk, upd_ne ntu]; exact et
        generalize upd (upd H1 s.u (.dT (putK kvs (ky3 x w t) (.int ((N.length + 2 : Nat) : Int))))) s.k (.lst (xs ++ [.ref tp])) = H3 at eu3 f3 ep3 em3 ek3 et3
        have nk : NumsOk (N ++ [(x, w, t)]) (putK kvs (ky3 x w t) (.int ((N.length + 2 : Nat) : Int))) := hko.snoc ev
        have st3 : Sto C K H3 s (N ++ [(x, w, t)]) es L := by
          refine ⟨⟨dx, ep3⟩, ⟨_, ek3, ?_⟩, ⟨_, eu3, ?_, nk⟩, ⟨cvs, em3, hcl, hco.mono⟩, ?_, hum, hes⟩
          · rw [List.map_append]
            exact DpAll.snoc (DpAll.tsn (st1.tup f3) _ _ (nD_only _) hxs) (.tup (.of et3) (.cons (.int _) (.cons (.int _) (.cons (.int _) .nil))))
          · have := length_putK kvs (ky3 x w t) (.int ((N.length + 2 : Nat) : Int))
            rw [List.length_append]
            show _ ≤ _ + 1
            omega
          · rw [List.nodup_append]
            exact ⟨hnd, List.nodup_cons.mpr ⟨List.not_mem_nil, List.nodup_nil⟩, fun a ha b hb z => by
              rw [List.mem_singleton] at hb
              subst z hb
              exact hnew ha⟩
        refine ⟨_, rfl, s.p, C, dx, _, _, rfl, ep3, G.cl, G.nN, sf_num s, _, rfl, s.u, .int ((N.length + 2 : Nat) : Int), rfl, ?_, ?_⟩
        · have := DGet.t eu3 et3
          rw [valV_put, if_pos rfl] at this
          exact this
        · refine q H3 [(x, w, t)] (N.length + 2) ((FdS.of s1).trans f3) (Nat.le_refl _) st3 (.nd ?_ hw.mono ht.mono)
          rw [List.getElem?_append_right (Nat.le_refl _), Nat.sub_self]
          rfl
def topOf : Bd → Option Int
  | .nd x _ _ => some x
  | .lf _ => none
theorem srt_le {pre es : List Int} {x y : Int} (h : (pre ++ x :: es).Pairwise (· < ·)) (hy : y ∈ x :: es) : x ≤ y := by
  have h2 := (List.pairwise_append.mp h).2.1
  rw [List.pairwise_cons] at h2
  rcases List.mem_cons.mp hy with e | hy
  · omega
  · have := h2.1 y hy
    omega
theorem ok_top {f C : Addr} {fd : FuncData} (F : Fun K "top" "Diagrams.top" s_Diagrams_top f fd) (M : Mg mg) (G : DgC K C mg) (c_Diagrams_node_of : ClM P w K mg base 1 C "node_of" (sp_nof C K)) : FnOk P w K mg base CX0 2 f fd ["self", "conditions"] (sp_top C K) := by
  refine F.ok sc_Diagrams_top (fun vs H Q E h => ?_) (fun cdv A outer s H vs Q E hr h => ?_)
  · obtain ⟨s, N, es, L, pre, es', a, cs, rfl, _⟩ := h
    rfl
  · obtain ⟨s, N, es, L, pre, es', a, cs, rfl, st, ha, he, hl, hc, hex, q⟩ := h
    refine ⟨_, (pss_one (ps_ret (pe_callB (cr_min rfl) (by rfl) M.min (by decide +kernel) (pa_cons (pe_lc (own := [("condition", 2)]) (g := gName 2) rfl sc_Diagrams_top.nd (pi_tup (pv 1)) (blkOk_by (N := N_Diagrams_top) (sc := defScope s_Diagrams_top) (by decide +kernel)) (fun _ _ _ _ _ => (pg_name (i := 2) sc_Diagrams_top.nd rfl (.inl rfl))) (fun _ _ _ _ _ => (pts_one (pt_cmpR op_ge (pv 2) (C8.pe_gc (by rfl) G.FIRST_NODE) (nomark _)))) (fun _ _ _ _ _ => (pe_ix (ix_tupK K) (pe_mt c_Diagrams_node_of hr (by first | decide | omega) (pv 0) (pa_cons (pv 2) pa_nil)) pe_int (fun _ _ => rfl)))) pa_nil)))), ?_⟩
    refine ⟨_, rfl, a, rfl, ⟨_, ha⟩, fun D nD => ?_⟩
    refine lc_tup (K := K) (a := a) (xs := cs.map fun c => .int ((c.1 : Nat) : Int)) (fun i Hi => Same H Hi ∧ ∃ ns : List Int, Hi D = some (.lst (ns.map V.int)) ∧ ns.length ≤ i ∧ ns = (cs.take i).filterMap fun c => topOf c.2) ⟨same_upd nD, [], upd_same, Nat.zero_le _, rfl⟩ (fun i Hi _ hp => SqT.ext hp.1 ha) (fun i x Hi hx hp => ?_) (fun Hn hp => ?_)
    · obtain ⟨si, ns, eD, ln, en⟩ := hp
      rw [List.getElem?_map] at hx
      obtain ⟨c, hcv, rfl⟩ := Option.map_eq_some_iff.mp hx
      have hi : i < cs.length := (List.getElem?_eq_some_iff.mp hcv).1
      obtain ⟨hAt, hWf⟩ := hc c (List.mem_of_getElem? hcv)
      have sti := st.ext si
      refine ⟨rfl, ?_⟩
      refine ⟨_, rfl, _, _, rfl, rfl, _, rfl, ite2 (fun e => ?_) (fun e => ?_)⟩
      · have h2 : 2 ≤ c.1 := by
          have := of_decide_eq_true e
          omega
        obtain ⟨e1, w1, t1, a1, b1, hn, hw1, ht1, ea⟩ := hAt.ge h2
        refine ⟨_, rfl, sti.go (by decide +kernel) (by decide +kernel) (by decide +kernel) ⟨_, rfl, ?_⟩⟩
        refine ⟨s, N, es, L, c.1, _, rfl, sti, h2, hn, fun qa hq => ?_⟩
        refine ⟨qa, _, _, _, rfl, rfl, hq, atI_nat (j := 0) rfl, ?_⟩
        refine ⟨_, eD, by rw [List.length_map]; exact Nat.lt_of_le_of_lt ln (Nat.lt_of_lt_of_le hi (Nat.le_trans hl (by decide))), ?_, ns ++ [e1], ?_, ?_, ?_⟩
        · intro b o hb
          rw [upd_ne (ne_of_none hb nD)]
          exact si _ _ hb
        · rw [upd_same, List.map_append]
          rfl
        · rw [List.length_append]
          show _ + 1 ≤ _
          omega
        · rw [List.take_add_one, hcv, List.filterMap_append, ← en]
          show _ = _ ++ ([c].filterMap fun c => topOf c.2)
          rw [List.filterMap_cons, ea]
          rfl
      · have h2 : ¬ 2 ≤ c.1 := by
          intro h
          exact e (decide_eq_true (by omega))
        refine ⟨si, ns, eD, by omega, ?_⟩
        rw [List.take_add_one, hcv, List.filterMap_append, ← en]
        show _ = _ ++ ([c].filterMap fun c => topOf c.2)
        have : topOf c.2 = none := by
          generalize c.1 = cn at hAt h2
          generalize c.2 = A at hAt
          cases hAt with
          | f => rfl
          | t => rfl
          | nd _ _ _ => omega
        rw [List.filterMap_cons, this]
        exact (List.append_nil _).symm
    · obtain ⟨sn, ns, eD, ln, en⟩ := hp
      rw [List.length_map, List.take_of_length_le (Nat.le_refl _)] at en
      obtain ⟨c0, hc0, h20⟩ := hex
      have hex' : ∃ a ∈ cs.map (·.2), ∀ b, a ≠ .lf b := by
        refine ⟨c0.2, List.mem_map.mpr ⟨c0, hc0, rfl⟩, fun b z => ?_⟩
        obtain ⟨_, _, _, _, _, _, _, _, ea⟩ := (hc c0 hc0).1.ge h20
        rw [ea] at z
        cases z
      obtain ⟨pre2, x, es2, ee, hwf, w0, t0, hm0⟩ := top_ex (es := es') (cs := cs.map (·.2)) (fun a ha => by
        obtain ⟨c, hcm, rfl⟩ := List.mem_map.mp ha
        exact (hc c hcm).2) hex'
      have hwf' : ∀ c ∈ cs, Wf (x :: es2) c.2 := fun c hcm => hwf _ (List.mem_map.mpr ⟨c, hcm, rfl⟩)
      have hx : x ∈ ns := by
        obtain ⟨c, hcm, ec⟩ := List.mem_map.mp hm0
        rw [en]
        exact List.mem_filterMap.mpr ⟨c, hcm, by rw [ec]; rfl⟩
      refine ⟨D, ns, rfl, .of eD, List.length_pos_of_mem hx, fun m hm hmin => ?_⟩
      have h1 := hmin x hx
      rw [en] at hm
      obtain ⟨c, hcm, ec⟩ := List.mem_filterMap.mp hm
      have h2 : x ≤ m := by
        have hw := hwf' c hcm
        generalize c.2 = A at hw ec
        cases A with
        | lf b => cases ec
        | nd y w t =>
          have e : y = m := Option.some.inj ec
          subst e
          have srt := st.srt
          rw [he, ee, ← List.append_assoc] at srt
          exact srt_le srt hw.none_of
      obtain rfl : m = x := by omega
      exact q Hn pre2 m es2 sn ee hwf'
theorem ok_bra {f C : Addr} {fd : FuncData} (F : Fun K "branches" "Diagrams.branches" s_Diagrams_branches f fd) (M : Mg mg) (G : DgC K C mg) (c_Diagrams_node_of : ClM P w K mg base 1 C "node_of" (sp_nof C K)) : FnOk P w K mg base CX0 2 f fd ["self", "condition", "entry"] (sp_bra C K) := by
  refine F.ok sc_Diagrams_branches (fun vs H Q E h => ?_) (fun cdv A outer s H vs Q E hr h => ?_)
  · obtain ⟨s, N, es, L, x, es2, c, A, rfl, _⟩ := h
    rfl
  · obtain ⟨s, N, es, L, x, es2, c, A, rfl, st, hAt, hWf, hx, q⟩ := h
    refine ⟨_, (pss_cons (ps_if (pt_cmpR op_ge (pv 1) (C8.pe_gc (by rfl) G.FIRST_NODE) (nomark _)) (pss_cons (ps_asg (pe_mt c_Diagrams_node_of hr (by first | decide | omega) (pv 0) (pa_cons (pv 1) pa_nil)) (pg_tup (by rfl) (pgs_cons (pg_name (i := 3) sc_Diagrams_branches.nd rfl (.inl rfl)) (pgs_cons (pg_name (i := 4) sc_Diagrams_branches.nd rfl (.inl rfl)) (pgs_cons (pg_name (i := 5) sc_Diagrams_branches.nd rfl (.inl rfl)) pgs_nil)))))
      (pss_one (ps_if (pt_cmpR op_eq (pv 3) (pv 2) (nomark _)) (pss_one (ps_ret (pe_tup (pa_cons (pv 4) (pa_cons (pv 5) pa_nil))))) pss_nil))) pss_nil)
      (pss_one (ps_ret (pe_tup (pa_cons (pv 1) (pa_cons (pv 1) pa_nil)))))), ?_⟩
    have both : A.cw x = A → A.ct x = A → ∀ q', H q' = none → Q (.ref q') (upd H q' (.tup [.int ((c : Nat) : Int), .int ((c : Nat) : Int)])) := fun e1 e2 q' nq => by
      refine q _ q' c c (same_upd nq) upd_same ?_ ?_
      · rw [e1]; exact hAt
      · rw [e2]; exact hAt
    refine ⟨_, rfl, _, _, rfl, rfl, _, rfl, ite2 (fun e => ?_) (fun e => ?_)⟩
    · have h2 : 2 ≤ c := by
        have := of_decide_eq_true e
        omega
      obtain ⟨e1, w1, t1, a1, b1, hn, hw1, ht1, ea⟩ := hAt.ge h2
      refine ⟨_, rfl, st.go (by decide +kernel) (by decide +kernel) (by decide +kernel) ⟨_, rfl, ?_⟩⟩
      refine ⟨s, N, es, L, c, _, rfl, st, h2, hn, fun qa hq => ?_⟩
      refine ⟨qa, _, rfl, hq, rfl, _, _, rfl, _, _, rfl, _, _, rfl, rfl, ?_⟩
      refine ⟨_, rfl, _, rfl, rfl, _, rfl, ite2 (fun e => ?_) (fun e => ?_)⟩
      · have ee : e1 = x := V.int.inj (of_decide_eq_true e)
        refine ⟨_, rfl, _, rfl, by show 2 ≤ sizeLine; decide, fun q' nq => ?_⟩
        refine q _ q' w1 t1 (same_upd nq) upd_same ?_ ?_
        · rw [ea, show (Bd.nd e1 a1 b1).cw x = a1 from if_pos ee]; exact hw1
        · rw [ea, show (Bd.nd e1 a1 b1).ct x = b1 from if_pos ee]; exact ht1
      · have ee : e1 ≠ x := fun z => e (by rw [z]; exact decide_eq_true rfl)
        exact ⟨_, rfl, _, rfl, by show 2 ≤ sizeLine; decide, both (by rw [ea]; exact if_neg ee) (by rw [ea]; exact if_neg ee)⟩
    · have hlf : A.cw x = A ∧ A.ct x = A := by
        cases hAt with
        | f => exact ⟨rfl, rfl⟩
        | t => exact ⟨rfl, rfl⟩
        | nd _ _ _ => exact absurd (decide_eq_true (by omega)) e
      exact ⟨_, rfl, _, rfl, by show 2 ≤ sizeLine; decide, both hlf.1 hlf.2⟩
theorem Sto.more {C : Addr} {H : Hp} {s : SA} {N : Nds} {es : List Int} {L L' : Nat} (h : Sto C K H s N es L) (hl : L ≤ L') : Sto C K H s N es L' := by
  obtain ⟨h1, h2, h3, ⟨cvs, h4, h5, h6⟩, h7⟩ := h
  exact ⟨h1, h2, h3, ⟨cvs, h4, Nat.le_trans h5 hl, h6⟩, h7⟩
theorem Sto.put {C : Addr} {H : Hp} {s : SA} {N : Nds} {es : List Int} {L : Nat} (st : Sto C K H s N es L) {c a b r : Nat} {A B D T : Bd} (h1 : At N c A) (h2 : At N a B) (h3 : At N b D) (h4 : At N r T) (h5 : IsIte es A B D T) :
    ∃ cvs, H s.m = some (.dT cvs) ∧ cvs.length ≤ L ∧ Sto C K (upd H s.m (.dT (putK cvs (ky3 c a b) (.int ((r : Nat) : Int))))) s N es (L + 1) ∧ FdS s H (upd H s.m (.dT (putK cvs (ky3 c a b) (.int ((r : Nat) : Int))))) := by
  have f : ∀ cvs, FdS s H (upd H s.m (.dT (putK cvs (ky3 c a b) (.int ((r : Nat) : Int))))) := fun cvs x o n1 n2 n3 e => by
    rw [upd_ne n3]
    exact e
  obtain ⟨⟨dx, hp⟩, ⟨xs, hk, hxs⟩, ⟨kvs, hu, hkl, hko⟩, ⟨cvs, hm, hcl, hco⟩, hnd, hum, hes⟩ := id st
  refine ⟨cvs, hm, hcl, ⟨⟨dx, ?_⟩, ⟨xs, ?_, ?_⟩, ⟨kvs, ?_, hkl, hko⟩, ⟨_, upd_same, ?_, hco.put h1 h2 h3 h4 h5⟩, hnd, hum, hes⟩, f cvs⟩
  · rw [upd_ne (ne_of hp hm (fun z => nomatch z))]; exact hp
  · rw [upd_ne (ne_of hk hm (fun z => nomatch z))]; exact hk
  · exact DpAll.tsn (st.tup (f cvs)) _ _ (nD_only _) hxs
  · rw [upd_ne hum]; exact hu
  · have := length_putK cvs (ky3 c a b) (.int ((r : Nat) : Int))
    omega
set_option maxHeartbeats 4000000 in
theorem ok_comb (n : Nat) {f C : Addr} {fd : FuncData} (F : Fun K "combine" "Diagrams.combine" s_Diagrams_combine f fd) (M : Mg mg) (G : DgC K C mg) (c_Diagrams_node : ClM P w K mg base 1 C "node" (sp_node C K)) (c_Diagrams_top : ClM P w K mg base 2 C "top" (sp_top C K)) (c_Diagrams_branches : ClM P w K mg base 2 C "branches" (sp_bra C K))
    (c_Diagrams_combine : ClM P w K mg base (n + 2) C "combine" (sp_comb C K n)) : FnOk P w K mg base CX0 (n + 3) f fd ["self", "condition", "first", "second"] (sp_comb C K (n + 1)) := by
  refine F.ok sc_Diagrams_combine (fun vs H Q E h => ?_) (fun cdv A outer s H vs Q E hr h => ?_)
  · obtain ⟨s, N, es, L, pre, es', c, a, b, A, B, D, rfl, _⟩ := h
    rfl
  · obtain ⟨s, N, es, L, pre, es', c, a, b, A, B, D, rfl, st, he, hn, hA, hB, hD, wA, wB, wD, z1, z2, q⟩ := h
    have hp1 : 1 ≤ 2 ^ es'.length := Nat.one_le_two_pow
    have ret : ∀ H1 r T, Same H H1 → At N r T → IsIte es' A B D T → Q (.int ((r : Nat) : Int)) H1 := fun H1 r T s1 h1 h2 => q H1 [] r T (FdS.of s1) (by rw [List.length_nil]; exact hp1) (by rw [List.append_nil]; exact (st.ext s1).more (Nat.le_add_right _ _)) (by rw [List.append_nil]; exact h1) h2
    have inat : ∀ {x y : Nat}, decide (V.int ((x : Nat) : Int) = V.int ((y : Nat) : Int)) = true → x = y := fun {x y} e => by
      have := V.int.inj (of_decide_eq_true e)
      omega
    refine ⟨_, (pss_cons (ps_if (PW.pt (pw_or (pt_cmpR op_eq (pv 1) (C8.pe_gc (by rfl) G.ALWAYS) (nomark _)) (pw_or1 (pt_cmpR op_eq (pv 2) (pv 3) (nomark _))))) (pss_one (ps_ret (pv 2))) pss_nil)
      (pss_cons (ps_if (pt_cmpR op_eq (pv 1) (C8.pe_gc (by rfl) G.NEVER) (nomark _)) (pss_one (ps_ret (pv 3))) pss_nil)
      (pss_cons (ps_set (i := 4) sc_Diagrams_combine.nd rfl (.inl rfl) (pe_tup (pa_cons (pv 1) (pa_cons (pv 2) (pa_cons (pv 3) pa_nil)))))
      (pss_cons (ps_if (pt_cmp (pc_dnotin (hu_of hr) (pv 4) (pe_fld (pv 0) rfl))) (pss_cons (ps_set (i := 5) sc_Diagrams_combine.nd rfl (.inl rfl) (pe_mt c_Diagrams_top hr (by first | decide | omega) (pv 0) (pa_cons (pv 4) pa_nil)))
      (pss_cons (ps_asg (pe_mt c_Diagrams_branches hr (by first | decide | omega) (pv 0) (pa_cons (pv 1) (pa_cons (pv 5) pa_nil))) (pg_tup (by rfl) (pgs_cons (pg_name (i := 6) sc_Diagrams_combine.nd rfl (.inl rfl)) (pgs_cons (pg_name (i := 7) sc_Diagrams_combine.nd rfl (.inl rfl)) pgs_nil))))
      (pss_cons (ps_asg (pe_mt c_Diagrams_branches hr (by first | decide | omega) (pv 0) (pa_cons (pv 2) (pa_cons (pv 5) pa_nil))) (pg_tup (by rfl) (pgs_cons (pg_name (i := 8) sc_Diagrams_combine.nd rfl (.inl rfl)) (pgs_cons (pg_name (i := 9) sc_Diagrams_combine.nd rfl (.inl rfl)) pgs_nil))))
      (pss_cons (ps_asg (pe_mt c_Diagrams_branches hr (by first | decide | omega) (pv 0) (pa_cons (pv 3) (pa_cons (pv 5) pa_nil))) (pg_tup (by rfl) (pgs_cons (pg_name (i := 10) sc_Diagrams_combine.nd rfl (.inl rfl)) (pgs_cons (pg_name (i := 11) sc_Diagrams_combine.nd rfl (.inl rfl)) pgs_nil))))
      (pss_one (ps_dput (hu_of hr) (pe_fld (pv 0) rfl) (pv 4) (pe_mt c_Diagrams_node hr (by first | decide | omega) (pv 0) (pa_cons (pv 5) (pa_cons (pe_mt c_Diagrams_combine hr (by first | decide | omega) (pv 0) (pa_cons (pv 6) (pa_cons (pv 8) (pa_cons (pv 10) pa_nil)))) (pa_cons (pe_mt c_Diagrams_combine hr (by first | decide | omega) (pv 0) (pa_cons (pv 7) (pa_cons (pv 9) (pa_cons (pv 11) pa_nil)))) pa_nil)))) rfl)))))) pss_nil)
      (pss_one (ps_ret (pe_dget (hu_of hr) (pe_fld (pv 0) rfl) (pv 4) (fun _ _ => rfl)))))))), ?_⟩
    refine ⟨_, rfl, rfl, _, rfl, ite2 (fun e => ?_) (fun e => ?_)⟩
    · obtain rfl : c = 1 := inat (y := 1) e
      have eA := hA.fn .t
      exact ⟨_, rfl, ret H a B (fun _ _ h => h) hB ⟨wB, fun r => by rw [eA]; exact (if_pos rfl).symm⟩⟩
    refine ⟨_, rfl, _, rfl, rfl, _, rfl, ite2 (fun e2 => ?_) (fun e2 => ?_)⟩
    · obtain rfl := inat e2
      have eB := hB.fn hD
      exact ⟨_, rfl, ret H a B (fun _ _ h => h) hB ⟨wB, fun r => by rw [← eB]; split <;> rfl⟩⟩
    refine ⟨_, rfl, rfl, _, rfl, ite2 (fun e3 => ?_) (fun e3 => ?_)⟩
    · obtain rfl : c = 0 := inat (y := 0) e3
      have eA := hA.fn .f
      exact ⟨_, rfl, ret H b D (fun _ _ h => h) hD ⟨wD, fun r => by rw [eA]; exact (if_neg Bool.false_ne_true).symm⟩⟩
    have hc2 : 2 ≤ c := by
      have g1 : c ≠ 1 := fun z => e (by subst z; exact decide_eq_true rfl)
      have g0 : c ≠ 0 := fun z => e3 (by subst z; exact decide_eq_true rfl)
      omega
    refine ⟨_, rfl, _, rfl, _, rfl, by show 3 ≤ sizeLine; decide, fun tp ntp => ?_⟩
    have s1 := same_upd ntp (o := .tup [.int ((c : Nat) : Int), .int ((a : Nat) : Int), .int ((b : Nat) : Int)])
    have et : (upd H tp (.tup [.int ((c : Nat) : Int), .int ((a : Nat) : Int), .int ((b : Nat) : Int)])) tp = some (.tup ((ky3 c a b).map kV)) := upd_same
    generalize upd H tp (.tup [.int ((c : Nat) : Int), .int ((a : Nat) : Int), .int ((b : Nat) : Int)]) = H1 at s1 et
    have st1 := st.ext s1
    obtain ⟨⟨dx, hp⟩, _, _, ⟨cvs, hm, hcl, hco⟩, _⟩ := id st1
    refine ⟨_, rfl, _, rfl, s.p, C, dx, _, _, rfl, hp, G.cl, G.nM, sf_comb s, s.m, _, rfl, DGet.t hm et, _, rfl, ?_⟩
    cases ev : valV cvs (ky3 c a b) with
    | some v =>
      obtain ⟨r, A', B', D', T, rfl, h1, h2, h3, h4, h5⟩ := hco _ _ _ _ ev
      have e1 := h1.fn hA
      have e2' := h2.fn hB
      have e3' := h3.fn hD
      subst e1 e2' e3'
      refine iteF ⟨_, rfl, s.p, C, dx, _, _, rfl, hp, G.cl, G.nM, sf_comb s, _, rfl, s.m, .int ((r : Nat) : Int), rfl, ?_, ?_⟩
      · have := DGet.t hm et
        rw [ev] at this
        exact this
      · refine ret H1 r T s1 h4 (ite_low (pre := pre) (by rw [← he]; exact st.es_nd) wA wB wD (by rw [← he]; exact h5))
    | none =>
      refine iteT ?_
      refine ⟨_, rfl, st1.go (by decide +kernel) (by decide +kernel) (by decide +kernel) ⟨_, rfl, ?_⟩⟩
      refine ⟨s, N, es, L, pre, es', tp, [(c, A), (a, B), (b, D)], rfl, st1, .of et, he, Nat.le_refl _, ?_, ⟨(c, A), List.mem_cons_self, hc2⟩, fun H2 pre2 x es2 s2 ee hw => ?_⟩
      · intro y hy
        simp only [List.mem_cons, List.not_mem_nil, or_false] at hy
        rcases hy with rfl | rfl | rfl
        · exact ⟨hA, wA⟩
        · exact ⟨hB, wB⟩
        · exact ⟨hD, wD⟩
      have st2 := st1.ext s2
      have vA := hw (c, A) (by simp)
      have vB := hw (a, B) (by simp)
      have vD := hw (b, D) (by simp)
      have hx : x ∉ es2 := by
        have := st.es_nd
        rw [he, ee] at this
        exact (List.nodup_cons.mp (List.nodup_append.mp (List.nodup_append.mp this).2.1).2.1).1
      refine ⟨_, rfl, st2.go (by decide +kernel) (by decide +kernel) (by decide +kernel) ⟨_, rfl, _, rfl, ?_⟩⟩
      refine ⟨s, N, es, L, x, es2, c, A, rfl, st2, hA, vA, hx, fun H3 q3 w1 t1 s3 e3 hw1 ht1 => ?_⟩
      refine ⟨q3, _, rfl, .of e3, rfl, _, _, rfl, _, _, rfl, rfl, ?_⟩
      have st3 := st2.ext s3
      refine ⟨_, rfl, st3.go (by decide +kernel) (by decide +kernel) (by decide +kernel) ⟨_, rfl, _, rfl, ?_⟩⟩
      refine ⟨s, N, es, L, x, es2, a, B, rfl, st3, hB, vB, hx, fun H4 q4 w2 t2 s4 e4 hw2 ht2 => ?_⟩
      refine ⟨q4, _, rfl, .of e4, rfl, _, _, rfl, _, _, rfl, rfl, ?_⟩
      have st4 := st3.ext s4
      refine ⟨_, rfl, st4.go (by decide +kernel) (by decide +kernel) (by decide +kernel) ⟨_, rfl, _, rfl, ?_⟩⟩
      refine ⟨s, N, es, L, x, es2, b, D, rfl, st4, hD, vD, hx, fun H5 q5 w3 t3 s5 e5 hw3 ht3 => ?_⟩
      refine ⟨q5, _, rfl, .of e5, rfl, _, _, rfl, _, _, rfl, rfl, ?_⟩
      have st5 := st4.ext s5
      have s25 := ((s2.trans s3).trans s4).trans s5
      have et5 := s25 _ _ et
      have lee : es'.length = pre2.length + (es2.length + 1) := by rw [ee, List.length_append, List.length_cons]
      have hpow : 2 ^ es2.length + 2 ^ es2.length ≤ 2 ^ es'.length := by
        have : 2 ^ (es2.length + 1) ≤ 2 ^ es'.length := Nat.pow_le_pow_right (by decide) (by omega)
        rw [Nat.pow_succ] at this
        omega
      have hp2 : 1 ≤ 2 ^ es2.length := Nat.one_le_two_pow
      have he2 : es = (pre ++ pre2 ++ [x]) ++ es2 := by rw [he, ee]; simp
      refine ⟨_, rfl, st5.go (by decide +kernel) (by decide +kernel) (by decide +kernel) ⟨_, rfl, ?_⟩⟩
      refine ⟨_, rfl, st5.go (by decide +kernel) (by decide +kernel) (by decide +kernel) ⟨_, rfl, _, rfl, _, rfl, ?_⟩⟩
      refine ⟨s, N, es, L, pre ++ pre2 ++ [x], es2, w1, w2, w3, A.cw x, B.cw x, D.cw x, rfl, st5, he2, by omega, hw1, hw2, hw3, (vA.cw hx).1, (vB.cw hx).1, (vD.cw hx).1, by omega, by omega, fun H6 M1 r1 T1 f6 l1 st6 a1 i1 => ?_⟩
      refine ⟨_, rfl, st6.go (by decide +kernel) (by decide +kernel) (by decide +kernel) ⟨_, rfl, _, rfl, _, rfl, ?_⟩⟩
      refine ⟨s, N ++ M1, es, _, pre ++ pre2 ++ [x], es2, t1, t2, t3, A.ct x, B.ct x, D.ct x, rfl, st6, he2, by omega, ht1.mono, ht2.mono, ht3.mono, (vA.ct hx).1, (vB.ct hx).1, (vD.ct hx).1, by rw [List.length_append]; omega, by omega, fun H7 M2 r2 T2 f7 l2 st7 a2 i2 => ?_⟩
      refine ⟨s, (N ++ M1) ++ M2, es, _, x, r1, r2, T1, T2, rfl, st7, a1.mono, a2, by rw [List.length_append, List.length_append]; omega, fun H8 M3 r f8 l3 st8 a3 => ?_⟩
      have f58 := (f6.trans f7).trans f8
      have et8 := st5.tup f58 _ _ (.inl ⟨_, rfl⟩) et5
      have eN : N ++ M1 ++ M2 ++ M3 = N ++ (M1 ++ M2 ++ M3) := by simp only [List.append_assoc]
      rw [eN] at st8 a3
      have hI : IsIte es' A B D (mkB x T1 T2) := by
        rw [ee]
        exact (ite_step hx vA vB vD i1 i2).skips pre2
      obtain ⟨cv8, hm8, hl8, st9, f9⟩ := st8.put (hA.mono (M := M1 ++ M2 ++ M3)) (hB.mono (M := M1 ++ M2 ++ M3)) (hD.mono (M := M1 ++ M2 ++ M3)) a3 (by rw [he]; exact hI.skips pre)
      obtain ⟨dx8, hp8⟩ := st8.ins
      refine ⟨_, rfl, s.p, C, dx8, _, _, rfl, hp8, G.cl, G.nM, sf_comb s, _, rfl, s.m, _, rfl, DPut.t hm8 et8 (by omega), ?_⟩
      obtain ⟨dx9, hp9⟩ := st9.ins
      have et9 := st8.tup f9 _ _ (.inl ⟨_, rfl⟩) et8
      have em9 : (upd H8 s.m (.dT (putK cv8 (ky3 c a b) (.int ((r : Nat) : Int))))) s.m = some (.dT (putK cv8 (ky3 c a b) (.int ((r : Nat) : Int)))) := upd_same
      refine ⟨_, rfl, s.p, C, dx9, _, _, rfl, hp9, G.cl, G.nM, sf_comb s, _, rfl, s.m, .int ((r : Nat) : Int), rfl, ?_, ?_⟩
      · have := DGet.t em9 et9
        rw [valV_put, if_pos rfl] at this
        exact this
      · refine q _ (M1 ++ M2 ++ M3) r _ (((FdS.of (s1.trans s25)).trans f58).trans f9) ?_ (st9.more ?_) a3 hI
        · rw [List.length_append, List.length_append]
          omega
        · omega
end

/-! ### the operations, and what is said of a condition -/
theorem inV_int (e : Int) (ps : List Int) : inV (.int e) (ps.map V.int) = decide (e ∈ ps) := by
  unfold inV
  rw [List.any_map]
  by_cases h : e ∈ ps
  · rw [decide_eq_true h, List.any_eq_true]
    exact ⟨e, h, beq_self_eq_true e⟩
  · rw [decide_eq_false h]
    cases h2 : ps.any ((fun y => eqV y (.int e)) ∘ V.int) with
    | false => rfl
    | true =>
      exfalso
      obtain ⟨y, hy, hb⟩ := List.any_eq_true.mp h2
      have : y = e := eq_of_beq hb
      exact h (this ▸ hy)
theorem ints_flat (ps : List Int) : (ps.map V.int).all flatV = true := by
  rw [List.all_map]
  exact List.all_eq_true.mpr fun _ _ => rfl
def Bd.ht : Bd → Nat
  | .lf _ => 0
  | .nd _ w t => max w.ht t.ht + 1
def sp_there (C : Addr) (K : PySem.W.Frag) : Sp := fun vs H Q _ => ∃ s N es L x, vs = [.ref s.p, .int x] ∧ Sto C K H s N es L ∧ N.length + 1 < sizeLine ∧
  ∀ H' M r, FdS s H H' → M.length ≤ 1 → Sto C K H' s (N ++ M) es L → At (N ++ M) r (.nd x (.lf false) (.lf true)) → Q (.int ((r : Nat) : Int)) H'
def opB (es : List Int) : Nat := 2 * 2 ^ es.length
def sp_op2 (C : Addr) (K : PySem.W.Frag) (n : Nat) (f : Bool → Bool → Bool) : Sp := fun vs H Q _ => ∃ s N es L a b A B, vs = [.ref s.p, .int ((a : Nat) : Int), .int ((b : Nat) : Int)] ∧ Sto C K H s N es L ∧ es.length < n ∧ At N a A ∧ At N b B ∧ Wf es A ∧ Wf es B ∧ N.length + opB es < sizeLine ∧ L + opB es < sizeLine ∧
  ∀ H' M r T, FdS s H H' → M.length ≤ opB es → Sto C K H' s (N ++ M) es (L + opB es) → At (N ++ M) r T → Wf es T → (∀ ρ, T.ev ρ = f (A.ev ρ) (B.ev ρ)) → Q (.int ((r : Nat) : Int)) H'
def sp_neg (C : Addr) (K : PySem.W.Frag) (n : Nat) : Sp := fun vs H Q _ => ∃ s N es L a A, vs = [.ref s.p, .int ((a : Nat) : Int)] ∧ Sto C K H s N es L ∧ es.length < n ∧ At N a A ∧ Wf es A ∧ N.length + 2 ^ es.length < sizeLine ∧ L + 2 ^ es.length < sizeLine ∧
  ∀ H' M r T, FdS s H H' → M.length ≤ 2 ^ es.length → Sto C K H' s (N ++ M) es (L + 2 ^ es.length) → At (N ++ M) r T → Wf es T → (∀ ρ, T.ev ρ = !(A.ev ρ)) → Q (.int ((r : Nat) : Int)) H'
def sp_holds (C : Addr) (K : PySem.W.Frag) : Sp := fun vs H Q _ => ∃ s N es L c A a, ∃ ps : List Int, vs = [.ref s.p, .int ((c : Nat) : Int), .ref a] ∧ Sto C K H s N es L ∧ At N c A ∧ SqL K H a (ps.map V.int) ∧ Q (.bl (A.ev fun e => decide (e ∈ ps))) H
def sp_dinit (C : Addr) (K : PySem.W.Frag) : Sp := fun vs H Q _ => ∃ p dx, vs = [.ref p] ∧ H p = some (.ins C dx []) ∧ ∀ H' s, s.p = p → Fd p H H' → H s.k = none → H s.u = none → H s.m = none → (∀ es : List Int, es.Pairwise (· < ·) → Sto C K H' s [] es 0) → Q .non H'
theorem dk1 : ¬ (("kept" : Str) = "numbers") := by decide +kernel
theorem dk2 : ¬ (("kept" : Str) = "combined") := by decide +kernel
theorem dk3 : ¬ (("numbers" : Str) = "combined") := by decide +kernel
theorem sf_mk (s : SA) : putF "combined" (.ref s.m) (putF "numbers" (.ref s.u) (putF "kept" (.ref s.k) [])) = sfl s := by
  unfold sfl
  simp only [putF, if_neg dk1, if_neg dk2, if_neg dk3]
section
variable {P : Program} {w : World} {K : PySem.W.Frag} {mg : Str → Option Value} {base : Heap}
theorem bu_ne {C : Addr} {sa : SA} {N : Nds} {es : List Int} {L : Nat} {H : Hp} {B : Addr} (st : Sto C K H sa N es L) (nB : H B = none) : B ≠ sa.k ∧ B ≠ sa.u ∧ B ≠ sa.m := by
  obtain ⟨_, ⟨_, g1, _⟩, ⟨_, g2, _⟩, ⟨_, g3, _⟩, _⟩ := st
  exact ⟨(ne_of_none g1 nB).symm, (ne_of_none g2 nB).symm, (ne_of_none g3 nB).symm⟩
theorem cl_comb {f C : Addr} {fd : FuncData} (F : Fun K "combine" "Diagrams.combine" s_Diagrams_combine f fd) (M : Mg mg) (G : DgC K C mg) (mt : Meth K C "combine" f) (bi : Binds K fd ["self", "condition", "first", "second"] []) (c_Diagrams_node : ClM P w K mg base 1 C "node" (sp_node C K)) (c_Diagrams_top : ClM P w K mg base 2 C "top" (sp_top C K)) (c_Diagrams_branches : ClM P w K mg base 2 C "branches" (sp_bra C K)) :
    ∀ n, ClM P w K mg base (n + 2) C "combine" (sp_comb C K n)
  | 0 => FnOk.clm (P := P) (w := w) (base := base) (mg := mg) (F.ok sc_Diagrams_combine (fun vs H Q E h => by obtain ⟨s, N, es, L, pre, es', c, a, b, A, B, D, rfl, _⟩ := h; rfl) (fun cdv A outer s H vs Q E hr h => by obtain ⟨s, N, es, L, pre, es', c, a, b, A, B, D, rfl, st, he, hn, _⟩ := h; omega)) mt G.cl bi
  | n + 1 => FnOk.clm (ok_comb n F M G c_Diagrams_node c_Diagrams_top c_Diagrams_branches (cl_comb F M G mt bi c_Diagrams_node c_Diagrams_top c_Diagrams_branches n)) mt G.cl bi
theorem ok_there {f C : Addr} {fd : FuncData} (F : Fun K "there" "Diagrams.there" s_Diagrams_there f fd) (M : Mg mg) (G : DgC K C mg) (c_Diagrams_node : ClM P w K mg base 1 C "node" (sp_node C K)) : FnOk P w K mg base CX0 2 f fd ["self", "entry"] (sp_there C K) := by
  refine F.ok sc_Diagrams_there (fun vs H Q E h => ?_) (fun cdv A outer s H vs Q E hr h => ?_)
  · obtain ⟨s, N, es, L, x, rfl, _⟩ := h
    rfl
  · obtain ⟨s, N, es, L, x, rfl, st, hz, q⟩ := h
    refine ⟨_, (pss_one (ps_ret (pe_mt c_Diagrams_node hr (by first | decide | omega) (pv 0) (pa_cons (pv 1) (pa_cons (C8.pe_gc (by rfl) G.NEVER) (pa_cons (C8.pe_gc (by rfl) G.ALWAYS) pa_nil)))))), ?_⟩
    refine ⟨_, rfl, st.go (by decide +kernel) (by decide +kernel) (by decide +kernel) ⟨_, rfl, ?_⟩⟩
    exact ⟨s, N, es, L, x, 0, 1, _, _, rfl, st, .f, .t, hz, fun H' M r f l st' a => q H' M r f l st' a⟩
theorem opB_ge (es : List Int) : 2 ^ es.length + 2 ^ es.length = opB es := by unfold opB; omega
theorem ok_conj {n : Nat} {f C : Addr} {fd : FuncData} (F : Fun K "conjunction" "Diagrams.conjunction" s_Diagrams_conjunction f fd) (M : Mg mg) (G : DgC K C mg) (c_Diagrams_combine : ClM P w K mg base (n + 2) C "combine" (sp_comb C K n)) : FnOk P w K mg base CX0 (n + 3) f fd ["self", "first", "second"] (sp_op2 C K n and) := by
  refine F.ok sc_Diagrams_conjunction (fun vs H Q E h => ?_) (fun cdv A outer s H vs Q E hr h => ?_)
  · obtain ⟨s, N, es, L, a, b, A, B, rfl, _⟩ := h
    rfl
  · obtain ⟨s, N, es, L, a, b, A, B, rfl, st, hn, hA, hB, wA, wB, z1, z2, q⟩ := h
    have ob := opB_ge es
    refine ⟨_, (pss_one (ps_ret (pe_mt c_Diagrams_combine hr (by first | decide | omega) (pv 0) (pa_cons (pv 1) (pa_cons (pv 2) (pa_cons (C8.pe_gc (by rfl) G.NEVER) pa_nil)))))), ?_⟩
    refine ⟨_, rfl, st.go (by decide +kernel) (by decide +kernel) (by decide +kernel) ⟨_, rfl, _, rfl, ?_⟩⟩
    refine ⟨s, N, es, L, [], es, a, b, 0, A, B, _, rfl, st, rfl, hn, hA, hB, .f, wA, wB, .lf, by omega, by omega, fun H' M r T f l st' a i => q H' M r T f (by omega) (st'.more (by omega)) a i.1 fun ρ => ?_⟩
    rw [i.2]
    cases A.ev ρ <;> rfl
theorem ok_disj {n : Nat} {f C : Addr} {fd : FuncData} (F : Fun K "disjunction" "Diagrams.disjunction" s_Diagrams_disjunction f fd) (M : Mg mg) (G : DgC K C mg) (c_Diagrams_combine : ClM P w K mg base (n + 2) C "combine" (sp_comb C K n)) : FnOk P w K mg base CX0 (n + 3) f fd ["self", "first", "second"] (sp_op2 C K n or) := by
  refine F.ok sc_Diagrams_disjunction (fun vs H Q E h => ?_) (fun cdv A outer s H vs Q E hr h => ?_)
  · obtain ⟨s, N, es, L, a, b, A, B, rfl, _⟩ := h
    rfl
  · obtain ⟨s, N, es, L, a, b, A, B, rfl, st, hn, hA, hB, wA, wB, z1, z2, q⟩ := h
    have ob := opB_ge es
    refine ⟨_, (pss_one (ps_ret (pe_mt c_Diagrams_combine hr (by first | decide | omega) (pv 0) (pa_cons (pv 1) (pa_cons (C8.pe_gc (by rfl) G.ALWAYS) (pa_cons (pv 2) pa_nil)))))), ?_⟩
    refine ⟨_, rfl, st.go (by decide +kernel) (by decide +kernel) (by decide +kernel) ⟨_, rfl, _, rfl, ?_⟩⟩
    refine ⟨s, N, es, L, [], es, a, 1, b, A, _, B, rfl, st, rfl, hn, hA, .t, hB, wA, .lf, wB, by omega, by omega, fun H' M r T f l st' a i => q H' M r T f (by omega) (st'.more (by omega)) a i.1 fun ρ => ?_⟩
    rw [i.2]
    cases A.ev ρ <;> rfl
theorem ok_neg {n : Nat} {f C : Addr} {fd : FuncData} (F : Fun K "negation" "Diagrams.negation" s_Diagrams_negation f fd) (M : Mg mg) (G : DgC K C mg) (c_Diagrams_combine : ClM P w K mg base (n + 2) C "combine" (sp_comb C K n)) : FnOk P w K mg base CX0 (n + 3) f fd ["self", "condition"] (sp_neg C K n) := by
  refine F.ok sc_Diagrams_negation (fun vs H Q E h => ?_) (fun cdv A outer s H vs Q E hr h => ?_)
  · obtain ⟨s, N, es, L, a, A, rfl, _⟩ := h
    rfl
  · obtain ⟨s, N, es, L, a, A, rfl, st, hn, hA, wA, z1, z2, q⟩ := h
    refine ⟨_, (pss_one (ps_ret (pe_mt c_Diagrams_combine hr (by first | decide | omega) (pv 0) (pa_cons (pv 1) (pa_cons (C8.pe_gc (by rfl) G.NEVER) (pa_cons (C8.pe_gc (by rfl) G.ALWAYS) pa_nil)))))), ?_⟩
    refine ⟨_, rfl, st.go (by decide +kernel) (by decide +kernel) (by decide +kernel) ⟨_, rfl, ?_⟩⟩
    refine ⟨s, N, es, L, [], es, a, 0, 1, A, _, _, rfl, st, rfl, hn, hA, .f, .t, wA, .lf, .lf, by omega, by omega, fun H' M r T f l st' a i => q H' M r T f (by omega) (st'.more (by omega)) a i.1 fun ρ => ?_⟩
    rw [i.2]
    cases A.ev ρ <;> rfl
theorem ok_diff {n : Nat} {f C : Addr} {fd : FuncData} (F : Fun K "differs" "Diagrams.differs" s_Diagrams_differs f fd) (M : Mg mg) (G : DgC K C mg) (c_Diagrams_combine : ClM P w K mg base (n + 2) C "combine" (sp_comb C K n)) (c_Diagrams_negation : ClM P w K mg base (n + 3) C "negation" (sp_neg C K n)) : FnOk P w K mg base CX0 (n + 4) f fd ["self", "first", "second"] (sp_op2 C K n bne) := by
  refine F.ok sc_Diagrams_differs (fun vs H Q E h => ?_) (fun cdv A outer s H vs Q E hr h => ?_)
  · obtain ⟨s, N, es, L, a, b, A, B, rfl, _⟩ := h
    rfl
  · obtain ⟨s, N, es, L, a, b, A, B, rfl, st, hn, hA, hB, wA, wB, z1, z2, q⟩ := h
    have ob := opB_ge es
    refine ⟨_, (pss_one (ps_ret (pe_mt c_Diagrams_combine hr (by first | decide | omega) (pv 0) (pa_cons (pv 1) (pa_cons (pe_mt c_Diagrams_negation hr (by first | decide | omega) (pv 0) (pa_cons (pv 2) pa_nil)) (pa_cons (pv 2) pa_nil)))))), ?_⟩
    refine ⟨_, rfl, st.go (by decide +kernel) (by decide +kernel) (by decide +kernel) ⟨_, rfl, ?_⟩⟩
    refine ⟨_, rfl, st.go (by decide +kernel) (by decide +kernel) (by decide +kernel) ⟨_, rfl, ?_⟩⟩
    refine ⟨s, N, es, L, b, B, rfl, st, hn, hB, wB, by omega, by omega, fun H1 M1 r1 T1 f1 l1 st1 a1 w1 v1 => ?_⟩
    refine ⟨_, rfl, ?_⟩
    refine ⟨s, N ++ M1, es, _, [], es, a, r1, b, A, T1, B, rfl, st1, rfl, hn, hA.mono, a1, hB.mono, wA, w1, wB, by rw [List.length_append]; omega, by omega, fun H2 M2 r2 T2 f2 l2 st2 a2 i2 => ?_⟩
    rw [List.append_assoc] at st2 a2
    refine q H2 (M1 ++ M2) r2 T2 (f1.trans f2) (by rw [List.length_append]; omega) (st2.more (by omega)) a2 i2.1 fun ρ => ?_
    rw [i2.2, v1]
    cases A.ev ρ <;> cases B.ev ρ <;> rfl
theorem ok_dinit {f C : Addr} {fd : FuncData} (F : Fun K "__init__" "Diagrams.__init__" s_Diagrams___init__ f fd) (G : DgC K C mg) : FnOk P w K mg base CX0 1 f fd ["self"] (sp_dinit C K) := by
  refine F.ok sc_Diagrams___init__ (fun vs H Q E h => ?_) (fun cdv A outer s H vs Q E hr h => ?_)
  · obtain ⟨p, dx, rfl, _⟩ := h
    rfl
  · obtain ⟨p, dx, rfl, hp, q⟩ := h
    refine ⟨_, (pss_cons (ps_fld (pv 0) (pe_lst pa_nil) rfl)
      (pss_cons (ps_fld (pv 0) pe_dnewT rfl)
      (pss_one (ps_fld (pv 0) pe_dnewT rfl)))), ?_⟩
    refine ⟨by show 0 ≤ sizeLine; decide, fun k nk => ?_⟩
    have npk : p ≠ k := ne_of_none hp nk
    have e1 : (upd H k (.lst [])) p = some (.ins C dx []) := by rw [upd_ne npk]; exact hp
    refine ⟨_, rfl, p, C, dx, [], rfl, e1, G.cl, G.nK, by show 0 < 1000; decide, ?_⟩
    have f1 : Fd p H (upd (upd H k (.lst [])) p (.ins C dx (putF "kept" (.ref k) []))) := Fd.trans (Fd.new nk) Fd.at
    have ek1 : (upd (upd H k (.lst [])) p (.ins C dx (putF "kept" (.ref k) []))) k = some (.lst []) := by rw [upd_ne npk.symm, upd_same]
    have ep1 : (upd (upd H k (.lst [])) p (.ins C dx (putF "kept" (.ref k) []))) p = some (.ins C dx (putF "kept" (.ref k) [])) := upd_same
    generalize upd (upd H k (.lst [])) p (.ins C dx (putF "kept" (.ref k) [])) = H1 at f1 ek1 ep1
    intro u nu
    have npu : p ≠ u := ne_of_none ep1 nu
    have hu0 : H u = none := by
      cases e : H u with
      | none => rfl
      | some o => exact absurd (f1 u o npu.symm e) (by rw [nu]; exact fun z => nomatch z)
    have nku : k ≠ u := ne_of_none ek1 nu
    have e2 : (upd H1 u (.dT [])) p = some (.ins C dx (putF "kept" (.ref k) [])) := by rw [upd_ne npu]; exact ep1
    refine ⟨_, rfl, p, C, dx, _, rfl, e2, G.cl, G.nN, by show 1 < 1000; decide, ?_⟩
    have f2 : Fd p H1 (upd (upd H1 u (.dT [])) p (.ins C dx (putF "numbers" (.ref u) (putF "kept" (.ref k) [])))) := Fd.trans (Fd.new nu) Fd.at
    have eu2 : (upd (upd H1 u (.dT [])) p (.ins C dx (putF "numbers" (.ref u) (putF "kept" (.ref k) [])))) u = some (.dT []) := by rw [upd_ne npu.symm, upd_same]
    have ep2 : (upd (upd H1 u (.dT [])) p (.ins C dx (putF "numbers" (.ref u) (putF "kept" (.ref k) [])))) p = some (.ins C dx (putF "numbers" (.ref u) (putF "kept" (.ref k) []))) := upd_same
    generalize upd (upd H1 u (.dT [])) p (.ins C dx (putF "numbers" (.ref u) (putF "kept" (.ref k) []))) = H2 at f2 eu2 ep2
    intro m nm
    have npm : p ≠ m := ne_of_none ep2 nm
    have f12 := f1.trans f2
    have hm0 : H m = none := by
      cases e : H m with
      | none => rfl
      | some o => exact absurd (f12 m o npm.symm e) (by rw [nm]; exact fun z => nomatch z)
    have num : u ≠ m := ne_of_none eu2 nm
    have ek2 := f2 k _ npk.symm ek1
    have e3 : (upd H2 m (.dT [])) p = some (.ins C dx (putF "numbers" (.ref u) (putF "kept" (.ref k) []))) := by rw [upd_ne npm]; exact ep2
    refine ⟨_, rfl, p, C, dx, _, rfl, e3, G.cl, G.nM, by show 2 < 1000; decide, ?_⟩
    have f3 : Fd p H2 (upd (upd H2 m (.dT [])) p (.ins C dx (putF "combined" (.ref m) (putF "numbers" (.ref u) (putF "kept" (.ref k) []))))) := Fd.trans (Fd.new nm) Fd.at
    have em3 : (upd (upd H2 m (.dT [])) p (.ins C dx (putF "combined" (.ref m) (putF "numbers" (.ref u) (putF "kept" (.ref k) []))))) m = some (.dT []) := by rw [upd_ne npm.symm, upd_same]
    refine q _ ⟨p, k, u, m⟩ rfl (f12.trans f3) nk hu0 hm0 fun es hes => ⟨⟨dx, ?_⟩, ⟨[], f3 _ _ npk.symm ek2, .nil⟩, ⟨[], f3 _ _ npu.symm eu2, Nat.le_refl _, ⟨fun _ _ _ _ => List.not_mem_nil, fun _ _ _ _ h => nomatch (show none = some _ from h)⟩⟩, ⟨[], em3, Nat.le_refl _, fun _ _ _ _ h => nomatch (show none = some _ from h)⟩, List.nodup_nil, num, hes⟩
    rw [upd_same]
    exact congrArg (fun z => some (HO.ins C dx z)) (sf_mk ⟨p, k, u, m⟩)
end

theorem wne (a b : String) (h : (Str.ofString a == Str.ofString b) = false) : decide (V.str (Str.ofString a) = V.str (Str.ofString b)) = false := by
  refine decide_eq_false fun e => ?_
  rw [V.str.inj e] at h
  have : (Str.ofString b == Str.ofString b) = true := beq_self_eq_true _
  rw [this] at h
  cases h
theorem weq (a : Str) : decide (V.str a = V.str a) = true := decide_eq_true rfl
section
variable {K : PySem.W.Frag}
/-- a tuple's word and the rest -/
theorem dp_tup {H : Hp} {p : V} {ds : List PyData} (h : Dp K H p (.tuple ds)) : ∃ a xs, p = .ref a ∧ SqT K H a xs ∧ DpAll K H xs ds := by
  cases h with
  | tup hs ha => exact ⟨_, _, rfl, hs, ha⟩
theorem dp_two {H : Hp} {xs : List V} {s : Str} {d : PyData} (h : DpAll K H xs [.str s, d]) : ∃ v, xs = [.str s, v] ∧ Dp K H v d := by
  cases h with
  | cons h1 h2 =>
    cases h1
    cases h2 with
    | cons h3 h4 =>
      cases h4
      exact ⟨_, rfl, h3⟩
theorem dp_three {H : Hp} {xs : List V} {s : Str} {d e : PyData} (h : DpAll K H xs [.str s, d, e]) : ∃ v u, xs = [.str s, v, u] ∧ Dp K H v d ∧ Dp K H u e := by
  cases h with
  | cons h1 h2 =>
    cases h1
    cases h2 with
    | cons h3 h4 =>
      cases h4 with
      | cons h5 h6 =>
        cases h6
        exact ⟨_, _, rfl, h3, h5⟩
end

/-! ### the laws' input rows and conditions -/
inductive Bo where
  | and | or | df
def Bo.s : Bo → String
  | .and => "and" | .or => "or" | .df => "differ"
def Bo.f : Bo → Bool → Bool → Bool
  | .and => Bool.and | .or => Bool.or | .df => bne
inductive Tr where
  | con (b : Bool)
  | ther (e : Int)
  | nt (a : Tr)
  | bin (o : Bo) (a b : Tr)
def Tr.d : Tr → PyData
  | .con b => .tuple [.str "constant", .int (if b = true then 1 else 0)]
  | .ther e => .tuple [.str "there", .int e]
  | .nt a => .tuple [.str "not", a.d]
  | .bin o a b => .tuple [.str (Str.ofString o.s), a.d, b.d]
def Tr.ht : Tr → Nat
  | .nt a => a.ht + 1
  | .bin _ a b => max a.ht b.ht + 1
  | _ => 0
def Tr.sz : Tr → Nat
  | .nt a => a.sz + 1
  | .bin _ a b => a.sz + b.sz + 1
  | _ => 1
def Tr.ok (es : List Int) : Tr → Prop
  | .con _ => True
  | .ther e => e ∈ es
  | .nt a => a.ok es
  | .bin _ a b => a.ok es ∧ b.ok es
def Tr.ev : Tr → (Int → Bool) → Bool
  | .con b, _ => b
  | .ther e, r => r e
  | .nt a, r => !(a.ev r)
  | .bin o a b, r => o.f (a.ev r) (b.ev r)
theorem tr_only : ∀ t : Tr, tupOnly t.d = true
  | .con _ => rfl
  | .ther _ => rfl
  | .nt a => by simp [Tr.d, tupOnly, tupOnlys, tr_only a]
  | .bin _ a b => by simp [Tr.d, tupOnly, tupOnlys, tr_only a, tr_only b]
theorem tr_sz : ∀ t : Tr, t.sz + 1 ≤ 2 ^ (t.ht + 1)
  | .con _ => Nat.le_refl _
  | .ther _ => Nat.le_refl _
  | .nt a => by
    have := tr_sz a
    show a.sz + 1 + 1 ≤ 2 ^ (a.ht + 1 + 1)
    rw [Nat.pow_succ]
    have : 1 ≤ 2 ^ (a.ht + 1) := Nat.one_le_two_pow
    omega
  | .bin _ a b => by
    have h1 := Nat.le_trans (tr_sz a) (Nat.pow_le_pow_right (by decide) (show a.ht + 1 ≤ max a.ht b.ht + 1 by omega))
    have h2 := Nat.le_trans (tr_sz b) (Nat.pow_le_pow_right (by decide) (show b.ht + 1 ≤ max a.ht b.ht + 1 by omega))
    show a.sz + b.sz + 1 + 1 ≤ 2 ^ (max a.ht b.ht + 1 + 1)
    rw [Nat.pow_succ]
    omega
/-- it goes by the input rows of the list alone -/
theorem tr_agree {es : List Int} : ∀ {t : Tr} {r q : Int → Bool}, t.ok es → (∀ e ∈ es, r e = q e) → t.ev r = t.ev q
  | .con _, _, _, _, _ => rfl
  | .ther e, _, _, h, g => g e h
  | .nt a, r, q, h, g => congrArg not (tr_agree (t := a) h g)
  | .bin o a b, r, q, h, g => by
    show o.f _ _ = o.f _ _
    rw [tr_agree (t := a) h.1 g, tr_agree (t := b) h.2 g]
theorem wf_agree {es : List Int} {a : Bd} (h : Wf es a) : ∀ {r q : Int → Bool}, (∀ e ∈ es, r e = q e) → a.ev r = a.ev q := by
  induction h with
  | lf => intros; rfl
  | @here x es w t _ _ _ iw it =>
    intro r q g
    have gx := g x List.mem_cons_self
    have g' := fun e he => g e (List.mem_cons_of_mem _ he)
    show (if r x = true then t.ev r else w.ev r) = if q x = true then t.ev q else w.ev q
    rw [gx, iw g', it g']
  | skip _ ih =>
    intro r q g
    exact ih fun e he => g e (List.mem_cons_of_mem _ he)
/-- the input rows: a few, ascending -/
def EnA (H : Hp) (a d c : Addr) (es : List Int) (most : Nat) : Prop := a ≠ d ∧ a ≠ c ∧ H a = some (.lst (es.map V.int)) ∧ es.Pairwise (· < ·) ∧ 1 ≤ es.length ∧ es.length ≤ most ∧ ∀ e ∈ es, 0 ≤ e ∧ e < 1000
theorem EnA.fd {H H' : Hp} {a d c : Addr} {es : List Int} {most : Nat} (f : Fd d H H') (h : EnA H a d c es most) : EnA H' a d c es most := ⟨h.1, h.2.1, f _ _ h.1 h.2.2.1, h.2.2.2⟩
def sp_ents (most : Nat) : Sp := fun vs H Q _ => ∃ (d c : Addr), vs = [.ref d, .int (most : Nat)] ∧ 1 ≤ most ∧ most ≤ 8 ∧ Dr H d c ∧ ∀ H' a es, Fd d H H' → Dr H' d c → H a = none → EnA H' a d c es most → Q (.ref a) H'
def sp_ltr (K : PySem.W.Frag) (n : Nat) : Sp := fun vs H Q _ => ∃ (d c a : Addr) (es : List Int) (most m : Nat), vs = [.ref d, .ref a, .int (m : Nat)] ∧ m < n ∧ Dr H d c ∧ EnA H a d c es most ∧ most ≤ 8 ∧ ∀ H' p (t : Tr), Fd d H H' → Dr H' d c → t.ok es → t.ht ≤ m → Dp K H' p t.d → Q p H'
section
variable {P : Program} {w : World} {K : PySem.W.Frag} {mg : Str → Option Value} {base : Heap}
theorem ok_ents {f : Addr} {fd : FuncData} (most : Nat) (F : Fun K "_law_entries" "_law_entries" s__law_entries f fd) (M : Mg mg) (c__law_next : Cl P w K mg base 1 "_law_next" sp_next) : FnOk P w K mg base CX0 2 f fd ["draw", "most"] (sp_ents most) := by
  refine F.ok sc__law_entries (fun vs H Q E h => ?_) (fun cdv A outer s H vs Q E hr h => ?_)
  · obtain ⟨d, c, rfl, _⟩ := h
    rfl
  · obtain ⟨d, c, rfl, hm1, hm2, dr, q⟩ := h
    refine ⟨_, (pss_cons (ps_set (i := 2) sc__law_entries.nd rfl (.inl rfl) (pe_lst pa_nil))
      (pss_cons (ps_set (i := 3) sc__law_entries.nd rfl (.inl rfl) (pe_u c__law_next hr (by first | decide | omega) (by rfl) (pa_cons (pv 0) (pa_cons pe_int pa_nil))))
      (pss_cons (ps_for PassesOwn.never rfl (pi_range1 (by rfl) M.range (pa_cons (pe_op op_add pe_int (pe_u c__law_next hr (by first | decide | omega) (by rfl) (pa_cons (pv 0) (pa_cons (pv 1) pa_nil)))) pa_nil)) (pg_name (i := 4) sc__law_entries.nd rfl (.inl rfl)) (pss_cons (ps_expr (pe_bmK K PySem.F.plainAttrs_list PySem.F.slot_list_append PySem.F.type_list_append mt_append (pv 2) (pa_cons (pv 3) pa_nil)))
      (pss_one (ps_set (i := 3) sc__law_entries.nd rfl (.inl rfl) (pe_op op_add (pe_op op_add (pv 3) pe_int) (pe_op op_mul (pe_u c__law_next hr (by first | decide | omega) (by rfl) (pa_cons (pv 0) (pa_cons pe_int pa_nil))) (pe_u c__law_next hr (by first | decide | omega) (by rfl) (pa_cons (pv 0) (pa_cons pe_int pa_nil)))))))))
      (pss_one (ps_ret (pv 2)))))), ?_⟩
    refine ⟨by show 0 ≤ sizeLine; decide, fun a na => ?_⟩
    have nad := dr.nd na
    have nac := dr.nc na
    have dr1 := dr.ext (same_upd na (o := .lst []))
    refine ⟨_, rfl, d, c, 3, rfl, dr1, by decide, by decide, fun H2 r f2 _ dr2 r0 r1 => ?_⟩
    refine ⟨_, rfl, _, rfl, d, c, (most : Nat), rfl, dr2, by omega, by omega, fun H3 z f3 _ dr3 z0 z1 => ?_⟩
    refine ⟨_, _, rfl, rfl, _, rfl, by omega, by omega, ?_⟩
    have ea3 : H3 a = some (.lst (([] : List Int).map V.int)) := f3 _ _ nad (f2 _ _ nad upd_same)
    refine for_range (lo := 0) (n := (1 + z).toNat) (fun i σ Hi => Fd d H Hi ∧ Dr Hi d c ∧ ∃ (es : List Int) (last : Int) (y : Option V), σ = [some (.ref d), some (.int (most : Nat)), some (.ref a), some (.int last), y] ∧ Hi a = some (.lst (es.map V.int)) ∧ es.length = i ∧ es.Pairwise (· < ·) ∧ (∀ e ∈ es, 0 ≤ e ∧ e < last) ∧ 0 ≤ last ∧ last ≤ 2 + 100 * i) ⟨((Fd.new na).trans f2).trans f3, dr3, [], r, none, rfl, ea3, rfl, .nil, (fun _ h => by cases h), r0, by omega⟩ (fun i σ Hi hi hp => ?_) (fun σ Hn hp => ?_)
    · obtain ⟨fi, di, es, last, y, rfl, ea, el, ep, eb, l0, l1⟩ := hp
      refine ⟨_, rfl, .inl ⟨rfl, _, .inl (.inl ea)⟩, _, rfl, a, _, _, rfl, rfl, ea, by rw [List.length_map, el]; exact Nat.lt_of_lt_of_le (m := 100) (by omega) (by decide), ?_⟩
      have di2 := di.upd nad nac (o := .lst (es.map V.int ++ [.int last]))
      refine ⟨_, rfl, _, _, rfl, rfl, _, rfl, d, c, 2, rfl, di2, by decide, by decide, fun H5 r5 f5 _ dr5 r50 r51 => ?_⟩
      refine ⟨_, rfl, d, c, 90, rfl, dr5, by decide, by decide, fun H6 r6 f6 _ dr6 r60 r61 => ?_⟩
      refine ⟨_, _, rfl, rfl, .inl ⟨by omega, by omega⟩, _, _, rfl, rfl, ?_⟩
      have hmul : 0 ≤ r5 * r6 ∧ r5 * r6 ≤ 89 := by
        have : r5 = 0 ∨ r5 = 1 := by omega
        rcases this with rfl | rfl
        · simp
        · rw [Int.one_mul]; omega
      refine ⟨?_, dr6, es ++ [last], _, _, rfl, ?_, ?_, ?_, ?_, by omega, by omega⟩
      · intro b o nb e
        refine f6 _ _ nb (f5 _ _ nb ?_)
        rw [upd_ne (ne_of_none e na)]
        exact fi _ _ nb e
      · rw [f6 _ _ nad (f5 _ _ nad upd_same), List.map_append]
        rfl
      · rw [List.length_append, el]
        rfl
      · rw [List.pairwise_append]
        exact ⟨ep, List.pairwise_singleton _ _, fun x hx y hy => by rw [List.mem_singleton.mp hy]; exact (eb x hx).2⟩
      · intro e he
        rcases List.mem_append.mp he with he | he
        · have := eb e he
          omega
        · rw [List.mem_singleton.mp he]
          omega
    · obtain ⟨fi, di, es, last, y, rfl, ea, el, ep, eb, l0, l1⟩ := hp
      refine ⟨_, rfl, q Hn a es fi di na ⟨nad, nac, ea, ep, by omega, by omega, fun e he => ?_⟩⟩
      have := eb e he
      omega
theorem ok_ltr {f : Addr} {fd : FuncData} (n : Nat) (F : Fun K "_law_tree" "_law_tree" s__law_tree f fd) (M : Mg mg) (c__law_next : Cl P w K mg base 1 "_law_next" sp_next) (c__law_tree : Cl P w K mg base (n + 1) "_law_tree" (sp_ltr K n)) : FnOk P w K mg base CX0 (n + 2) f fd ["draw", "entries", "depth"] (sp_ltr K (n + 1)) := by
  refine F.ok sc__law_tree (fun vs H Q E h => ?_) (fun cdv A outer s H vs Q E hr h => ?_)
  · obtain ⟨d, c, a, es, most, m, rfl, _⟩ := h
    rfl
  · obtain ⟨d, c, a, es, most, m, rfl, hm, dr, en, hmo, q⟩ := h
    refine ⟨_, (pss_cons (ps_set (i := 3) sc__law_tree.nd rfl (.inl rfl) (pe_u c__law_next hr (by first | decide | omega) (by rfl) (pa_cons (pv 0) (pa_cons pe_int pa_nil))))
      (pss_cons (ps_if (PW.pt (pw_or (pt_cmpR op_eq (pv 2) pe_int (nomark _)) (pw_or1 (pt_cmpR op_lt (pv 3) pe_int (nomark _))))) (pss_cons (ps_if (pt_cmpR op_eq (pe_u c__law_next hr (by first | decide | omega) (by rfl) (pa_cons (pv 0) (pa_cons pe_int pa_nil))) pe_int (nomark _)) (pss_one (ps_ret (pe_tup (pa_cons pe_str (pa_cons (pe_u c__law_next hr (by first | decide | omega) (by rfl) (pa_cons (pv 0) (pa_cons pe_int pa_nil))) pa_nil))))) pss_nil)
      (pss_one (ps_ret (pe_tup (pa_cons pe_str (pa_cons (pe_ix (ix_listK K) (pv 1) (pe_u c__law_next hr (by first | decide | omega) (by rfl) (pa_cons (pv 0) (pa_cons (pe_callB (len_seqK K) (by rfl) M.len PySem.boot_len (pa_cons (pv 1) pa_nil)) pa_nil))) (fun _ _ => rfl)) pa_nil)))))) pss_nil)
      (pss_cons (ps_if (pt_cmpR op_eq (pv 3) pe_int (nomark _)) (pss_one (ps_ret (pe_tup (pa_cons pe_str (pa_cons (pe_u c__law_tree hr (by first | decide | omega) (by rfl) (pa_cons (pv 0) (pa_cons (pv 1) (pa_cons (pe_op op_sub (pv 2) pe_int) pa_nil)))) pa_nil))))) pss_nil)
      (pss_cons (ps_set (i := 4) sc__law_tree.nd rfl (.inl rfl) (pe_u c__law_tree hr (by first | decide | omega) (by rfl) (pa_cons (pv 0) (pa_cons (pv 1) (pa_cons (pe_op op_sub (pv 2) pe_int) pa_nil)))))
      (pss_one (ps_ret (pe_tup (pa_cons (pe_ix (ix_listK K) (pe_lst (pa_cons pe_str (pa_cons pe_str (pa_cons pe_str pa_nil)))) (pe_op op_mod (pv 3) pe_int) (fun _ _ => rfl)) (pa_cons (pv 4) (pa_cons (pe_u c__law_tree hr (by first | decide | omega) (by rfl) (pa_cons (pv 0) (pa_cons (pv 1) (pa_cons (pe_op op_sub (pv 2) pe_int) pa_nil)))) pa_nil)))))))))), ?_⟩
    refine ⟨_, rfl, d, c, 9, rfl, dr, by decide, by decide, fun H1 r f1 _ dr1 r0 r1 => ?_⟩
    have en1 := en.fd f1
    by_cases hd : m = 0 ∨ r < 2
    · refine ⟨_, rfl, rfl, _, rfl, ?_⟩
      refine ite2 (fun e => iteT ?_) (fun e => ⟨_, rfl, _, _, rfl, rfl, _, rfl, ?x⟩)
      case' x =>
        rw [decide_eq_true (show r < 2 by
          rcases hd with rfl | h
          · exact absurd (decide_eq_true rfl) e
          · exact h)]
        refine iteT ?_
      all_goals
        refine ⟨_, rfl, d, c, 12, rfl, dr1, by decide, by decide, fun H2 r2 f2 _ dr2 r20 r21 => ?_⟩
        have en2 := en1.fd f2
        refine ⟨rfl, _, rfl, ite2 (fun e => ?_) (fun e => ?_)⟩
        · refine ⟨_, rfl, d, c, 2, rfl, dr2, by decide, by decide, fun H3 r3 f3 _ dr3 r30 r31 => ?_⟩
          refine ⟨by show 2 ≤ sizeLine; decide, fun p np => ?_⟩
          obtain ⟨b, rfl⟩ : ∃ b : Bool, r3 = if b = true then 1 else 0 := by
            by_cases h : r3 = 1
            · exact ⟨true, h⟩
            · exact ⟨false, by show r3 = 0; omega⟩
          exact q _ _ (.con b) (((f1.trans f2).trans f3).trans (Fd.new np)) (dr3.ext (same_upd np)) trivial (Nat.zero_le _) (.tup (.inl (.inl upd_same)) (.cons (.str _) (.cons (.int _) .nil)))
        · refine ⟨_, rfl, _, rfl, _, rfl, a, _, rfl, .inl (.of en2.2.2.1), ?_⟩
          rw [List.length_map]
          have l1 := en2.2.2.2.2.1
          have l2 := en2.2.2.2.2.2.1
          refine ⟨d, c, _, rfl, dr2, by omega, by omega, fun H3 r3 f3 _ dr3 r30 r31 => ?_⟩
          obtain ⟨k3, rfl⟩ := Int.eq_ofNat_of_zero_le r30
          have hk3 : k3 < es.length := by omega
          have en3 := en2.fd f3
          refine ⟨a, _, _, .int es[k3], rfl, rfl, .of en3.2.2.1, atI_nat (by rw [List.getElem?_map, List.getElem?_eq_getElem hk3]; rfl), ?_⟩
          refine ⟨by show 2 ≤ sizeLine; decide, fun p np => ?_⟩
          exact q _ _ (.ther es[k3]) (((f1.trans f2).trans f3).trans (Fd.new np)) (dr3.ext (same_upd np)) (List.getElem_mem hk3) (Nat.zero_le _) (.tup (.inl (.inl upd_same)) (.cons (.str _) (.cons (.int _) .nil)))
    · obtain ⟨k, rfl⟩ : ∃ k, m = k + 1 := ⟨m - 1, by omega⟩
      have dec : [V.ref d, V.ref a, V.int (((k + 1 : Nat) : Int) - 1)] = [V.ref d, V.ref a, V.int (k : Nat)] := by rw [show (((k + 1 : Nat) : Int) - 1) = (k : Nat) by omega]
      refine ⟨_, rfl, rfl, _, rfl, ?_⟩
      rw [show decide (V.int ((k + 1 : Nat) : Int) = V.int 0) = false from decide_eq_false fun z => by have := V.int.inj z; omega]
      refine iteF ⟨_, rfl, _, _, rfl, rfl, _, rfl, ?_⟩
      rw [decide_eq_false (show ¬ r < 2 by omega)]
      refine iteF ?_
      refine ⟨_, rfl, rfl, _, rfl, ite2 (fun e => ?_) (fun e => ?_)⟩
      · refine ⟨_, rfl, _, rfl, _, rfl, _, _, rfl, rfl, d, c, a, es, most, k, dec, by omega, dr1, en1, hmo, fun H2 p1 t1 f2 dr2 ok1 ht1 dp1 => ?_⟩
        refine ⟨by show 2 ≤ sizeLine; decide, fun p np => ?_⟩
        exact q _ _ (.nt t1) ((f1.trans f2).trans (Fd.new np)) (dr2.ext (same_upd np)) ok1 (by show t1.ht + 1 ≤ k + 1; omega) (.tup (.inl (.inl upd_same)) (.cons (.str _) (.cons (Dp.ext (same_upd np) _ _ dp1) .nil)))
      · refine ⟨_, rfl, _, rfl, _, rfl, _, _, rfl, rfl, d, c, a, es, most, k, dec, by omega, dr1, en1, hmo, fun H2 p1 t1 f2 dr2 ok1 ht1 dp1 => ?_⟩
        refine ⟨by show 3 ≤ sizeLine; decide, fun wp nwp => ?_⟩
        have sw := same_upd nwp (o := .lst [.str "and", .str "or", .str "differ"])
        have ew : (upd H2 wp (.lst [.str "and", .str "or", .str "differ"])) wp = some (.lst [.str "and", .str "or", .str "differ"]) := upd_same
        generalize upd H2 wp (.lst [.str "and", .str "or", .str "differ"]) = H3 at sw ew
        have dr3 := dr2.ext sw
        have en3 := (en1.fd f2).fd (Fd.of sw)
        have dp3 := Dp.ext sw _ _ dp1
        have fin : ∀ (o : Bo), r % 3 = (match o with | .and => 0 | .or => 1 | .df => 2) → atI [V.str "and", V.str "or", V.str "differ"] (r % 3) = some (.str (Str.ofString o.s)) := fun o h => by
          rw [h]
          cases o with
          | and => exact atI_nat (j := 0) rfl
          | or => exact atI_nat (j := 1) rfl
          | df => exact atI_nat (j := 2) rfl
        obtain ⟨o, ho⟩ : ∃ o : Bo, r % 3 = (match o with | .and => 0 | .or => 1 | .df => 2) := by
          have : r % 3 = 0 ∨ r % 3 = 1 ∨ r % 3 = 2 := by omega
          rcases this with h | h | h
          · exact ⟨.and, h⟩
          · exact ⟨.or, h⟩
          · exact ⟨.df, h⟩
        refine ⟨_, rfl, _, _, rfl, rfl, by show (0 : Int) < 3; decide, wp, _, _, _, rfl, rfl, .of ew, fin o ho, ?_⟩
        refine ⟨_, rfl, ?_⟩
        refine ⟨_, rfl, _, rfl, _, rfl, _, _, rfl, rfl, d, c, a, es, most, k, dec, by omega, dr3, en3, hmo, fun H4 p2 t2 f4 dr4 ok2 ht2 dp2 => ?_⟩
        have dp4 := Dp.fd dr3.lst f4 _ _ (tr_only t1) dp3
        refine ⟨by show 3 ≤ sizeLine; decide, fun p np => ?_⟩
        exact q _ _ (.bin o t1 t2) ((((f1.trans f2).trans (Fd.of sw)).trans f4).trans (Fd.new np)) (dr4.ext (same_upd np)) ⟨ok1, ok2⟩ (by show max t1.ht t2.ht + 1 ≤ k + 1; omega) (.tup (.inl (.inl upd_same)) (.cons (.str _) (.cons (Dp.ext (same_upd np) _ _ dp4) (.cons (Dp.ext (same_upd np) _ _ dp2) .nil))))
theorem cl_ltr {f : Addr} {fd : FuncData} (F : Fun K "_law_tree" "_law_tree" s__law_tree f fd) (M : Mg mg) (g : mg "_law_tree" = some (.ref f)) (b : Binds K fd ["draw", "entries", "depth"] []) (c__law_next : Cl P w K mg base 1 "_law_next" sp_next) : ∀ n, Cl P w K mg base (n + 1) "_law_tree" (sp_ltr K n)
  | 0 => FnOk.cl (P := P) (w := w) (base := base) (F.ok sc__law_tree (fun vs H Q E h => by obtain ⟨d, c, a, es, most, m, rfl, _⟩ := h; rfl) (fun cdv A outer s H vs Q E hr h => by obtain ⟨d, c, a, es, most, m, rfl, hm, _⟩ := h; omega)) F g b
  | n + 1 => FnOk.cl (ok_ltr n F M c__law_next (cl_ltr F M g b c__law_next n)) F g b
end

/-! ### the laws' building of conditions, their truth, the sets -/
def sp_build (C : Addr) (K : PySem.W.Frag) (m n : Nat) : Sp := fun vs H Q _ => ∃ s N es L v t, vs = [.ref s.p, v] ∧ Sto C K H s N es L ∧ es.length < m ∧ Tr.ok es t ∧ Tr.ht t < n ∧ Dp K H v t.d ∧ N.length + t.sz * opB es < sizeLine ∧ L + t.sz * opB es < sizeLine ∧
  ∀ H' M r T, FdS s H H' → M.length ≤ t.sz * opB es → Sto C K H' s (N ++ M) es (L + t.sz * opB es) → At (N ++ M) r T → Wf es T → (∀ ρ, T.ev ρ = t.ev ρ) → Q (.int ((r : Nat) : Int)) H'
def sp_true (K : PySem.W.Frag) (n : Nat) : Sp := fun vs H Q _ => ∃ v a t, ∃ ps : List Int, vs = [v, .ref a] ∧ Dp K H v (Tr.d t) ∧ SqL K H a (ps.map V.int) ∧ t.ht < n ∧ Q (.bl (t.ev fun e => decide (e ∈ ps))) H
/-- all sets of input rows, in the law's order -/
def subs (es : List Int) : List (List Int) := es.foldl (fun f e => f ++ f.map (· ++ [e])) [[]]
theorem subs_snoc (es : List Int) (e : Int) : subs (es ++ [e]) = subs es ++ (subs es).map (· ++ [e]) := by
  unfold subs
  rw [List.foldl_append]
  rfl
theorem subs_len (es : List Int) : (subs es).length = 2 ^ es.length := by
  have h : ∀ (es : List Int) (f : List (List Int)), (es.foldl (fun f e => f ++ f.map (· ++ [e])) f).length = f.length * 2 ^ es.length := by
    intro es
    induction es with
    | nil => intro f; simp
    | cons e es ih =>
      intro f
      rw [List.foldl_cons, ih, List.length_append, List.length_map, List.length_cons, Nat.pow_succ, ← Nat.two_mul, Nat.mul_comm 2 f.length, Nat.mul_assoc, Nat.mul_comm 2]
  rw [subs, h]
  simp
theorem subs_le (es : List Int) : ∀ p ∈ subs es, p.length ≤ es.length ∧ ∀ e ∈ p, e ∈ es := by
  have h : ∀ (es all : List Int) (f : List (List Int)) (k : Nat), (∀ e ∈ es, e ∈ all) → (∀ p ∈ f, p.length ≤ k ∧ ∀ e ∈ p, e ∈ all) → ∀ p ∈ es.foldl (fun f e => f ++ f.map (· ++ [e])) f, p.length ≤ k + es.length ∧ ∀ e ∈ p, e ∈ all := by
    intro es all
    induction es with
    | nil => intro f k _ h; exact h
    | cons e es ih =>
      intro f k ha h p hp
      rw [List.foldl_cons] at hp
      have := ih _ (k + 1) (fun x hx => ha x (List.mem_cons_of_mem _ hx)) (fun q hq => by
        rcases List.mem_append.mp hq with hq | hq
        · have := h q hq
          exact ⟨by omega, this.2⟩
        · obtain ⟨q', hq', rfl⟩ := List.mem_map.mp hq
          have := h q' hq'
          refine ⟨by rw [List.length_append]; exact Nat.add_le_add_right this.1 1, fun x hx => ?_⟩
          rcases List.mem_append.mp hx with hx | hx
          · exact this.2 x hx
          · rw [List.mem_singleton.mp hx]
            exact ha e List.mem_cons_self) p hp
      rw [List.length_cons]
      exact ⟨by omega, this.2⟩
  intro p hp
  have := h es es [[]] 0 (fun _ h => h) (fun p hp => by rw [List.mem_singleton.mp hp]; exact ⟨Nat.le_refl _, fun _ h => by cases h⟩) p hp
  rw [Nat.zero_add] at this
  exact this
/-- a list of lists of numbers -/
def LL (H : Hp) (p : Addr) (ls : List (List Int)) : Prop := ∃ as : List Addr, H p = some (.lst (as.map V.ref)) ∧ as.length = ls.length ∧ ∀ (i : Nat) b l, as[i]? = some b → ls[i]? = some l → H b = some (.lst (l.map V.int))
theorem LL.ext {H H' : Hp} {p : Addr} {ls : List (List Int)} (e : Same H H') (h : LL H p ls) : LL H' p ls := by
  obtain ⟨as, h1, h2, h3⟩ := h
  exact ⟨as, e _ _ h1, h2, fun i b l g1 g2 => e _ _ (h3 i b l g1 g2)⟩
theorem LL.get {H : Hp} {p : Addr} {ls : List (List Int)} (h : LL H p ls) : ∃ as : List Addr, H p = some (.lst (as.map V.ref)) ∧ as.length = ls.length ∧ ∀ (i : Nat) v, (as.map V.ref)[i]? = some v → ∃ b l, v = .ref b ∧ ls[i]? = some l ∧ H b = some (.lst (l.map V.int)) := by
  obtain ⟨as, h1, h2, h3⟩ := h
  refine ⟨as, h1, h2, fun i v hv => ?_⟩
  rw [List.getElem?_map] at hv
  obtain ⟨b, hb, rfl⟩ := Option.map_eq_some_iff.mp hv
  have hi : i < ls.length := by rw [← h2]; exact (List.getElem?_eq_some_iff.mp hb).1
  exact ⟨b, ls[i], rfl, List.getElem?_eq_getElem hi, h3 i b _ hb (List.getElem?_eq_getElem hi)⟩
def sp_subs : Sp := fun vs H Q _ => ∃ a, ∃ es : List Int, vs = [.ref a] ∧ H a = some (.lst (es.map V.int)) ∧ es.length ≤ 10 ∧ ∀ H' p, Same H H' → H p = none → LL H' p (subs es) → Q (.ref p) H'
theorem LL.app {H : Hp} {p q a b : Addr} {ls ms : List (List Int)} {xs ys : List V} (np : H p = none) (h1 : LL H a ls) (h2 : LL H b ms) (e1 : H a = some (.lst xs)) (e2 : H b = some (.lst ys)) : LL (upd H p (.lst (xs ++ ys))) p (ls ++ ms) := by
  obtain ⟨as, g1, g2, g3⟩ := h1
  obtain ⟨bs, k1, k2, k3⟩ := h2
  have ex : xs = as.map V.ref := by rw [g1] at e1; exact (HO.lst.inj (Option.some.inj e1)).symm
  have ey : ys = bs.map V.ref := by rw [k1] at e2; exact (HO.lst.inj (Option.some.inj e2)).symm
  refine ⟨as ++ bs, by rw [upd_same, ex, ey, List.map_append], by rw [List.length_append, List.length_append, g2, k2], fun i c l hc hl => ?_⟩
  refine same_upd np _ _ ?_
  by_cases hi : i < as.length
  · rw [List.getElem?_append_left hi] at hc
    rw [List.getElem?_append_left (by omega)] at hl
    exact g3 i c l hc hl
  · rw [List.getElem?_append_right (by omega)] at hc
    rw [List.getElem?_append_right (by omega), ← g2] at hl
    exact k3 _ c l hc hl
theorem Wf.one {es : List Int} {x : Int} (h : x ∈ es) : Wf es (.nd x (.lf false) (.lf true)) := by
  obtain ⟨pre, post, rfl⟩ := List.append_of_mem h
  exact (Wf.here .lf .lf (fun z => by cases z)).skips pre
section
variable {P : Program} {w : World} {K : PySem.W.Frag} {mg : Str → Option Value} {base : Heap}
theorem ok_true (n : Nat) {f : Addr} {fd : FuncData} (F : Fun K "_law_true" "_law_true" s__law_true f fd) (M : Mg mg) (c__law_true : Cl P w K mg base (n + 1) "_law_true" (sp_true K n)) : FnOk P w K mg base CX0 (n + 2) f fd ["tree", "present"] (sp_true K (n + 1)) := by
  refine F.ok sc__law_true (fun vs H Q E h => ?_) (fun cdv A outer s H vs Q E hr h => ?_)
  · obtain ⟨v, a, t, ps, rfl, _⟩ := h
    rfl
  · obtain ⟨v, a, t, ps, rfl, dp, ha, hn, q⟩ := h
    refine ⟨_, (pss_cons (ps_if (pt_cmpR op_eq (pe_ix (ix_tupK K) (pv 0) pe_int (fun _ _ => rfl)) pe_str (nomark _)) (pss_one (ps_ret (pe_cmpR op_eq (pe_ix (ix_tupK K) (pv 0) pe_int (fun _ _ => rfl)) pe_int (nomark _)))) pss_nil)
      (pss_cons (ps_if (pt_cmpR op_eq (pe_ix (ix_tupK K) (pv 0) pe_int (fun _ _ => rfl)) pe_str (nomark _)) (pss_one (ps_ret (pe_cmpR (inK K) (pe_ix (ix_tupK K) (pv 0) pe_int (fun _ _ => rfl)) (pv 1) (by rfl)))) pss_nil)
      (pss_cons (ps_set (i := 2) sc__law_true.nd rfl (.inl rfl) (pe_u c__law_true hr (by first | decide | omega) (by rfl) (pa_cons (pe_ix (ix_tupK K) (pv 0) pe_int (fun _ _ => rfl)) (pa_cons (pv 1) pa_nil))))
      (pss_cons (ps_if (pt_cmpR op_eq (pe_ix (ix_tupK K) (pv 0) pe_int (fun _ _ => rfl)) pe_str (nomark _)) (pss_one (ps_ret (pe_not (pv 2)))) pss_nil)
      (pss_cons (ps_set (i := 3) sc__law_true.nd rfl (.inl rfl) (pe_u c__law_true hr (by first | decide | omega) (by rfl) (pa_cons (pe_ix (ix_tupK K) (pv 0) pe_int (fun _ _ => rfl)) (pa_cons (pv 1) pa_nil))))
      (pss_cons (ps_if (pt_cmpR op_eq (pe_ix (ix_tupK K) (pv 0) pe_int (fun _ _ => rfl)) pe_str (nomark _)) (pss_one (ps_ret (pe_and (pv 2) (pe_one (pv 3))))) pss_nil)
      (pss_one (ps_ret (pe_ifExp (pt_cmpR op_eq (pe_ix (ix_tupK K) (pv 0) pe_int (fun _ _ => rfl)) pe_str (nomark _)) (pe_or (pv 2) (pe_one (pv 3))) (pe_cmpR op_ne (pv 2) (pv 3) (nomark _))))))))))), ?_⟩
    cases t with
    | con b =>
      obtain ⟨p, xs, rfl, hs, hx⟩ := dp_tup dp
      obtain ⟨u, rfl, hu⟩ := dp_two hx
      cases hu
      refine ⟨_, rfl, p, _, _, _, rfl, rfl, hs, atI_nat (j := 0) rfl, rfl, _, rfl, ?_⟩
      rw [weq]
      refine iteT ⟨_, rfl, p, _, _, _, rfl, rfl, hs, atI_nat (j := 1) rfl, rfl, ?_⟩
      cases b with
      | true => exact q
      | false => exact q
    | ther e =>
      obtain ⟨p, xs, rfl, hs, hx⟩ := dp_tup dp
      obtain ⟨u, rfl, hu⟩ := dp_two hx
      cases hu
      refine ⟨_, rfl, p, _, _, _, rfl, rfl, hs, atI_nat (j := 0) rfl, rfl, _, rfl, ?_⟩
      rw [wne "there" "constant" (by decide +kernel)]
      refine iteF ⟨_, rfl, p, _, _, _, rfl, rfl, hs, atI_nat (j := 0) rfl, rfl, _, rfl, ?_⟩
      rw [weq]
      refine iteT ⟨_, rfl, p, _, _, _, rfl, rfl, hs, atI_nat (j := 1) rfl, _, rfl, a, _, rfl, .inl ha, rfl, ints_flat ps, ?_⟩
      rw [if_neg Bool.false_ne_true, inV_int]
      exact q
    | nt t1 =>
      obtain ⟨p, xs, rfl, hs, hx⟩ := dp_tup dp
      obtain ⟨u, rfl, hu⟩ := dp_two hx
      have hn : t1.ht + 1 < n + 1 := hn
      refine ⟨_, rfl, p, _, _, _, rfl, rfl, hs, atI_nat (j := 0) rfl, rfl, _, rfl, ?_⟩
      rw [wne "not" "constant" (by decide +kernel)]
      refine iteF ⟨_, rfl, p, _, _, _, rfl, rfl, hs, atI_nat (j := 0) rfl, rfl, _, rfl, ?_⟩
      rw [wne "not" "there" (by decide +kernel)]
      refine iteF ⟨_, rfl, p, _, _, _, rfl, rfl, hs, atI_nat (j := 1) rfl, _, rfl, u, a, t1, ps, rfl, hu, ha, by omega, ?_⟩
      refine ⟨_, rfl, p, _, _, _, rfl, rfl, hs, atI_nat (j := 0) rfl, rfl, _, rfl, ?_⟩
      rw [weq]
      exact iteT ⟨_, rfl, _, rfl, q⟩
    | bin o t1 t2 =>
      obtain ⟨p, xs, rfl, hs, hx⟩ := dp_tup dp
      obtain ⟨u, u2, rfl, hu, hu2⟩ := dp_three hx
      have hn : max t1.ht t2.ht + 1 < n + 1 := hn
      refine ⟨_, rfl, p, _, _, _, rfl, rfl, hs, atI_nat (j := 0) rfl, rfl, _, rfl, ?_⟩
      rw [wne o.s "constant" (by cases o <;> decide +kernel)]
      refine iteF ⟨_, rfl, p, _, _, _, rfl, rfl, hs, atI_nat (j := 0) rfl, rfl, _, rfl, ?_⟩
      rw [wne o.s "there" (by cases o <;> decide +kernel)]
      refine iteF ⟨_, rfl, p, _, _, _, rfl, rfl, hs, atI_nat (j := 1) rfl, _, rfl, u, a, t1, ps, rfl, hu, ha, by omega, ?_⟩
      refine ⟨_, rfl, p, _, _, _, rfl, rfl, hs, atI_nat (j := 0) rfl, rfl, _, rfl, ?_⟩
      rw [wne o.s "not" (by cases o <;> decide +kernel)]
      refine iteF ⟨_, rfl, p, _, _, _, rfl, rfl, hs, atI_nat (j := 2) rfl, _, rfl, u2, a, t2, ps, rfl, hu2, ha, by omega, ?_⟩
      refine ⟨_, rfl, p, _, _, _, rfl, rfl, hs, atI_nat (j := 0) rfl, rfl, _, rfl, ?_⟩
      cases o with
      | and =>
        rw [show decide (V.str (Str.ofString Bo.and.s) = V.str "and") = true from weq "and"]
        refine iteT ⟨_, rfl, _, rfl, ?_⟩
        have q : Q (.bl ((t1.ev fun e => decide (e ∈ ps)) && (t2.ev fun e => decide (e ∈ ps)))) H := q
        cases e : t1.ev fun e => decide (e ∈ ps) with
        | true =>
          rw [e] at q
          exact iteT ⟨_, rfl, q⟩
        | false =>
          rw [e] at q
          exact iteF q
      | or =>
        rw [show decide (V.str (Str.ofString Bo.or.s) = V.str "and") = false from wne "or" "and" (by decide +kernel)]
        refine iteF ⟨_, rfl, p, _, _, _, rfl, rfl, hs, atI_nat (j := 0) rfl, rfl, _, rfl, ?_⟩
        rw [show decide (V.str (Str.ofString Bo.or.s) = V.str "or") = true from weq "or"]
        refine iteT ⟨_, rfl, _, rfl, ?_⟩
        have q : Q (.bl ((t1.ev fun e => decide (e ∈ ps)) || (t2.ev fun e => decide (e ∈ ps)))) H := q
        cases e : t1.ev fun e => decide (e ∈ ps) with
        | true =>
          rw [e] at q
          exact iteT q
        | false =>
          rw [e] at q
          exact iteF ⟨_, rfl, q⟩
      | df =>
        rw [show decide (V.str (Str.ofString Bo.df.s) = V.str "and") = false from wne "differ" "and" (by decide +kernel)]
        refine iteF ⟨_, rfl, p, _, _, _, rfl, rfl, hs, atI_nat (j := 0) rfl, rfl, _, rfl, ?_⟩
        rw [show decide (V.str (Str.ofString Bo.df.s) = V.str "or") = false from wne "differ" "or" (by decide +kernel)]
        refine iteF ⟨_, rfl, _, rfl, rfl, ?_⟩
        have q : Q (.bl (bne (t1.ev fun e => decide (e ∈ ps)) (t2.ev fun e => decide (e ∈ ps)))) H := q
        cases e : t1.ev fun e => decide (e ∈ ps) <;> cases e2 : t2.ev fun e => decide (e ∈ ps) <;> rw [e, e2] at q <;> exact q
theorem cl_true {f : Addr} {fd : FuncData} (F : Fun K "_law_true" "_law_true" s__law_true f fd) (M : Mg mg) (g : mg "_law_true" = some (.ref f)) (b : Binds K fd ["tree", "present"] []) : ∀ n, Cl P w K mg base (n + 1) "_law_true" (sp_true K n)
  | 0 => FnOk.cl (P := P) (w := w) (base := base) (F.ok sc__law_true (fun vs H Q E h => by obtain ⟨v, a, t, ps, rfl, _⟩ := h; rfl) (fun cdv A outer s H vs Q E hr h => by obtain ⟨v, a, t, ps, rfl, _, _, hm, _⟩ := h; omega)) F g b
  | n + 1 => FnOk.cl (ok_true n F M (cl_true F M g b n)) F g b
set_option maxHeartbeats 4000000 in
theorem ok_build (m n : Nat) {f C : Addr} {fd : FuncData} (F : Fun K "_law_build" "_law_build" s__law_build f fd) (M : Mg mg) (c_Diagrams_there : ClM P w K mg base 2 C "there" (sp_there C K)) (c_Diagrams_conjunction : ClM P w K mg base (m + 3) C "conjunction" (sp_op2 C K m and)) (c_Diagrams_disjunction : ClM P w K mg base (m + 3) C "disjunction" (sp_op2 C K m or)) (c_Diagrams_negation : ClM P w K mg base (m + 3) C "negation" (sp_neg C K m)) (c_Diagrams_differs : ClM P w K mg base (m + 4) C "differs" (sp_op2 C K m bne))
    (c__law_build : Cl P w K mg base (m + 4 + n) "_law_build" (sp_build C K m n)) : FnOk P w K mg base CX0 (m + 4 + n + 1) f fd ["store", "tree"] (sp_build C K m (n + 1)) := by
  refine F.ok sc__law_build (fun vs H Q E h => ?_) (fun cdv A outer s H vs Q E hr h => ?_)
  · obtain ⟨s, N, es, L, v, t, rfl, _⟩ := h
    rfl
  · obtain ⟨s, N, es, L, v, t, rfl, st, hm, ok, hn, dp, z1, z2, q⟩ := h
    have o1 := opB_ge es
    have o2 : 1 ≤ 2 ^ es.length := Nat.one_le_two_pow
    refine ⟨_, (pss_cons (ps_if (pt_cmpR op_eq (pe_ix (ix_tupK K) (pv 1) pe_int (fun _ _ => rfl)) pe_str (nomark _)) (pss_one (ps_ret (pe_ix (ix_tupK K) (pv 1) pe_int (fun _ _ => rfl)))) pss_nil)
      (pss_cons (ps_if (pt_cmpR op_eq (pe_ix (ix_tupK K) (pv 1) pe_int (fun _ _ => rfl)) pe_str (nomark _)) (pss_one (ps_ret (pe_mt c_Diagrams_there hr (by first | decide | omega) (pv 0) (pa_cons (pe_ix (ix_tupK K) (pv 1) pe_int (fun _ _ => rfl)) pa_nil)))) pss_nil)
      (pss_cons (ps_set (i := 2) sc__law_build.nd rfl (.inl rfl) (pe_u c__law_build hr (by first | decide | omega) (by rfl) (pa_cons (pv 0) (pa_cons (pe_ix (ix_tupK K) (pv 1) pe_int (fun _ _ => rfl)) pa_nil))))
      (pss_cons (ps_if (pt_cmpR op_eq (pe_ix (ix_tupK K) (pv 1) pe_int (fun _ _ => rfl)) pe_str (nomark _)) (pss_one (ps_ret (pe_mt c_Diagrams_negation hr (by first | decide | omega) (pv 0) (pa_cons (pv 2) pa_nil)))) pss_nil)
      (pss_cons (ps_set (i := 3) sc__law_build.nd rfl (.inl rfl) (pe_u c__law_build hr (by first | decide | omega) (by rfl) (pa_cons (pv 0) (pa_cons (pe_ix (ix_tupK K) (pv 1) pe_int (fun _ _ => rfl)) pa_nil))))
      (pss_cons (ps_if (pt_cmpR op_eq (pe_ix (ix_tupK K) (pv 1) pe_int (fun _ _ => rfl)) pe_str (nomark _)) (pss_one (ps_ret (pe_mt c_Diagrams_conjunction hr (by first | decide | omega) (pv 0) (pa_cons (pv 2) (pa_cons (pv 3) pa_nil))))) pss_nil)
      (pss_one (ps_ret (pe_ifExp (pt_cmpR op_eq (pe_ix (ix_tupK K) (pv 1) pe_int (fun _ _ => rfl)) pe_str (nomark _)) (pe_mt c_Diagrams_disjunction hr (by first | decide | omega) (pv 0) (pa_cons (pv 2) (pa_cons (pv 3) pa_nil))) (pe_mt c_Diagrams_differs hr (by first | decide | omega) (pv 0) (pa_cons (pv 2) (pa_cons (pv 3) pa_nil)))))))))))), ?_⟩
    cases t with
    | con b =>
      obtain ⟨p, xs, rfl, hs, hx⟩ := dp_tup dp
      obtain ⟨u, rfl, hu⟩ := dp_two hx
      cases hu
      refine ⟨_, rfl, p, _, _, _, rfl, rfl, hs, atI_nat (j := 0) rfl, rfl, _, rfl, ?_⟩
      rw [weq]
      refine iteT ⟨_, rfl, p, _, _, _, rfl, rfl, hs, atI_nat (j := 1) rfl, ?_⟩
      have q := fun r T => q H [] r T (FdS.refl s H) (Nat.zero_le _) (by rw [List.append_nil]; exact st.more (Nat.le_add_right _ _))
      cases b with
      | true => exact q 1 _ .t .lf (fun _ => rfl)
      | false => exact q 0 _ .f .lf (fun _ => rfl)
    | ther e =>
      obtain ⟨p, xs, rfl, hs, hx⟩ := dp_tup dp
      obtain ⟨u, rfl, hu⟩ := dp_two hx
      cases hu
      have e1 : Tr.sz (.ther e) * opB es = opB es := Nat.one_mul _
      rw [e1] at z1 z2 q
      refine ⟨_, rfl, p, _, _, _, rfl, rfl, hs, atI_nat (j := 0) rfl, rfl, _, rfl, ?_⟩
      rw [wne "there" "constant" (by decide +kernel)]
      refine iteF ⟨_, rfl, p, _, _, _, rfl, rfl, hs, atI_nat (j := 0) rfl, rfl, _, rfl, ?_⟩
      rw [weq]
      refine iteT ⟨_, rfl, st.go (by decide +kernel) (by decide +kernel) (by decide +kernel) ⟨_, rfl, p, _, _, _, rfl, rfl, hs, atI_nat (j := 1) rfl, ?_⟩⟩
      refine ⟨s, N, es, L, e, rfl, st, by omega, fun H' M r f l st' a => q H' M r _ f (by omega) (st'.more (by omega)) a (Wf.one ok) fun ρ => ?_⟩
      show (if ρ e = true then true else false) = ρ e
      cases ρ e <;> rfl
    | nt t1 =>
      obtain ⟨p, xs, rfl, hs, hx⟩ := dp_tup dp
      obtain ⟨u, rfl, hu⟩ := dp_two hx
      have hn : t1.ht + 1 < n + 1 := hn
      have e1 : Tr.sz (.nt t1) * opB es = t1.sz * opB es + opB es := Nat.succ_mul _ _
      rw [e1] at z1 z2 q
      refine ⟨_, rfl, p, _, _, _, rfl, rfl, hs, atI_nat (j := 0) rfl, rfl, _, rfl, ?_⟩
      rw [wne "not" "constant" (by decide +kernel)]
      refine iteF ⟨_, rfl, p, _, _, _, rfl, rfl, hs, atI_nat (j := 0) rfl, rfl, _, rfl, ?_⟩
      rw [wne "not" "there" (by decide +kernel)]
      refine iteF ⟨_, rfl, _, rfl, p, _, _, _, rfl, rfl, hs, atI_nat (j := 1) rfl, ?_⟩
      refine ⟨s, N, es, L, u, t1, rfl, st, hm, ok, by omega, hu, by omega, by omega, fun H1 M1 r1 T1 f1 l1 st1 a1 w1 v1 => ?_⟩
      have hs1 := SqT.tsn (st.tup f1) hs
      refine ⟨_, rfl, p, _, _, _, rfl, rfl, hs1, atI_nat (j := 0) rfl, rfl, _, rfl, ?_⟩
      rw [weq]
      refine iteT ⟨_, rfl, st1.go (by decide +kernel) (by decide +kernel) (by decide +kernel) ⟨_, rfl, ?_⟩⟩
      refine ⟨s, N ++ M1, es, _, r1, T1, rfl, st1, hm, a1, w1, by rw [List.length_append]; omega, by omega, fun H2 M2 r2 T2 f2 l2 st2 a2 w2 v2 => ?_⟩
      rw [List.append_assoc] at st2 a2
      refine q H2 (M1 ++ M2) r2 T2 (f1.trans f2) (by rw [List.length_append]; omega) (st2.more (by omega)) a2 w2 fun ρ => ?_
      rw [v2, v1]
      rfl
    | bin o t1 t2 =>
      obtain ⟨p, xs, rfl, hs, hx⟩ := dp_tup dp
      obtain ⟨u, u2, rfl, hu, hu2⟩ := dp_three hx
      have hn : max t1.ht t2.ht + 1 < n + 1 := hn
      have e1 : Tr.sz (.bin o t1 t2) * opB es = t1.sz * opB es + t2.sz * opB es + opB es := by
        show (t1.sz + t2.sz + 1) * opB es = _
        rw [Nat.succ_mul, Nat.add_mul]
      rw [e1] at z1 z2 q
      refine ⟨_, rfl, p, _, _, _, rfl, rfl, hs, atI_nat (j := 0) rfl, rfl, _, rfl, ?_⟩
      rw [wne o.s "constant" (by cases o <;> decide +kernel)]
      refine iteF ⟨_, rfl, p, _, _, _, rfl, rfl, hs, atI_nat (j := 0) rfl, rfl, _, rfl, ?_⟩
      rw [wne o.s "there" (by cases o <;> decide +kernel)]
      refine iteF ⟨_, rfl, _, rfl, p, _, _, _, rfl, rfl, hs, atI_nat (j := 1) rfl, ?_⟩
      refine ⟨s, N, es, L, u, t1, rfl, st, hm, ok.1, by omega, hu, by omega, by omega, fun H1 M1 r1 T1 f1 l1 st1 a1 w1 v1 => ?_⟩
      have hs1 := SqT.tsn (st.tup f1) hs
      have hu21 := st.dp f1 (tr_only t2) hu2
      refine ⟨_, rfl, p, _, _, _, rfl, rfl, hs1, atI_nat (j := 0) rfl, rfl, _, rfl, ?_⟩
      rw [wne o.s "not" (by cases o <;> decide +kernel)]
      refine iteF ⟨_, rfl, _, rfl, p, _, _, _, rfl, rfl, hs1, atI_nat (j := 2) rfl, ?_⟩
      refine ⟨s, N ++ M1, es, _, u2, t2, rfl, st1, hm, ok.2, by omega, hu21, by rw [List.length_append]; omega, by omega, fun H2 M2 r2 T2 f2 l2 st2 a2 w2 v2 => ?_⟩
      have hs2 := SqT.tsn (st1.tup f2) hs1
      have fin : ∀ (g : Bool → Bool → Bool), g = o.f → sp_op2 C K m g [.ref s.p, .int ((r1 : Nat) : Int), .int ((r2 : Nat) : Int)] H2 Q E0 := fun g hg => by
        refine ⟨s, (N ++ M1) ++ M2, es, _, r1, r2, T1, T2, rfl, st2, hm, a1.mono, a2, w1, w2, by rw [List.length_append, List.length_append]; omega, by omega, fun H3 M3 r3 T3 f3 l3 st3 a3 w3 v3 => ?_⟩
        have eN : N ++ M1 ++ M2 ++ M3 = N ++ (M1 ++ M2 ++ M3) := by simp only [List.append_assoc]
        rw [eN] at st3 a3
        refine q H3 (M1 ++ M2 ++ M3) r3 T3 ((f1.trans f2).trans f3) (by rw [List.length_append, List.length_append]; omega) (st3.more (by omega)) a3 w3 fun ρ => ?_
        rw [v3, v1, v2, hg]
        rfl
      refine ⟨_, rfl, p, _, _, _, rfl, rfl, hs2, atI_nat (j := 0) rfl, rfl, _, rfl, ?_⟩
      cases o with
      | and =>
        rw [show decide (V.str (Str.ofString Bo.and.s) = V.str "and") = true from weq "and"]
        exact iteT ⟨_, rfl, st2.go (by decide +kernel) (by decide +kernel) (by decide +kernel) ⟨_, rfl, _, rfl, fin and rfl⟩⟩
      | or =>
        rw [show decide (V.str (Str.ofString Bo.or.s) = V.str "and") = false from wne "or" "and" (by decide +kernel)]
        refine iteF ⟨_, rfl, p, _, _, _, rfl, rfl, hs2, atI_nat (j := 0) rfl, rfl, _, rfl, ?_⟩
        rw [show decide (V.str (Str.ofString Bo.or.s) = V.str "or") = true from weq "or"]
        exact iteT ⟨_, rfl, st2.go (by decide +kernel) (by decide +kernel) (by decide +kernel) ⟨_, rfl, _, rfl, fin or rfl⟩⟩
      | df =>
        rw [show decide (V.str (Str.ofString Bo.df.s) = V.str "and") = false from wne "differ" "and" (by decide +kernel)]
        refine iteF ⟨_, rfl, p, _, _, _, rfl, rfl, hs2, atI_nat (j := 0) rfl, rfl, _, rfl, ?_⟩
        rw [show decide (V.str (Str.ofString Bo.df.s) = V.str "or") = false from wne "differ" "or" (by decide +kernel)]
        exact iteF ⟨_, rfl, st2.go (by decide +kernel) (by decide +kernel) (by decide +kernel) ⟨_, rfl, _, rfl, fin bne rfl⟩⟩
theorem cl_build (m : Nat) {f C : Addr} {fd : FuncData} (F : Fun K "_law_build" "_law_build" s__law_build f fd) (M : Mg mg) (g : mg "_law_build" = some (.ref f)) (b : Binds K fd ["store", "tree"] []) (c_Diagrams_there : ClM P w K mg base 2 C "there" (sp_there C K)) (c_Diagrams_conjunction : ClM P w K mg base (m + 3) C "conjunction" (sp_op2 C K m and)) (c_Diagrams_disjunction : ClM P w K mg base (m + 3) C "disjunction" (sp_op2 C K m or)) (c_Diagrams_negation : ClM P w K mg base (m + 3) C "negation" (sp_neg C K m)) (c_Diagrams_differs : ClM P w K mg base (m + 4) C "differs" (sp_op2 C K m bne)) :
    ∀ n, Cl P w K mg base (m + 4 + n) "_law_build" (sp_build C K m n)
  | 0 => FnOk.cl (P := P) (w := w) (base := base) (F.ok sc__law_build (fun vs H Q E h => by obtain ⟨s, N, es, L, v, t, rfl, _⟩ := h; rfl) (fun cdv A outer s H vs Q E hr h => by obtain ⟨s, N, es, L, v, t, rfl, st, hm, ok, hn, _⟩ := h; omega)) F g b
  | n + 1 => FnOk.cl (ok_build m n F M c_Diagrams_there c_Diagrams_conjunction c_Diagrams_disjunction c_Diagrams_negation c_Diagrams_differs (cl_build m F M g b c_Diagrams_there c_Diagrams_conjunction c_Diagrams_disjunction c_Diagrams_negation c_Diagrams_differs n)) F g b
end

/-! ### lists of numbers and of truth values as data -/
theorem dpa_map {K : PySem.W.Frag} {H : Hp} {α : Type} (f : α → V) (g : α → PyData) (h : ∀ a, Dp K H (f a) (g a)) : ∀ l : List α, DpAll K H (l.map f) (l.map g)
  | [] => .nil
  | a :: l => .cons (h a) (dpa_map f g h l)
theorem dp_ints {K : PySem.W.Frag} {H : Hp} {a : Addr} {ps : List Int} (h : SqL K H a (ps.map V.int)) : Dp K H (.ref a) (.list (ps.map PyData.int)) := .lst h (dpa_map _ _ (fun i => .int i) ps)
theorem dp_bls {K : PySem.W.Frag} {H : Hp} {a : Addr} {ps : List Bool} (h : SqL K H a (ps.map V.bl)) : Dp K H (.ref a) (.list (ps.map PyData.bool)) := .lst h (dpa_map _ _ (fun i => .bl i) ps)
theorem flat_shaped {α : Type} (g : α → PyData) (h1 : ∀ a, PyData.canLay0 (g a) = true) (h2 : ∀ a, PyData.depth (g a) = 0) (l : List α) : SeqAt.shaped (.list (l.map g)) = true := by
  have e1 : PyData.canLayAll0 (l.map g) = true := by
    induction l with
    | nil => rfl
    | cons x xs ih =>
      rw [List.map_cons]
      unfold PyData.canLayAll0
      rw [ih, h1]
      rfl
  have e2 : PyData.depthAll (l.map g) = 0 := by
    clear e1
    induction l with
    | nil => rfl
    | cons x xs ih =>
      rw [List.map_cons]
      unfold PyData.depthAll
      rw [ih, h2]
      rfl
  unfold SeqAt.shaped
  rw [Bool.and_eq_true]
  refine ⟨by unfold PyData.canLay0; exact e1, decide_eq_true ?_⟩
  unfold PyData.depth
  omega
theorem ints_shaped (l : List Int) : SeqAt.shaped (.list (l.map PyData.int)) = true := flat_shaped _ (fun _ => rfl) (fun _ => rfl) l
theorem bls_shaped (l : List Bool) : SeqAt.shaped (.list (l.map PyData.bool)) = true := flat_shaped _ (fun _ => rfl) (fun _ => rfl) l
theorem ints_eqv (l : List Int) : PyData.eqv (.list (l.map PyData.int)) (.list (l.map PyData.int)) = true := SeqAt.eqv_refl _ (SeqAt.canLay_of_shaped (ints_shaped l))
theorem Sto.fd {C : Addr} {K : PySem.W.Frag} {H H' : Hp} {s : SA} {N : Nds} {es : List Int} {L : Nat} {d : Addr} (st : Sto C K H s N es L) (hd : ∃ zs, H d = some (.lst zs)) (n : d ≠ s.k) (f : Fd d H H') : Sto C K H' s N es L := by
  obtain ⟨⟨dx, h1⟩, ⟨xs, h2, h3⟩, ⟨kvs, h4, h5⟩, ⟨cvs, h6, h7⟩, h8⟩ := st
  obtain ⟨zs, hz⟩ := hd
  exact ⟨⟨dx, f _ _ (ne_of h1 hz (fun z => nomatch z)) h1⟩, ⟨xs, f _ _ n.symm h2, DpAll.fd ⟨zs, hz⟩ f _ _ (nD_only _) h3⟩, ⟨kvs, f _ _ (ne_of h4 hz (fun z => nomatch z)) h4, h5⟩, ⟨cvs, f _ _ (ne_of h6 hz (fun z => nomatch z)) h6, h7⟩, h8⟩
theorem andV {c b : Bool} {i : Nat} {σ : L2.St} {H : Hp} {Q : VK} (hs : σ[i]? = some (some (.bl b))) (h : Q (.bl (c && b)) H) : if c = true then tVar i σ H Q else Q (.bl false) H := by
  cases c with
  | true => exact iteT ⟨_, hs, h⟩
  | false => exact iteF h
theorem orV {c b : Bool} {i : Nat} {σ : L2.St} {H : Hp} {Q : VK} (hs : σ[i]? = some (some (.bl b))) (h : Q (.bl (c || b)) H) : if c = true then Q (.bl true) H else tVar i σ H Q := by
  cases c with
  | true => exact iteT h
  | false => exact iteF ⟨_, hs, h⟩
theorem bne_dec (a b : Bool) : (!decide (V.bl a = V.bl b)) = bne a b := by cases a <;> cases b <;> rfl
/-- the store made, beside what was there -/
theorem made_same {p dx C : Addr} {H H' : Hp} (np : H p = none) (nd : H dx = none) (f : Fd p (upd (upd H dx (.own p)) p (.ins C dx [])) H') : Same H H' := fun b o e => by
  have h1 : b ≠ p := ne_of_none e np
  have h2 : b ≠ dx := ne_of_none e nd
  refine f b o h1 ?_
  rw [upd_ne h1, upd_ne h2]
  exact e
theorem made_free {p dx C k : Addr} {H : Hp} (h : (upd (upd H dx (.own p)) p (.ins C dx [])) k = none) : H k = none := by
  by_cases h1 : k = p
  · subst h1
    rw [upd_same] at h
    cases h
  by_cases h2 : k = dx
  · subst h2
    rw [upd_ne h1, upd_same] at h
    cases h
  rw [upd_ne h1, upd_ne h2] at h
  exact h
/-- what stood before the store was made stands behind all its operations -/
theorem FdS.same {s : SA} {H0 H H' : Hp} (h : Same H0 H) (nk : H0 s.k = none) (nu : H0 s.u = none) (nm : H0 s.m = none) (f : FdS s H H') : Same H0 H' := fun b o e => f b o (ne_of_none e nk) (ne_of_none e nu) (ne_of_none e nm) (h b o e)

/-! ### the nodes of diagrams in their order -/
def Bd.sz : Bd → Nat
  | .lf _ => 0
  | .nd _ w t => w.sz + t.sz + 1
def knw (acc : List Bd) : Bd → Bool
  | .lf _ => true
  | a => decide (a ∈ acc)
/-- all of one side, all of the other, then the node: what is known already is passed over -/
def post : List Bd → Bd → List Bd
  | acc, .lf _ => acc
  | acc, .nd e w t => if Bd.nd e w t ∈ acc then acc else post (post acc w) t ++ [.nd e w t]
def Clo (acc : List Bd) : Prop := ∀ e w t, Bd.nd e w t ∈ acc → knw acc w = true ∧ knw acc t = true
theorem knw_nd {acc : List Bd} {e : Int} {w t : Bd} : knw acc (.nd e w t) = true ↔ Bd.nd e w t ∈ acc := by
  unfold knw
  exact decide_eq_true_iff
theorem post_knw {acc : List Bd} {a : Bd} (h : knw acc a = true) : post acc a = acc := by
  cases a with
  | lf b => rfl
  | nd e w t => unfold post; exact if_pos (knw_nd.mp h)
theorem post_pre : ∀ (a : Bd) (acc : List Bd), acc <+: post acc a
  | .lf _, acc => List.prefix_refl acc
  | .nd e w t, acc => by
    unfold post
    split
    · exact List.prefix_refl acc
    · exact ((post_pre w acc).trans (post_pre t _)).trans (List.prefix_append _ _)
theorem knw_pre {acc bcc : List Bd} (h : acc <+: bcc) {a : Bd} (k : knw acc a = true) : knw bcc a = true := by
  cases a with
  | lf b => rfl
  | nd e w t => exact knw_nd.mpr (h.subset (knw_nd.mp k))
theorem post_self : ∀ (a : Bd) (acc : List Bd), knw (post acc a) a = true
  | .lf _, _ => rfl
  | .nd e w t, acc => by
    rw [knw_nd]
    unfold post
    split
    · assumption
    · exact List.mem_append_right _ (List.mem_singleton.mpr rfl)
theorem post_mem : ∀ (a : Bd) (acc : List Bd) (b : Bd), b ∈ post acc a → b ∈ acc ∨ b.sz ≤ a.sz
  | .lf _, acc, b, h => .inl h
  | .nd e w t, acc, b, h => by
    unfold post at h
    split at h
    · exact .inl h
    · rcases List.mem_append.mp h with h | h
      · rcases post_mem t _ b h with h | h
        · rcases post_mem w acc b h with h | h
          · exact .inl h
          · right; show _ ≤ w.sz + t.sz + 1; omega
        · right; show _ ≤ w.sz + t.sz + 1; omega
      · rw [List.mem_singleton.mp h]
        exact .inr (Nat.le_refl _)
theorem post_new {e : Int} {w t : Bd} {acc : List Bd} (h : Bd.nd e w t ∉ acc) : Bd.nd e w t ∉ post (post acc w) t := by
  intro z
  rcases post_mem t _ _ z with z | z
  · rcases post_mem w _ _ z with z | z
    · exact h z
    · have : w.sz + t.sz + 1 ≤ w.sz := z
      omega
  · have : w.sz + t.sz + 1 ≤ t.sz := z
    omega
theorem post_nd {e : Int} {w t : Bd} {acc : List Bd} (h : Bd.nd e w t ∉ acc) : post acc (.nd e w t) = post (post acc w) t ++ [.nd e w t] := by
  rw [post]
  exact if_neg h
/-- once more behind its sides -/
theorem post_again {e : Int} {w t : Bd} {acc : List Bd} (h : Bd.nd e w t ∉ acc) : post (post (post acc w) t) (.nd e w t) = post acc (.nd e w t) := by
  have k1 : knw (post (post acc w) t) w = true := knw_pre (post_pre t _) (post_self w acc)
  have k2 : knw (post (post acc w) t) t = true := post_self t _
  rw [post_nd (post_new h), post_nd h, post_knw k1, post_knw k2]
theorem post_clo : ∀ (a : Bd) (acc : List Bd), Clo acc → Clo (post acc a)
  | .lf _, _, h => h
  | .nd e w t, acc, h => by
    unfold post
    split
    · exact h
    · have h2 := post_clo t _ (post_clo w acc h)
      have k1 : knw (post (post acc w) t) w = true := knw_pre (post_pre t _) (post_self w acc)
      have k2 : knw (post (post acc w) t) t = true := post_self t _
      intro e' w' t' hm
      rcases List.mem_append.mp hm with hm | hm
      · obtain ⟨g1, g2⟩ := h2 _ _ _ hm
        exact ⟨knw_pre (List.prefix_append _ _) g1, knw_pre (List.prefix_append _ _) g2⟩
      · rw [List.mem_singleton] at hm
        cases hm
        exact ⟨knw_pre (List.prefix_append _ _) k1, knw_pre (List.prefix_append _ _) k2⟩
theorem post_nodup : ∀ (a : Bd) (acc : List Bd), acc.Nodup → (post acc a).Nodup
  | .lf _, _, h => h
  | .nd e w t, acc, h => by
    unfold post
    split
    · exact h
    · rename_i hn
      rw [List.nodup_append]
      refine ⟨post_nodup t _ (post_nodup w acc h), List.nodup_cons.mpr ⟨List.not_mem_nil, List.nodup_nil⟩, fun x hx y hy z => ?_⟩
      rw [List.mem_singleton] at hy
      subst z hy
      exact post_new hn hx
/-- how many turns of the loop -/
def itn : List Bd → Bd → Nat
  | _, .lf _ => 1
  | acc, .nd e w t => if Bd.nd e w t ∈ acc then 1 else if (knw acc w && knw acc t) = true then 2 else 3 + (if knw acc w = true then 0 else itn acc w) + (if knw acc t = true then 0 else itn (post acc w) t)
def itns : List Bd → List Bd → Nat
  | _, [] => 0
  | acc, a :: as => itn acc a + itns (post acc a) as
theorem itn_knw {acc : List Bd} {a : Bd} (h : knw acc a = true) : itn acc a = 1 := by
  cases a with
  | lf b => rfl
  | nd e w t => unfold itn; exact if_pos (knw_nd.mp h)
/-- what is put on the pile -/
def wts (acc : List Bd) (w t : Bd) : List Bd := (if knw acc w = true then [] else [w]) ++ (if knw acc t = true then [] else [t])
theorem wts_nil {acc : List Bd} {w t : Bd} : wts acc w t = [] ↔ knw acc w = true ∧ knw acc t = true := by
  unfold wts
  cases knw acc w <;> cases knw acc t <;> simp
theorem foldl_wts {acc : List Bd} {w t : Bd} : (wts acc w t).foldl post acc = post (post acc w) t := by
  unfold wts
  by_cases h1 : knw acc w = true
  · rw [if_pos h1, post_knw h1]
    by_cases h2 : knw acc t = true
    · rw [if_pos h2, post_knw h2]
      rfl
    · rw [if_neg h2]
      rfl
  · rw [if_neg h1]
    by_cases h2 : knw acc t = true
    · rw [if_pos h2, post_knw (knw_pre (post_pre w acc) h2)]
      rfl
    · rw [if_neg h2]
      rfl
theorem itns_app : ∀ (as bs : List Bd) (acc : List Bd), itns acc (as ++ bs) = itns acc as + itns (as.foldl post acc) bs
  | [], bs, acc => by rw [List.nil_append]; show _ = 0 + _; rw [Nat.zero_add]; rfl
  | a :: as, bs, acc => by
    rw [List.cons_append]
    show itn acc a + itns (post acc a) (as ++ bs) = itn acc a + itns (post acc a) as + _
    rw [itns_app as bs, List.foldl_cons, Nat.add_assoc]
theorem itns_push {acc : List Bd} {e : Int} {w t : Bd} {as : List Bd} (h : Bd.nd e w t ∉ acc) (hw : wts acc w t ≠ []) : itns acc (wts acc w t ++ .nd e w t :: as) + 1 = itns acc (.nd e w t :: as) ∧ (wts acc w t ++ .nd e w t :: as).foldl post acc = (Bd.nd e w t :: as).foldl post acc := by
  have hk : ¬ (knw acc w && knw acc t) = true := fun z => hw (wts_nil.mpr (by rw [Bool.and_eq_true] at z; exact z))
  constructor
  · rw [itns_app, foldl_wts]
    have k1 : knw (post (post acc w) t) w = true := knw_pre (post_pre t _) (post_self w acc)
    have k2 : knw (post (post acc w) t) t = true := post_self t _
    have e1 : itn (post (post acc w) t) (.nd e w t) = 2 := by
      unfold itn
      rw [if_neg (post_new h), k1, k2]
      rfl
    have e2 : itn acc (.nd e w t) = 3 + (if knw acc w = true then 0 else itn acc w) + (if knw acc t = true then 0 else itn (post acc w) t) := by
      rw [itn]
      rw [if_neg h, if_neg hk]
    show itns acc (wts acc w t) + (itn _ _ + itns _ as) + 1 = itn acc _ + itns _ as
    rw [e1, e2, post_again h]
    have e3 : itns acc (wts acc w t) = (if knw acc w = true then 0 else itn acc w) + (if knw acc t = true then 0 else itn (post acc w) t) := by
      unfold wts
      by_cases h1 : knw acc w = true
      · rw [if_pos h1, if_pos h1]
        by_cases h2 : knw acc t = true
        · rw [if_pos h2, if_pos h2]; rfl
        · rw [if_neg h2, if_neg h2, List.nil_append, post_knw h1]
          show itn acc t + 0 = 0 + itn acc t
          omega
      · rw [if_neg h1, if_neg h1]
        by_cases h2 : knw acc t = true
        · rw [if_pos h2, if_pos h2, List.append_nil]
          rfl
        · rw [if_neg h2, if_neg h2]
          show itn acc w + (itn (post acc w) t + 0) = _
          omega
    omega
  · rw [List.foldl_append, foldl_wts, List.foldl_cons, List.foldl_cons, post_again h]
/-- both sides known: it gets its number -/
theorem itns_num {acc : List Bd} {e : Int} {w t : Bd} {as : List Bd} (h : Bd.nd e w t ∉ acc) (k1 : knw acc w = true) (k2 : knw acc t = true) : itns (acc ++ [.nd e w t]) (.nd e w t :: as) + 1 = itns acc (.nd e w t :: as) ∧ (Bd.nd e w t :: as).foldl post (acc ++ [.nd e w t]) = (Bd.nd e w t :: as).foldl post acc := by
  have e0 : post acc (.nd e w t) = acc ++ [.nd e w t] := by rw [post_nd h, post_knw k1, post_knw k2]
  have hm : Bd.nd e w t ∈ acc ++ [.nd e w t] := List.mem_append_right _ (List.mem_singleton.mpr rfl)
  have e1 : post (acc ++ [.nd e w t]) (.nd e w t) = acc ++ [.nd e w t] := post_knw (knw_nd.mpr hm)
  constructor
  · show itn _ _ + itns _ as + 1 = itn _ _ + itns _ as
    rw [e0, e1, itn_knw (knw_nd.mpr hm)]
    have : itn acc (.nd e w t) = 2 := by
      unfold itn
      rw [if_neg h, k1, k2]
      rfl
    omega
  · rw [List.foldl_cons, List.foldl_cons, e0, e1]
/-- the numbers by which nodes tell conditions -/
def nmb (acc : List Bd) : Bd → Nat
  | .lf b => if b = true then 1 else 0
  | a => acc.idxOf a + 2
theorem nmb_pre {acc bcc : List Bd} (h : acc <+: bcc) {a : Bd} (k : knw acc a = true) : nmb bcc a = nmb acc a := by
  cases a with
  | lf b => rfl
  | nd e w t =>
    obtain ⟨r, rfl⟩ := h
    show (acc ++ r).idxOf _ + 2 = acc.idxOf _ + 2
    rw [List.idxOf_append, if_pos (knw_nd.mp k)]

/-! ### the table of a condition -/
def Rel2 (N : Nds) : List Nat → List Bd → Prop
  | [], [] => True
  | c :: cs, a :: as => At N c a ∧ Rel2 N cs as
  | _, _ => False
theorem Rel2.len {N : Nds} : ∀ {cs : List Nat} {as : List Bd}, Rel2 N cs as → cs.length = as.length
  | [], [], _ => rfl
  | [], _ :: _, h => h.elim
  | _ :: _, [], h => h.elim
  | _ :: cs, _ :: as, h => congrArg (· + 1) (Rel2.len h.2)
theorem Rel2.app {N : Nds} : ∀ {cs : List Nat} {as : List Bd} {ds : List Nat} {bs : List Bd}, Rel2 N cs as → Rel2 N ds bs → Rel2 N (cs ++ ds) (as ++ bs)
  | [], [], _, _, _, h => h
  | [], _ :: _, _, _, h, _ => h.elim
  | _ :: _, [], _, _, h, _ => h.elim
  | _ :: cs, _ :: as, _, _, h, g => ⟨h.1, Rel2.app h.2 g⟩
def nbl : Nat → List Nat → List (Key × V)
  | _, [] => []
  | n, c :: cs => (.inl (c : Int), .int (n : Int)) :: nbl (n + 1) cs
/-- the numbers that are told so far -/
def nbs (cs : List Nat) : List (Key × V) := (.inl 0, .int 0) :: (.inl 1, .int 1) :: nbl 2 cs
theorem nbl_len : ∀ (cs : List Nat) (n : Nat), (nbl n cs).length = cs.length
  | [], _ => rfl
  | _ :: cs, n => congrArg (· + 1) (nbl_len cs (n + 1))
theorem nbs_len (cs : List Nat) : (nbs cs).length = cs.length + 2 := by
  unfold nbs
  rw [List.length_cons, List.length_cons, nbl_len]
theorem nbl_snoc : ∀ (cs : List Nat) (n c : Nat), nbl n (cs ++ [c]) = nbl n cs ++ [(.inl (c : Int), .int ((n + cs.length : Nat) : Int))]
  | [], n, c => rfl
  | d :: cs, n, c => by
    show _ :: nbl (n + 1) (cs ++ [c]) = _ :: (nbl (n + 1) cs ++ _)
    rw [nbl_snoc cs (n + 1) c, List.length_cons, show n + 1 + cs.length = n + (cs.length + 1) by omega]
theorem nbs_snoc (cs : List Nat) (c : Nat) : nbs (cs ++ [c]) = nbs cs ++ [(.inl (c : Int), .int ((cs.length + 2 : Nat) : Int))] := by
  unfold nbs
  rw [nbl_snoc, Nat.add_comm 2]
  rfl
theorem key_ne {c d : Nat} (h : c ≠ d) : ¬ (Sum.inl (c : Int) : Key) = Sum.inl (d : Int) := fun z => h (by
  injection z with z
  omega)
theorem nbl_val {N : Nds} (hN : N.Nodup) {c : Nat} {a : Bd} (hA : At N c a) : ∀ {cs : List Nat} {as : List Bd} {n : Nat}, Rel2 N cs as → valV (nbl n cs) (.inl (c : Int)) = if a ∈ as then some (.int ((as.idxOf a + n : Nat) : Int)) else none
  | [], [], n, _ => by
    rw [if_neg List.not_mem_nil]
    rfl
  | [], _ :: _, _, h => h.elim
  | _ :: _, [], _, h => h.elim
  | d :: cs, b :: as, n, h => by
    by_cases e : d = c
    · subst e
      have eb := h.1.fn hA
      subst eb
      rw [if_pos List.mem_cons_self, List.idxOf_cons_self, Nat.zero_add]
      exact valV_pos rfl
    · have eb : b ≠ a := fun z => e (by subst z; exact h.1.inj hN hA)
      show valV ((.inl (d : Int), .int (n : Int)) :: nbl (n + 1) cs) _ = _
      rw [valV_neg (key_ne e), nbl_val hN hA h.2]
      by_cases ha : a ∈ as
      · rw [if_pos ha, if_pos (List.mem_cons_of_mem _ ha), show (b :: as).idxOf a = as.idxOf a + 1 by rw [List.idxOf_cons, beq_false_of_ne eb]; rfl]
        exact congrArg (fun z => some (V.int z)) (by omega)
      · rw [if_neg ha, if_neg (fun z => by
          rcases List.mem_cons.mp z with z | z
          · exact eb z.symm
          · exact ha z)]
theorem nbs_val {N : Nds} (hN : N.Nodup) {c : Nat} {a : Bd} (hA : At N c a) {cs : List Nat} {as : List Bd} (h : Rel2 N cs as) : valV (nbs cs) (.inl (c : Int)) = if knw as a = true then some (.int ((nmb as a : Nat) : Int)) else none := by
  unfold nbs
  cases hA with
  | f => exact valV_pos (p := ((.inl 0 : Key), V.int 0)) rfl
  | t => exact (valV_neg (p := ((.inl 0 : Key), V.int 0)) (by intro z; cases z)).trans (valV_pos (p := ((.inl 1 : Key), V.int 1)) rfl)
  | @nd k e w t A B hk ha hb =>
    have e1 : ¬ (Sum.inl 0 : Key) = Sum.inl ((k + 2 : Nat) : Int) := fun z => by
      injection z with z
      omega
    have e2 : ¬ (Sum.inl 1 : Key) = Sum.inl ((k + 2 : Nat) : Int) := fun z => by
      injection z with z
      omega
    rw [valV_neg (p := ((.inl 0 : Key), V.int 0)) e1, valV_neg (p := ((.inl 1 : Key), V.int 1)) e2, nbl_val hN (.nd hk ha hb) h]
    by_cases hm : Bd.nd e A B ∈ as
    · rw [if_pos hm, if_pos (knw_nd.mpr hm)]
      rfl
    · rw [if_neg hm, if_neg (fun z => hm (knw_nd.mp z))]
def rowD (acc : List Bd) : Bd → PyData
  | .nd e w t => .tuple [.int e, .int ((nmb acc w : Nat) : Int), .int ((nmb acc t : Nat) : Int)]
  | .lf _ => .none
theorem row_pre {acc bcc : List Bd} (hc : Clo acc) (h : acc <+: bcc) {a : Bd} (ha : a ∈ acc) : rowD bcc a = rowD acc a := by
  cases a with
  | lf b => rfl
  | nd e w t =>
    obtain ⟨k1, k2⟩ := hc _ _ _ ha
    show PyData.tuple _ = PyData.tuple _
    rw [nmb_pre h k1, nmb_pre h k2]
theorem rows_snoc {acc : List Bd} (hc : Clo acc) (a : Bd) : (acc ++ [a]).map (rowD (acc ++ [a])) = acc.map (rowD acc) ++ [rowD (acc ++ [a]) a] := by
  rw [List.map_append]
  refine congrArg (· ++ _) ?_
  exact List.map_congr_left fun b hb => row_pre hc (List.prefix_append _ _) hb
theorem rows_only (acc bcc : List Bd) : tupOnlys (bcc.map (rowD acc)) = true := by
  induction bcc with
  | nil => rfl
  | cons a bcc ih =>
    rw [List.map_cons]
    unfold tupOnlys
    rw [ih]
    cases a <;> rfl
theorem foldl_pre : ∀ (as acc : List Bd), acc <+: as.foldl post acc
  | [], acc => List.prefix_refl acc
  | a :: as, acc => (post_pre a acc).trans (foldl_pre as _)
theorem itns_len : ∀ (as acc : List Bd), as.length ≤ itns acc as
  | [], _ => Nat.le_refl _
  | a :: as, acc => by
    have h1 := itns_len as (post acc a)
    have h2 : 1 ≤ itn acc a := by
      cases a with
      | lf b => exact Nat.le_refl _
      | nd e w t =>
        unfold itn
        split
        · exact Nat.le_refl _
        · split <;> omega
    show as.length + 1 ≤ itn acc a + itns _ as
    omega
theorem itn_le : ∀ (a : Bd) (acc : List Bd), itn acc a ≤ 4 * a.sz + 1
  | .lf _, _ => Nat.le_refl _
  | .nd e w t, acc => by
    have h1 := itn_le w acc
    have h2 := itn_le t (post acc w)
    unfold itn
    show _ ≤ 4 * (w.sz + t.sz + 1) + 1
    split
    · omega
    · split
      · omega
      · split <;> split <;> omega
theorem itns_le : ∀ (as acc : List Bd) (b : Nat), (∀ a ∈ as, a.sz ≤ b) → itns acc as ≤ as.length * (4 * b + 1)
  | [], _, _, _ => Nat.zero_le _
  | a :: as, acc, b, h => by
    have h1 := itn_le a acc
    have h2 := itns_le as (post acc a) b fun x hx => h x (List.mem_cons_of_mem _ hx)
    have h3 := h a List.mem_cons_self
    show itn acc a + itns _ as ≤ (as.length + 1) * _
    rw [Nat.succ_mul]
    omega
theorem post_len : ∀ (a : Bd) (acc : List Bd), (post acc a).length ≤ acc.length + a.sz
  | .lf _, _ => Nat.le_refl _
  | .nd e w t, acc => by
    have h1 := post_len w acc
    have h2 := post_len t (post acc w)
    unfold post
    show _ ≤ acc.length + (w.sz + t.sz + 1)
    split
    · omega
    · rw [List.length_append]
      show _ + 1 ≤ _
      omega
theorem posts_len : ∀ (as acc : List Bd) (b : Nat), (∀ a ∈ as, a.sz ≤ b) → (as.foldl post acc).length ≤ acc.length + as.length * b
  | [], acc, _, _ => by simp
  | a :: as, acc, b, h => by
    have h1 := post_len a acc
    have h2 := posts_len as (post acc a) b fun x hx => h x (List.mem_cons_of_mem _ hx)
    have h3 := h a List.mem_cons_self
    rw [List.foldl_cons, List.length_cons, Nat.succ_mul]
    omega
theorem wf_sz {es : List Int} {a : Bd} (h : Wf es a) : a.sz + 1 ≤ 2 ^ es.length := by
  induction h with
  | lf => exact Nat.one_le_two_pow
  | @here x es w t _ _ _ iw it =>
    show w.sz + t.sz + 1 + 1 ≤ 2 ^ (es.length + 1)
    rw [Nat.pow_succ]
    omega
  | @skip x es a _ ih =>
    show _ ≤ 2 ^ (es.length + 1)
    rw [Nat.pow_succ]
    omega
def natsV (cs : List Nat) : List V := cs.map fun c => .int ((c : Nat) : Int)
theorem post_nds : ∀ (a : Bd) (acc : List Bd), (∀ b ∈ acc, ∃ e w t, b = Bd.nd e w t) → ∀ b ∈ post acc a, ∃ e w t, b = Bd.nd e w t
  | .lf _, _, h => h
  | .nd e w t, acc, h => by
    unfold post
    split
    · exact h
    · intro b hb
      rcases List.mem_append.mp hb with hb | hb
      · exact post_nds t _ (post_nds w acc h) b hb
      · rw [List.mem_singleton.mp hb]
        exact ⟨_, _, _, rfl⟩
theorem Rel2.get {N : Nds} : ∀ {cs : List Nat} {as : List Bd} {i : Nat} {c : Nat} {a : Bd}, Rel2 N cs as → cs[i]? = some c → as[i]? = some a → At N c a
  | [], _, _, _, _, _, h, _ => by simp at h
  | _ :: _, [], _, _, _, h, _, _ => h.elim
  | c :: cs, a :: as, 0, c', a', h, h1, h2 => by
    have e1 : c = c' := Option.some.inj h1
    have e2 : a = a' := Option.some.inj h2
    subst e1 e2
    exact h.1
  | c :: cs, a :: as, i + 1, c', a', h, h1, h2 => Rel2.get h.2 (by simpa using h1) (by simpa using h2)
/-- what listed leaves: the nodes and the numbers -/
def sp_listed (C : Addr) (K : PySem.W.Frag) : Sp := fun vs H Q _ => ∃ s N es L a cs as, vs = [.ref s.p, .ref a] ∧ Sto C K H s N es L ∧ SqL K H a (natsV cs) ∧ Rel2 N cs as ∧ cs.length ≤ 100 ∧ (∀ b ∈ as, b.sz ≤ 1000) ∧
  ∀ H' q nl nu xs ks, Same H H' → H' q = some (.tup [.ref nl, .ref nu]) → H nl = none → H' nl = some (.lst xs) → H' nu = some (.dK (nbs ks)) → Rel2 N ks (as.reverse.foldl post []) → DpAll K H' xs ((as.reverse.foldl post []).map (rowD (as.reverse.foldl post []))) → Q (.ref q) H'
def sp_table (C : Addr) (K : PySem.W.Frag) : Sp := fun vs H Q _ => ∃ s N es L c a, vs = [.ref s.p, .int ((c : Nat) : Int)] ∧ Sto C K H s N es L ∧ At N c a ∧ a.sz ≤ 1000 ∧
  ∀ H' q nl xs, Same H H' → H' q = some (.tup [.ref nl, .int ((nmb (post [] a) a : Nat) : Int)]) → H nl = none → H' nl = some (.lst xs) → DpAll K H' xs ((post [] a).map (rowD (post [] a))) → Q (.ref q) H'
section
variable {P : Program} {w : World} {K : PySem.W.Frag} {mg : Str → Option Value} {base : Heap}
theorem Rel2.rev {N : Nds} : ∀ {cs : List Nat} {as : List Bd}, Rel2 N cs as → Rel2 N cs.reverse as.reverse
  | [], [], h => h
  | [], _ :: _, h => h.elim
  | _ :: _, [], h => h.elim
  | c :: cs, a :: as, h => by
    rw [List.reverse_cons, List.reverse_cons]
    exact Rel2.app (Rel2.rev h.2) ⟨h.1, trivial⟩
/-- the state of listed's loop: a pile, top first; the numbers and nodes so far -/
def LiW (K : PySem.W.Frag) (H : Hp) (N : Nds) (s : SA) (a nl nu lf : Addr) (fin : List Bd) (m : Nat) (σ : L2.St) (Hi : Hp) : Prop :=
  ∃ ks acc sc sT xs z5 z6 z7 z8 z9 z10, m = itns acc sT ∧ itns acc sT ≤ 500000 ∧ σ = [some (.ref s.p), some (.ref a), some (.ref nl), some (.ref nu), some (.ref lf), z5, z6, z7, z8, z9, z10] ∧ Same H Hi ∧ Hi nl = some (.lst xs) ∧ DpAll K Hi xs (acc.map (rowD acc)) ∧ Hi nu = some (.dK (nbs ks)) ∧
    Hi lf = some (.lst (natsV sc.reverse)) ∧ Rel2 N ks acc ∧ Rel2 N sc sT ∧ Clo acc ∧ sT.foldl post acc = fin
theorem natsV_app (as bs : List Nat) : natsV (as ++ bs) = natsV as ++ natsV bs := by unfold natsV; rw [List.map_append]
theorem mk_nbs : mergeK ([] : List (Key × V)) [(.inl 0, .int 0), (.inl 1, .int 1)] = nbs [] := by rfl
set_option maxHeartbeats 4000000 in
theorem ok_listed {f C : Addr} {fd : FuncData} (F : Fun K "listed" "Diagrams.listed" s_Diagrams_listed f fd) (M : Mg mg) (G : DgC K C mg) (c_Diagrams_node_of : ClM P w K mg base 1 C "node_of" (sp_nof C K)) : FnOk P w K mg base CX0 2 f fd ["self", "conditions"] (sp_listed C K) := by
  refine F.ok sc_Diagrams_listed (fun vs H Q E h => ?_) (fun cdv A outer s H vs Q E hr h => ?_)
  · obtain ⟨s, N, es, L, a, cs, as, rfl, _⟩ := h
    rfl
  · obtain ⟨s, N, es, L, a, cs, as, rfl, st, ha, rel, hl, hsz, q⟩ := h
    have hnd := st.nd
    generalize hfin : as.reverse.foldl post [] = fin at q
    have lfin : fin.length ≤ 100000 := by
      have h1 := posts_len as.reverse [] 1000 fun b hb => hsz b (List.mem_reverse.mp hb)
      rw [hfin, List.length_reverse, ← rel.len] at h1
      have h2 : ([] : List Bd).length = 0 := rfl
      have h3 := Nat.mul_le_mul_right 1000 hl
      omega
    have sl : (1000000 : Nat) < sizeLine := by decide
    refine ⟨_, (pss_cons (ps_set (i := 2) sc_Diagrams_listed.nd rfl (.inl rfl) (pe_lst pa_nil))
      (pss_cons (ps_set (i := 3) sc_Diagrams_listed.nd rfl (.inr rfl) (pe_disp (pps_cons (C8.pe_gc (by rfl) G.NEVER) pe_int (pps_cons (C8.pe_gc (by rfl) G.ALWAYS) pe_int pps_nil)) (by rfl) (by rfl) (fun z => by cases z) (by decide)))
      (pss_cons (ps_set (i := 4) sc_Diagrams_listed.nd rfl (.inl rfl) (pe_callTy (listK K) (by rfl) M.list (by decide +kernel) (pa_cons (pv 1) pa_nil)))
      (pss_cons (ps_while PassesOwn.never (pt_truthK K (pv 4) (by intro _; rfl)) (pss_cons (ps_set (i := 5) sc_Diagrams_listed.nd rfl (.inl rfl) (pe_ix (ix_listK K) (pv 4) (pe_un un_neg pe_int) (fun _ _ => rfl)))
      (pss_cons (ps_if (pt_cmp (pc_din (hu_of hr) (pv 5) (pv 3))) (pss_cons (ps_expr (pe_bm0 PySem.F.plainAttrs_list PySem.F.slot_list_pop PySem.F.type_list_pop mt_pop (pv 4)))
      (pss_one ps_continue)) pss_nil)
      (pss_cons (ps_asg (pe_mt c_Diagrams_node_of hr (by first | decide | omega) (pv 0) (pa_cons (pv 5) pa_nil)) (pg_tup (by rfl) (pgs_cons (pg_name (i := 6) sc_Diagrams_listed.nd rfl (.inl rfl)) (pgs_cons (pg_name (i := 7) sc_Diagrams_listed.nd rfl (.inl rfl)) (pgs_cons (pg_name (i := 8) sc_Diagrams_listed.nd rfl (.inl rfl)) pgs_nil)))))
      (pss_cons (ps_setLc (i := 9) (own := [("part", 10)]) (g := gName 10) rfl sc_Diagrams_listed.nd rfl rfl (sw_true rfl rfl rfl (by decide +kernel)) (pi_tup (pe_tup (pa_cons (pv 8) (pa_cons (pv 7) pa_nil)))) (blkOk_by (N := N_Diagrams_listed) (sc := defScope s_Diagrams_listed) (by decide +kernel)) (fun _ _ _ _ _ => (pg_name (i := 10) sc_Diagrams_listed.nd rfl (.inl rfl))) (fun _ _ _ _ _ => (pts_one (pt_cmp (pc_dnotin (hu_of hr) (pv 10) (pv 3))))) (fun _ _ _ _ _ => (pv 10)))
      (pss_cons (ps_expr (pe_bmK K PySem.F.plainAttrs_list PySem.F.slot_list_extend PySem.F.type_list_extend mt_extend (pv 4) (pa_cons (pv 9) pa_nil)))
      (pss_one (ps_if (pt_not (pt_truthK K (pv 9) (by intro _; rfl))) (pss_cons (ps_dput (hu_of hr) (pv 3) (pv 5) (pe_callB call_lenD (by rfl) M.len PySem.boot_len (pa_cons (pv 3) pa_nil)) rfl)
      (pss_one (ps_expr (pe_bmK K PySem.F.plainAttrs_list PySem.F.slot_list_append PySem.F.type_list_append mt_append (pv 2) (pa_cons (pe_tup (pa_cons (pv 6) (pa_cons (pe_dget (hu_of hr) (pv 3) (pv 7) (fun _ _ => rfl)) (pa_cons (pe_dget (hu_of hr) (pv 3) (pv 8) (fun _ _ => rfl)) pa_nil)))) pa_nil))))) pss_nil))))))))
      (pss_one (ps_ret (pe_tup (pa_cons (pv 2) (pa_cons (pv 3) pa_nil))))))))), ?_⟩
    refine ⟨by show 0 ≤ sizeLine; decide, fun nl nnl => ?_⟩
    have s1 := same_upd nnl (o := .lst [])
    have e1 : (upd H nl (.lst [])) nl = some (.lst []) := upd_same
    generalize upd H nl (.lst []) = H1 at s1 e1
    intro nu nnu
    refine ⟨upd_same, [(.inl 0, .int 0), (.inl 1, .int 1)], rfl, by decide, ?_⟩
    rw [mk_nbs, upd_upd]
    have s2 := same_upd nnu (o := .dK (nbs []))
    have e2 : (upd H1 nu (.dK (nbs []))) nu = some (.dK (nbs [])) := upd_same
    generalize upd H1 nu (.dK (nbs [])) = H2 at s2 e2
    refine ⟨_, rfl, a, _, rfl, .inl ((s1.trans s2).seq ha), fun lf nlf => ?_⟩
    have s3 := same_upd nlf (o := .lst (natsV cs))
    have e3 : (upd H2 lf (.lst (natsV cs))) lf = some (.lst (natsV cs)) := upd_same
    have nlfl : lf ≠ nl := (ne_of_none (s2 _ _ e1) nlf).symm
    generalize upd H2 lf (.lst (natsV cs)) = H3 at s3 e3
    have nnu0 := s1.free nnu
    have nlf0 := (s1.trans s2).free nlf
    have fresh : ∀ {Hi : Hp} {p : Addr} {o : HO}, Same H Hi → H p = none → Same H (upd Hi p o) := fun sm np b o e => by
      rw [upd_ne (ne_of_none e np)]
      exact sm b o e
    refine ⟨LiW K H N s a nl nu lf fin, ⟨_, [], [], cs.reverse, as.reverse, [], none, none, none, none, none, none, rfl, ?_, rfl, (s1.trans s2).trans s3, (s2.trans s3) _ _ e1, .nil, s3 _ _ e2, by rw [List.reverse_reverse]; exact e3, trivial, rel.rev, (by intro _ _ _ h; cases h), hfin⟩, ?_⟩
    · have h1 := itns_le as.reverse [] 1000 fun b hb => hsz b (List.mem_reverse.mp hb)
      rw [List.length_reverse, ← rel.len] at h1
      have h3 := Nat.mul_le_mul_right (4 * 1000 + 1) hl
      omega
    rintro m σ Hi ⟨ks, acc, sc, sT, xs, z5, z6, z7, z8, z9, z10, rfl, hm, rfl, si, enl, dxs, enu, elf, rk, rs, hclo, hf⟩
    have nnlu : nl ≠ nu := ne_of enl enu (fun z => nomatch z)
    have nlfu : lf ≠ nu := ne_of elf enu (fun z => nomatch z)
    have lacc : acc.length ≤ 100000 := by
      have := (foldl_pre sT acc).length_le
      rw [hf] at this
      omega
    have lks : ks.length ≤ 100000 := by rw [rk.len]; exact lacc
    have lxs : xs.length = acc.length := by rw [DpAll.len dxs, List.length_map]
    refine ⟨_, rfl, _, .inl ⟨_, .of elf, rfl⟩, ?_⟩
    cases sc with
    | nil =>
      cases sT with
      | cons b sT => exact rs.elim
      | nil =>
        refine iteF ?_
        have hf : acc = fin := hf
        refine ⟨_, rfl, _, rfl, by show 2 ≤ sizeLine; decide, fun q' nq' => ?_⟩
        subst hf
        exact q _ q' nl nu xs ks (si.trans (same_upd nq')) upd_same nnl (same_upd nq' _ _ enl) (same_upd nq' _ _ enu) rk (DpAll.ext (same_upd nq') _ _ dxs)
    | cons c sc =>
      cases sT with
      | nil => exact rs.elim
      | cons b sT =>
        rw [List.reverse_cons, natsV_app] at elf ⊢
        have hne : (natsV sc.reverse ++ natsV [c]).isEmpty = false := by
          cases natsV sc.reverse <;> rfl
        rw [hne]
        refine iteT ⟨fun σ' H' => ∃ m', m' < itns acc (b :: sT) ∧ LiW K H N s a nl nu lf fin m' σ' H', fun _ _ h => h, ?_⟩
        have hb := rs.1
        have sti := st.ext si
        refine ⟨_, rfl, _, rfl, lf, _, _, .int ((c : Nat) : Int), rfl, rfl, .of elf, atI_last _ _, ?_⟩
        refine ⟨_, rfl, _, rfl, nu, _, rfl, DGet.k (k := .inl (c : Int)) enu, _, rfl, ?_⟩
        rw [nbs_val hnd hb rk]
        by_cases hk : knw acc b = true
        · -- known: it goes off the pile
          rw [if_pos hk]
          refine iteT ⟨_, rfl, .inl ⟨rfl, _, .inl (.inl elf)⟩, lf, _, .int ((c : Nat) : Int), rfl, rfl, elf, ?_, ?_⟩
          · rw [List.length_append]
            show (natsV sc.reverse ++ [V.int ((c : Nat) : Int)])[(natsV sc.reverse).length + 1 - 1]? = _
            rw [Nat.add_sub_cancel, List.getElem?_append_right (Nat.le_refl _), Nat.sub_self]
            rfl
          · have ed : (natsV sc.reverse ++ natsV [c]).dropLast = natsV sc.reverse := by
              show (natsV sc.reverse ++ [V.int ((c : Nat) : Int)]).dropLast = _
              rw [List.dropLast_concat]
            rw [ed]
            have ei := itn_knw hk
            have ep := post_knw hk
            refine ⟨itns acc sT, ?_, ks, acc, sc, sT, xs, _, _, _, _, _, _, rfl, ?_, rfl, fresh si nlf0, by rw [upd_ne nlfl.symm]; exact enl, DpAll.away elf _ _ (rows_only acc acc) dxs, by rw [upd_ne nlfu.symm]; exact enu, upd_same, rk, rs.2, hclo, ?_⟩
            · show _ < itn acc b + itns (post acc b) sT
              rw [ei, ep]
              omega
            · have : itns acc (b :: sT) = itn acc b + itns (post acc b) sT := rfl
              rw [this, ep] at hm
              omega
            · rw [List.foldl_cons, ep] at hf
              exact hf
        · rw [if_neg hk]
          refine iteF ?_
          have h2 : 2 ≤ c := by
            cases hb with
            | f => exact absurd rfl hk
            | t => exact absurd rfl hk
            | nd _ _ _ => omega
          obtain ⟨e1, w1, t1, A1, B1, hn, hw1, ht1, rfl⟩ := hb.ge h2
          have hnm : Bd.nd e1 A1 B1 ∉ acc := fun z => hk (knw_nd.mpr z)
          refine ⟨_, rfl, sti.go (by decide +kernel) (by decide +kernel) (by decide +kernel) ⟨_, rfl, ?_⟩⟩
          refine ⟨s, N, es, L, c, _, rfl, sti, h2, hn, fun qa hq => ?_⟩
          refine ⟨qa, _, rfl, hq, rfl, _, _, rfl, _, _, rfl, _, _, rfl, rfl, ?_⟩
          -- those that wait
          refine ⟨_, rfl, _, rfl, by show 2 ≤ sizeLine; decide, fun tp ntp => ?_⟩
          have s4 := same_upd ntp (o := .tup [.int ((t1 : Nat) : Int), .int ((w1 : Nat) : Int)])
          have e4 : (upd Hi tp (.tup [.int ((t1 : Nat) : Int), .int ((w1 : Nat) : Int)])) tp = some (.tup (([(t1, B1), (w1, A1)] : List (Nat × Bd)).map fun p => .int ((p.1 : Nat) : Int))) := upd_same
          generalize upd Hi tp (.tup [.int ((t1 : Nat) : Int), .int ((w1 : Nat) : Int)]) = H4 at s4 e4
          refine ⟨tp, rfl, ⟨_, .of e4⟩, fun D nD => ?_⟩
          refine lc_tup (K := K) (a := tp) (xs := ([(t1, B1), (w1, A1)] : List (Nat × Bd)).map fun p => .int ((p.1 : Nat) : Int)) (fun i Hj => Same H4 Hj ∧ Hj D = some (.lst (natsV (((([(t1, B1), (w1, A1)] : List (Nat × Bd)).take i).filter fun p => !knw acc p.2).map (·.1))))) ⟨same_upd nD, upd_same⟩ (fun i Hj _ hp => .of (hp.1 _ _ e4)) (fun i x Hj hx hp => ?_) (fun Hm hp => ?_)
          · obtain ⟨sj, eD⟩ := hp
            rw [List.getElem?_map] at hx
            obtain ⟨p, hpv, rfl⟩ := Option.map_eq_some_iff.mp hx
            have hp2 : At N p.1 p.2 := by
              have := List.mem_of_getElem? hpv
              simp only [List.mem_cons, List.not_mem_nil, or_false] at this
              rcases this with rfl | rfl
              · exact ht1
              · exact hw1
            refine ⟨rfl, ?_⟩
            refine ⟨_, rfl, _, rfl, nu, _, rfl, DGet.k (k := .inl (p.1 : Int)) ((s4.trans sj) _ _ enu), _, rfl, ?_⟩
            rw [nbs_val hnd hp2 rk]
            have etk : (([(t1, B1), (w1, A1)] : List (Nat × Bd)).take (i + 1)).filter (fun p => !knw acc p.2) = (([(t1, B1), (w1, A1)] : List (Nat × Bd)).take i).filter (fun p => !knw acc p.2) ++ (if knw acc p.2 = true then [] else [p]) := by
              rw [List.take_add_one, hpv, List.filter_append]
              congr 1
              show List.filter _ [p] = _
              rw [List.filter_cons]
              cases knw acc p.2 <;> rfl
            by_cases hkp : knw acc p.2 = true
            · rw [if_pos hkp] at etk ⊢
              rw [List.append_nil] at etk
              refine iteF ⟨sj, ?_⟩
              rw [etk]
              exact eD
            · rw [if_neg hkp] at etk ⊢
              refine iteT ⟨_, rfl, _, eD, ?_, fun z o hz => ?_, ?_⟩
              · unfold natsV
                rw [List.length_map, List.length_map]
                have h1 := List.length_filter_le (fun p : Nat × Bd => !knw acc p.2) (([(t1, B1), (w1, A1)] : List (Nat × Bd)).take i)
                have h2 : (([(t1, B1), (w1, A1)] : List (Nat × Bd)).take i).length ≤ 2 := by
                  rw [List.length_take]
                  exact Nat.min_le_right _ _
                omega
              · rw [upd_ne (ne_of_none hz nD)]
                exact sj _ _ hz
              · rw [upd_same, etk, List.map_append, natsV_app]
                rfl
          · obtain ⟨sm, eD⟩ := hp
            have s4m := s4.trans sm
            have efl : (((([(t1, B1), (w1, A1)] : List (Nat × Bd)).take ((([(t1, B1), (w1, A1)] : List (Nat × Bd)).map fun p => (V.int ((p.1 : Nat) : Int))).length)).filter fun p => !knw acc p.2).map (·.1)) = ((if knw acc A1 = true then [] else [w1]) ++ (if knw acc B1 = true then [] else [t1])).reverse := by
              show (List.filter (fun p : Nat × Bd => !knw acc p.2) [(t1, B1), (w1, A1)]).map (·.1) = _
              rw [List.filter_cons, List.filter_cons]
              cases knw acc A1 <;> cases knw acc B1 <;> rfl
            rw [efl] at eD
            have rw2 : Rel2 N ((if knw acc A1 = true then [] else [w1]) ++ (if knw acc B1 = true then [] else [t1])) (wts acc A1 B1) := by
              unfold wts
              refine Rel2.app ?_ ?_
              · cases knw acc A1
                · exact ⟨hw1, trivial⟩
                · exact trivial
              · cases knw acc B1
                · exact ⟨ht1, trivial⟩
                · exact trivial
            have lwt : ((if knw acc A1 = true then [] else [w1]) ++ (if knw acc B1 = true then [] else [t1])).length ≤ 2 := by
              cases knw acc A1 <;> cases knw acc B1 <;> simp
            generalize ((if knw acc A1 = true then [] else [w1]) ++ (if knw acc B1 = true then [] else [t1])) = wt at eD rw2 lwt
            have elf4 := s4m _ _ elf
            have enl4 := s4m _ _ enl
            have enu4 := s4m _ _ enu
            have dx4 := DpAll.ext s4m _ _ dxs
            have nDlf : D ≠ lf := (ne_of_none (s4 _ _ elf) nD).symm
            have nDnl : D ≠ nl := (ne_of_none (s4 _ _ enl) nD).symm
            have lsc := itns_len (Bd.nd e1 A1 B1 :: sT) acc
            have lsc2 : sc.length = sT.length := rs.2.len
            refine ⟨_, rfl, .inl ⟨rfl, _, .inl (.inl elf4)⟩, _, rfl, lf, D, _, _, rfl, rfl, elf4, eD, ?_, ?_⟩
            · unfold natsV
              rw [List.length_append, List.length_map, List.length_map, List.length_map, List.length_reverse, List.length_reverse]
              rw [List.length_cons] at lsc
              show sc.length + 1 + wt.length ≤ _
              omega
            have elf5 : (upd Hm lf (.lst (natsV sc.reverse ++ natsV [c] ++ natsV wt.reverse))) lf = some (.lst (natsV (wt ++ c :: sc).reverse)) := by
              rw [upd_same, List.reverse_append, List.reverse_cons, natsV_app, natsV_app]
            have enl5 : (upd Hm lf (.lst (natsV sc.reverse ++ natsV [c] ++ natsV wt.reverse))) nl = some (.lst xs) := by rw [upd_ne nlfl.symm]; exact enl4
            have enu5 : (upd Hm lf (.lst (natsV sc.reverse ++ natsV [c] ++ natsV wt.reverse))) nu = some (.dK (nbs ks)) := by rw [upd_ne nlfu.symm]; exact enu4
            have eD5 : (upd Hm lf (.lst (natsV sc.reverse ++ natsV [c] ++ natsV wt.reverse))) D = some (.lst (natsV wt.reverse)) := by rw [upd_ne nDlf]; exact eD
            have dx5 : DpAll K (upd Hm lf (.lst (natsV sc.reverse ++ natsV [c] ++ natsV wt.reverse))) xs (acc.map (rowD acc)) := DpAll.away elf4 _ _ (rows_only acc acc) dx4
            have s5 : Same H (upd Hm lf (.lst (natsV sc.reverse ++ natsV [c] ++ natsV wt.reverse))) := fresh (si.trans s4m) nlf0
            generalize upd Hm lf (.lst (natsV sc.reverse ++ natsV [c] ++ natsV wt.reverse)) = H5 at elf5 enl5 enu5 eD5 dx5 s5
            refine ⟨_, rfl, _, .inl ⟨_, .of eD5, rfl⟩, ?_⟩
            by_cases hwn : wts acc A1 B1 = []
            · -- both sides known
              have hwt : wt = [] := by
                rw [hwn] at rw2
                cases wt with
                | nil => rfl
                | cons _ _ => exact rw2.elim
              subst hwt
              obtain ⟨k1, k2⟩ := wts_nil.mp hwn
              show if (!!true) = true then _ else _
              refine iteT ?_
              refine ⟨_, rfl, nu, _, rfl, enu5, _, rfl, _, rfl, nu, _, rfl, DPut.k (k := .inl (c : Int)) enu5 (by rw [nbs_len]; omega), ?_⟩
              have hnone : valV (nbs ks) (.inl (c : Int)) = none := by
                rw [nbs_val hnd hb rk, if_neg hk]
              rw [putK_new _ hnone, nbs_len, ← nbs_snoc]
              have enl6 : (upd H5 nu (.dK (nbs (ks ++ [c])))) nl = some (.lst xs) := by rw [upd_ne nnlu]; exact enl5
              have elf6 : (upd H5 nu (.dK (nbs (ks ++ [c])))) lf = some (.lst (natsV (c :: sc).reverse)) := by rw [upd_ne nlfu]; exact elf5
              have enu6 : (upd H5 nu (.dK (nbs (ks ++ [c])))) nu = some (.dK (nbs (ks ++ [c]))) := upd_same
              have dx6 : DpAll K (upd H5 nu (.dK (nbs (ks ++ [c])))) xs (acc.map (rowD acc)) := DpAll.tsn (fun b o ho hb => by
                rw [upd_ne]
                · exact hb
                · rintro rfl
                  rw [enu5] at hb
                  rcases ho with ⟨ys, rfl⟩ | ⟨q, u, rfl⟩ <;> cases hb) _ _ (rows_only acc acc) dx5
              have s6 : Same H (upd H5 nu (.dK (nbs (ks ++ [c])))) := fresh s5 nnu0
              generalize upd H5 nu (.dK (nbs (ks ++ [c]))) = H6 at enl6 elf6 enu6 dx6 s6
              have rk6 : Rel2 N (ks ++ [c]) (acc ++ [Bd.nd e1 A1 B1]) := rk.app ⟨hb, trivial⟩
              have pre := List.prefix_append acc [Bd.nd e1 A1 B1]
              have getv : ∀ (x : Nat) (X : Bd), At N x X → knw acc X = true → DGet H6 nu (.int ((x : Nat) : Int)) (some (.int ((nmb (acc ++ [Bd.nd e1 A1 B1]) X : Nat) : Int))) := fun x X hX kX => by
                have := DGet.k (k := .inl (x : Int)) enu6
                rw [nbs_val hnd hX rk6, if_pos (knw_pre pre kX)] at this
                exact this
              refine ⟨_, rfl, .inl ⟨rfl, _, .inl (.inl enl6)⟩, ?_⟩
              refine ⟨_, rfl, _, rfl, _, rfl, nu, _, rfl, getv w1 A1 hw1 k1, _, rfl, _, rfl, nu, _, rfl, getv t1 B1 ht1 k2, by show 3 ≤ sizeLine; decide, fun tq ntq => ?_⟩
              have s7 := same_upd ntq (o := .tup [.int e1, .int ((nmb (acc ++ [Bd.nd e1 A1 B1]) A1 : Nat) : Int), .int ((nmb (acc ++ [Bd.nd e1 A1 B1]) B1 : Nat) : Int)])
              have d7 : Dp K (upd H6 tq (.tup [.int e1, .int ((nmb (acc ++ [Bd.nd e1 A1 B1]) A1 : Nat) : Int), .int ((nmb (acc ++ [Bd.nd e1 A1 B1]) B1 : Nat) : Int)])) (.ref tq) (rowD (acc ++ [Bd.nd e1 A1 B1]) (Bd.nd e1 A1 B1)) := .tup (.of upd_same) (.cons (.int _) (.cons (.int _) (.cons (.int _) .nil)))
              generalize upd H6 tq (.tup [.int e1, .int ((nmb (acc ++ [Bd.nd e1 A1 B1]) A1 : Nat) : Int), .int ((nmb (acc ++ [Bd.nd e1 A1 B1]) B1 : Nat) : Int)]) = H7 at s7 d7
              have enl7 := s7 _ _ enl6
              refine ⟨nl, _, _, rfl, rfl, enl7, by omega, ?_⟩
              obtain ⟨j1, j2⟩ := itns_num (as := sT) hnm k1 k2
              refine ⟨itns (acc ++ [Bd.nd e1 A1 B1]) (Bd.nd e1 A1 B1 :: sT), by omega, ks ++ [c], acc ++ [Bd.nd e1 A1 B1], c :: sc, Bd.nd e1 A1 B1 :: sT, xs ++ [.ref tq], _, _, _, _, _, _, rfl, by omega, rfl, fresh (s6.trans s7) nnl, upd_same, ?_, by rw [upd_ne nnlu.symm]; exact s7 _ _ enu6, by rw [upd_ne nlfl]; exact s7 _ _ elf6, rk6, rs, ?_, ?_⟩
              · rw [rows_snoc hclo]
                exact DpAll.snoc (DpAll.away enl7 _ _ (rows_only acc acc) (DpAll.ext s7 _ _ dx6)) (Dp.away enl7 _ _ rfl d7)
              · have := post_clo (Bd.nd e1 A1 B1) acc hclo
                rw [post_nd hnm, post_knw k1, post_knw k2] at this
                exact this
              · rw [j2]
                exact hf
            · -- some wait
              have hwt : wt.reverse ≠ [] := fun z => by
                rw [List.reverse_eq_nil_iff] at z
                subst z
                have := rw2.len
                exact hwn (List.eq_nil_of_length_eq_zero this.symm)
              have hne2 : (natsV wt.reverse).isEmpty = false := by
                cases h : wt.reverse with
                | nil => exact absurd h hwt
                | cons _ _ => rfl
              rw [hne2]
              show if (!!false) = true then _ else _
              refine iteF ?_
              obtain ⟨j1, j2⟩ := itns_push (as := sT) hnm hwn
              exact ⟨itns acc (wts acc A1 B1 ++ Bd.nd e1 A1 B1 :: sT), by omega, ks, acc, wt ++ c :: sc, wts acc A1 B1 ++ Bd.nd e1 A1 B1 :: sT, xs, _, _, _, _, _, _, rfl, by omega, rfl, s5, enl5, dx5, enu5, elf5, rk, rw2.app rs, hclo, by rw [j2]; exact hf⟩
theorem ok_table {f C : Addr} {fd : FuncData} (F : Fun K "table" "Diagrams.table" s_Diagrams_table f fd) (M : Mg mg) (G : DgC K C mg) (c_Diagrams_listed : ClM P w K mg base 2 C "listed" (sp_listed C K)) : FnOk P w K mg base CX0 3 f fd ["self", "condition"] (sp_table C K) := by
  refine F.ok sc_Diagrams_table (fun vs H Q E h => ?_) (fun cdv A outer s H vs Q E hr h => ?_)
  · obtain ⟨s, N, es, L, c, a, rfl, _⟩ := h
    rfl
  · obtain ⟨s, N, es, L, c, a, rfl, st, hA, hsz, q⟩ := h
    refine ⟨_, (pss_cons (ps_asg (pe_mt c_Diagrams_listed hr (by first | decide | omega) (pv 0) (pa_cons (pe_lst (pa_cons (pv 1) pa_nil)) pa_nil)) (pg_tup (by rfl) (pgs_cons (pg_name (i := 2) sc_Diagrams_table.nd rfl (.inl rfl)) (pgs_cons (pg_name (i := 3) sc_Diagrams_table.nd rfl (.inl rfl)) pgs_nil))))
      (pss_one (ps_ret (pe_tup (pa_cons (pv 2) (pa_cons (pe_dget (hu_of hr) (pv 3) (pv 1) (fun _ _ => rfl)) pa_nil)))))), ?_⟩
    refine ⟨_, rfl, st.go (by decide +kernel) (by decide +kernel) (by decide +kernel) ⟨_, rfl, by show 1 ≤ sizeLine; decide, fun p np => ?_⟩⟩
    have s1 := same_upd np (o := .lst [.int ((c : Nat) : Int)])
    have e1 : (upd H p (.lst [.int ((c : Nat) : Int)])) p = some (.lst (natsV [c])) := upd_same
    generalize upd H p (.lst [.int ((c : Nat) : Int)]) = H1 at s1 e1
    refine ⟨s, N, es, L, p, [c], [a], rfl, st.ext s1, .of e1, ⟨hA, trivial⟩, by show 1 ≤ 100; decide, fun b hb => by rw [List.mem_singleton.mp hb]; exact hsz, fun H2 q2 nl nu xs ks s2 e2 nnl enl enu rk dx => ?_⟩
    have rk : Rel2 N ks (post [] a) := rk
    have dx : DpAll K H2 xs ((post [] a).map (rowD (post [] a))) := dx
    refine ⟨q2, _, rfl, .of e2, rfl, _, _, rfl, _, _, rfl, rfl, ?_⟩
    have hv : DGet H2 nu (.int ((c : Nat) : Int)) (some (.int ((nmb (post [] a) a : Nat) : Int))) := by
      have := DGet.k (k := .inl (c : Int)) enu
      rw [nbs_val st.nd hA rk, if_pos (post_self a [])] at this
      exact this
    refine ⟨_, rfl, _, rfl, _, rfl, nu, _, rfl, hv, by show 2 ≤ sizeLine; decide, fun q3 nq3 => ?_⟩
    exact q _ q3 nl xs ((s1.trans s2).trans (same_upd nq3)) upd_same (s1.free nnl) (same_upd nq3 _ _ enl) (DpAll.ext (same_upd nq3) _ _ dx)
end

/-- where a node's question stands, and what comes ahead of it does not matter -/
theorem wf_nd {es : List Int} {x : Int} {w t : Bd} (h : Wf es (.nd x w t)) : ∃ pre post, es = pre ++ x :: post ∧ Wf post w ∧ Wf post t ∧ w ≠ t := by
  generalize e : Bd.nd x w t = a at h
  induction h with
  | lf => cases e
  | @here y es w' t' hw ht hn _ _ =>
    cases e
    exact ⟨[], _, rfl, hw, ht, hn⟩
  | @skip y es a _ ih =>
    obtain ⟨pre, po, rfl, h1, h2, h3⟩ := ih e
    exact ⟨y :: pre, po, rfl, h1, h2, h3⟩
theorem wf_kids {es : List Int} {x : Int} {w t : Bd} (h : Wf es (.nd x w t)) : Wf es w ∧ Wf es t := by
  obtain ⟨pre, po, rfl, h1, h2, _⟩ := wf_nd h
  exact ⟨(Wf.skip h1).skips pre, (Wf.skip h2).skips pre⟩
/-- all nodes of a diagram -/
def subN : Bd → List Bd
  | .lf _ => []
  | .nd e w t => .nd e w t :: (subN w ++ subN t)
theorem clo_sub {acc : List Bd} (h : Clo acc) : ∀ {a : Bd}, knw acc a = true → ∀ x ∈ subN a, x ∈ acc
  | .lf _, _, x, hx => by cases hx
  | .nd e w t, hk, x, hx => by
    have hm := knw_nd.mp hk
    obtain ⟨k1, k2⟩ := h e w t hm
    rcases List.mem_cons.mp hx with rfl | hx
    · exact hm
    · rcases List.mem_append.mp hx with hx | hx
      · exact clo_sub h k1 x hx
      · exact clo_sub h k2 x hx
theorem post_iff : ∀ {a : Bd} {acc : List Bd}, Clo acc → ∀ x, x ∈ post acc a ↔ x ∈ acc ∨ x ∈ subN a
  | .lf _, acc, _, x => by
    show x ∈ acc ↔ _
    exact ⟨.inl, fun h => h.elim id (fun z => by cases z)⟩
  | .nd e w t, acc, hc, x => by
    by_cases hm : Bd.nd e w t ∈ acc
    · rw [post_knw (knw_nd.mpr hm)]
      exact ⟨.inl, fun h => h.elim id (clo_sub hc (knw_nd.mpr hm) x)⟩
    · rw [post_nd hm, List.mem_append, List.mem_singleton, post_iff (post_clo w acc hc), post_iff hc]
      constructor
      · rintro (((h | h) | h) | h)
        · exact .inl h
        · exact .inr (List.mem_cons_of_mem _ (List.mem_append_left _ h))
        · exact .inr (List.mem_cons_of_mem _ (List.mem_append_right _ h))
        · subst h; exact .inr List.mem_cons_self
      · rintro (h | h)
        · exact .inl (.inl (.inl h))
        · rcases List.mem_cons.mp h with h | h
          · exact .inr h
          · rcases List.mem_append.mp h with h | h
            · exact .inl (.inl (.inr h))
            · exact .inl (.inr h)
theorem posts_iff : ∀ {as acc : List Bd}, Clo acc → ∀ x, x ∈ as.foldl post acc ↔ x ∈ acc ∨ ∃ a ∈ as, x ∈ subN a
  | [], acc, _, x => ⟨.inl, fun h => h.elim id (fun ⟨a, h, _⟩ => by cases h)⟩
  | a :: as, acc, hc, x => by
    rw [List.foldl_cons, posts_iff (post_clo a acc hc), post_iff hc]
    constructor
    · rintro ((h | h) | ⟨b, hb, h⟩)
      · exact .inl h
      · exact .inr ⟨a, List.mem_cons_self, h⟩
      · exact .inr ⟨b, List.mem_cons_of_mem _ hb, h⟩
    · rintro (h | ⟨b, hb, h⟩)
      · exact .inl (.inl h)
      · rcases List.mem_cons.mp hb with rfl | hb
        · exact .inl (.inr h)
        · exact .inr ⟨b, hb, h⟩
theorem posts_nodup : ∀ (as acc : List Bd), acc.Nodup → (as.foldl post acc).Nodup
  | [], _, h => h
  | a :: as, acc, h => posts_nodup as _ (post_nodup a acc h)
theorem same_len {xs ys : List Bd} (h1 : xs.Nodup) (h2 : ys.Nodup) (h : ∀ x, x ∈ xs ↔ x ∈ ys) : xs.length = ys.length := ((List.perm_ext_iff_of_nodup h1 h2).mpr h).length_eq
theorem post_wf {es : List Int} : ∀ (a : Bd) (acc : List Bd), Wf es a → (∀ b ∈ acc, Wf es b) → ∀ b ∈ post acc a, Wf es b
  | .lf _, _, _, h => h
  | .nd e w t, acc, hw, h => by
    obtain ⟨w1, w2⟩ := wf_kids hw
    unfold post
    split
    · exact h
    · intro b hb
      rcases List.mem_append.mp hb with hb | hb
      · exact post_wf t _ w2 (post_wf w acc w1 h) b hb
      · rw [List.mem_singleton.mp hb]
        exact hw
def Ordd (acc : List Bd) : Prop := ∀ (i : Nat) e w t, acc[i]? = some (Bd.nd e w t) → knw (acc.take i) w = true ∧ knw (acc.take i) t = true
theorem post_ord : ∀ (a : Bd) (acc : List Bd), Ordd acc → Ordd (post acc a)
  | .lf _, _, h => h
  | .nd e w t, acc, h => by
    unfold post
    split
    · exact h
    · have h2 := post_ord t _ (post_ord w acc h)
      intro i e' w' t' hi
      by_cases hl : i < (post (post acc w) t).length
      · rw [List.getElem?_append_left hl] at hi
        rw [List.take_append_of_le_length (Nat.le_of_lt hl)]
        exact h2 i e' w' t' hi
      · rw [List.getElem?_append_right (by omega)] at hi
        have hk : i = (post (post acc w) t).length := by
          cases hh : i - (post (post acc w) t).length with
          | zero => omega
          | succ j => rw [hh] at hi; simp at hi
        subst hk
        rw [Nat.sub_self] at hi
        cases hi
        rw [List.take_append_of_le_length (Nat.le_refl _), List.take_of_length_le (Nat.le_refl _)]
        exact ⟨knw_pre (post_pre t _) (post_self w acc), post_self t _⟩

theorem kw_get {bs : List Bd} {a : Bd} (hk : knw bs a = true) : (Bd.lf false :: Bd.lf true :: bs)[nmb bs a]? = some a := by
  cases a with
  | lf v => cases v <;> rfl
  | nd e w t =>
    have hm := knw_nd.mp hk
    have hj := List.idxOf_lt_length_of_mem hm
    show bs[bs.idxOf (.nd e w t)]? = _
    rw [List.getElem?_eq_getElem hj, List.getElem_idxOf hj]

/-! ### places of diagrams among rows -/
def pl (ws : List Int) : Bd → Nat
  | .lf _ => ws.length
  | .nd e _ _ => ws.idxOf e
theorem idx_lt {ws : List Int} (hs : ws.Pairwise (· < ·)) {x y : Int} (hx : x ∈ ws) (hy : y ∈ ws) (h : x < y) : ws.idxOf x < ws.idxOf y := by
  have h1 := List.idxOf_lt_length_of_mem hx
  have h2 := List.idxOf_lt_length_of_mem hy
  have e1 := List.getElem_idxOf h1
  have e2 := List.getElem_idxOf h2
  rw [List.pairwise_iff_getElem] at hs
  rcases Nat.lt_trichotomy (ws.idxOf x) (ws.idxOf y) with g | g | g
  · exact g
  · have : x = y := by
      rw [← e1, ← e2]
      simp only [g]
    omega
  · have := hs _ _ h2 h1 g
    omega
theorem pl_lt {ws es : List Int} (hs : ws.Pairwise (· < ·)) (he : es.Pairwise (· < ·)) (sub : ∀ x ∈ es, x ∈ ws) {e : Int} {w t : Bd} (h : Wf es (.nd e w t)) : ws.idxOf e + 1 ≤ pl ws w ∧ ws.idxOf e + 1 ≤ pl ws t := by
  have hm := sub e h.none_of
  have hi := List.idxOf_lt_length_of_mem hm
  obtain ⟨pre, po, rfl, h1, h2, _⟩ := wf_nd h
  rw [List.pairwise_append] at he
  have hp := (List.pairwise_cons.mp he.2.1).1
  have one : ∀ a, Wf po a → ws.idxOf e + 1 ≤ pl ws a := fun a ha => by
    cases a with
    | lf b => exact hi
    | nd x p q => exact idx_lt hs hm (sub x (List.mem_append_right _ (List.mem_cons_of_mem _ ha.none_of))) (hp x ha.none_of)
  exact ⟨one w h1, one t h2⟩

/-! ### shares: sums of numbers at the same places, sets to which free rows are added -/
/-- over two lists' items side by side, into a list -/
theorem lc_zip {K : PySem.W.Frag} {a b : Addr} {xs ys : List V} {g : TG} {tt : TT} {te : TE} {vs : List Nat} {σ : L2.St} {H1 : Hp} {D : Addr} {Qd : Hp → Prop} (hn : xs.length = ys.length) (Pv : Nat → Hp → Prop) (h0 : Pv 0 (upd H1 D (.lst []))) (hl : ∀ i H, i ≤ xs.length → Pv i H → SqL K H a xs ∧ SqL K H b ys)
    (hs : ∀ i x y H T, xs[i]? = some x → ys[i]? = some y → Pv i H → H T = none → g (.ref T) (wipe σ vs) (upd H T (.tup [x, y])) fun σ2 H2 => wipe σ2 vs = wipe σ vs ∧ tt σ2 H2 fun b H3 =>
      if b = true then te σ2 H3 fun y H4 => ∃ acc, H4 D = some (.lst acc) ∧ acc.length < sizeLine ∧ Pv (i + 1) (upd H4 D (.lst (acc ++ [y]))) else Pv (i + 1) H3) (hd : ∀ H, Pv xs.length H → Qd H) :
    ∃ W : Nat → Nat → Hp → Prop, (∃ m, W 0 m (upd H1 D (.lst []))) ∧ ∀ i m H, W i m H →
      ((Itz K a b).stop i H ∧ Qd H) ∨ ((Itz K a b).go i H ∧ ∃ Nx : Hp → Prop, (∀ H', Nx H' → ∃ m', m' < m ∧ W (i + 1) m' H') ∧ ∀ x H', (Itz K a b).yld i H x H' → g x (wipe σ vs) H' fun σ2 H2 => wipe σ2 vs = wipe σ vs ∧ tt σ2 H2 fun b H3 =>
        if b = true then te σ2 H3 fun y H4 => ∃ acc, H4 D = some (.lst acc) ∧ acc.length < sizeLine ∧ Nx (upd H4 D (.lst (acc ++ [y]))) else Nx H3) := by
  refine ⟨fun i m H => m = xs.length - i ∧ i ≤ xs.length ∧ Pv i H, ⟨xs.length, by simp, Nat.zero_le _, h0⟩, ?_⟩
  rintro i m H ⟨rfl, hi, p⟩
  obtain ⟨q1, q2⟩ := hl i H hi p
  by_cases hlt : i < xs.length
  · have hlt2 : i < ys.length := by omega
    refine .inr ⟨⟨xs, ys, xs[i], ys[i], q1, q2, by simp [hlt], by simp [hlt2]⟩, Pv (i + 1), fun H' p' => ⟨xs.length - (i + 1), by omega, rfl, hlt, p'⟩, fun x H' y => ?_⟩
    obtain ⟨T, z, z2, rfl, nT, rfl, hz, hz2⟩ := y
    exact hs i z z2 H T (hz xs q1) (hz2 ys q2) p nT
  · have e : i = xs.length := by omega
    subst e
    exact .inl ⟨⟨xs, ys, q1, q2, .inl (Nat.le_refl _)⟩, hd H p⟩
def addL (xs ys : List Int) : List Int := List.zipWith (· + ·) xs ys
theorem addL_len {xs ys : List Int} (h : xs.length = ys.length) : (addL xs ys).length = xs.length := by
  unfold addL
  rw [List.length_zipWith]
  omega
/-- any of n free rows are added -/
def sprL (xs : List Int) : Nat → List Int
  | 0 => xs
  | n + 1 => addL (sprL xs n ++ [0]) (0 :: sprL xs n)
theorem sprL_len (xs : List Int) : ∀ n, (sprL xs n).length = xs.length + n
  | 0 => rfl
  | n + 1 => by
    show (addL (sprL xs n ++ [0]) (0 :: sprL xs n)).length = _
    rw [addL_len (by rw [List.length_append, List.length_cons]; rfl), List.length_append, sprL_len xs n]
    rfl
def sp_sums (K : PySem.W.Frag) : Sp := fun vs H Q _ => ∃ (a b : Addr) (xs ys : List Int), vs = [.ref a, .ref b] ∧ SqL K H a (xs.map V.int) ∧ SqL K H b (ys.map V.int) ∧ xs.length = ys.length ∧ xs.length ≤ 1000 ∧ ∀ H' r, Same H H' → H r = none → H' r = some (.lst ((addL xs ys).map V.int)) → Q (.ref r) H'
/-- the list that is handed in is given back if there is no free row -/
def sp_spread (K : PySem.W.Frag) : Sp := fun vs H Q _ => ∃ (a : Addr) (xs : List Int) (n : Nat), vs = [.ref a, .int ((n : Nat) : Int)] ∧ H a = some (.lst (xs.map V.int)) ∧ xs.length + n ≤ 1000 ∧ ∀ H' r, Same H H' → r = a ∨ H r = none → H' r = some (.lst ((sprL xs n).map V.int)) → Q (.ref r) H'
section
variable {P : Program} {w : World} {K : PySem.W.Frag} {mg : Str → Option Value} {base : Heap}
theorem sqL_ext {H H' : Hp} {a : Addr} {xs : List V} (e : Same H H') (h : SqL K H a xs) : SqL K H' a xs := by
  rcases h with (h | ⟨o, h⟩) | h
  · exact .inl (.inl (e _ _ h))
  · exact .inl (.inr ⟨o, e _ _ h⟩)
  · exact .inr h
theorem ok_sums {f : Addr} {fd : FuncData} (F : Fun K "sums" "sums" s_sums f fd) (M : Mg mg) : FnOk P w K mg base CX0 1 f fd ["first", "second"] (sp_sums K) := by
  refine F.ok sc_sums (fun vs H Q E h => ?_) (fun cdv A0 outer s0 H vs Q E hr h => ?_)
  · obtain ⟨a, b, xs, ys, rfl, _⟩ := h
    rfl
  · obtain ⟨a, b, xs, ys, rfl, ha, hb, hn, hl, q⟩ := h
    refine ⟨_, (pss_one (ps_ret (pe_lc (own := [("one", 2), ("other", 3)]) (g := gTup K 2 (gCons (gName 2) (gCons (gName 3) (gNil)))) (tt := tYes) rfl sc_sums.nd (pi_zip (by rfl) M.zip (pa_cons (pv 0) (pa_cons (pv 1) pa_nil))) (blkOk_by (N := N_sums) (sc := defScope s_sums) (by decide +kernel)) (fun _ _ _ _ _ => (pg_tup (by rfl) (pgs_cons (pg_name (i := 2) sc_sums.nd rfl (.inl rfl)) (pgs_cons (pg_name (i := 3) sc_sums.nd rfl (.inl rfl)) pgs_nil)))) (fun _ _ _ _ _ => pts_nil) (fun _ _ _ _ _ => (pe_op op_add (pv 2) (pv 3)))))), ?_⟩
    refine ⟨_, rfl, _, rfl, a, b, _, _, rfl, ha, hb, fun D nD => ?_⟩
    refine lc_zip (K := K) (a := a) (b := b) (xs := xs.map V.int) (ys := ys.map V.int) (by rw [List.length_map, List.length_map]; exact hn) (fun j Hj => Same H Hj ∧ Hj D = some (.lst (((addL xs ys).take j).map V.int))) ⟨same_upd nD, upd_same⟩ (fun j Hj _ hp => ⟨sqL_ext hp.1 ha, sqL_ext hp.1 hb⟩) (fun j x y Hj T hx hy hp nT => ?_) (fun Hn hp => ?_)
    · obtain ⟨sj, eD⟩ := hp
      rw [List.getElem?_map] at hx hy
      obtain ⟨i1, hx1, rfl⟩ := Option.map_eq_some_iff.mp hx
      obtain ⟨i2, hy1, rfl⟩ := Option.map_eq_some_iff.mp hy
      have sT := same_upd nT (o := .tup [.int i1, .int i2])
      have hj := (List.getElem?_eq_some_iff.mp hx1).1
      have etk : (addL xs ys).take (j + 1) = (addL xs ys).take j ++ [i1 + i2] := by
        rw [List.take_add_one]
        unfold addL
        rw [List.getElem?_zipWith, hx1, hy1]
        rfl
      refine ⟨T, _, rfl, .of upd_same, rfl, _, _, rfl, _, _, rfl, rfl, rfl, ?_⟩
      refine ⟨_, rfl, _, rfl, _, _, rfl, rfl, _, sT _ _ eD, ?_, fun z o hz => ?_, ?_⟩
      · rw [List.length_map, List.length_take]
        exact Nat.lt_of_le_of_lt (m := 1000) (by omega) (by decide)
      · rw [upd_ne (ne_of_none hz nD)]
        exact sT _ _ (sj _ _ hz)
      · rw [upd_same, etk, List.map_append]
        rfl
    · obtain ⟨sn, eD⟩ := hp
      rw [List.length_map, List.take_of_length_le (by rw [addL_len hn]; exact Nat.le_refl _)] at eD
      exact q Hn D sn nD eD
theorem ok_spread {f : Addr} {fd : FuncData} (F : Fun K "spread" "spread" s_spread f fd) (M : Mg mg) (c_sums : Cl P w K mg base 1 "sums" (sp_sums K)) : FnOk P w K mg base CX0 2 f fd ["counts", "free"] (sp_spread K) := by
  refine F.ok sc_spread (fun vs H Q E h => ?_) (fun cdv A0 outer s0 H vs Q E hr h => ?_)
  · obtain ⟨a, xs, n, rfl, _⟩ := h
    rfl
  · obtain ⟨a, xs, n, rfl, ha, hl, q⟩ := h
    refine ⟨_, (pss_cons (ps_set (i := 2) sc_spread.nd rfl (.inl rfl) (pv 0))
      (pss_cons (ps_for PassesOwn.never rfl (pi_range1 (by rfl) M.range (pa_cons (pv 1) pa_nil)) (pg_name (i := 3) sc_spread.nd rfl (.inl rfl)) (pss_one (ps_set (i := 2) sc_spread.nd rfl (.inl rfl) (pe_u c_sums hr (by first | decide | omega) (by rfl) (pa_cons (pe_op op_cat (pv 2) (pe_lst (pa_cons pe_int pa_nil))) (pa_cons (pe_op op_cat (pe_lst (pa_cons pe_int pa_nil)) (pv 2)) pa_nil))))))
      (pss_one (ps_ret (pv 2))))), ?_⟩
    refine ⟨_, rfl, _, rfl, _, rfl, by omega, by omega, ?_⟩
    refine for_range (lo := 0) (n := n) (fun j σ Hj => Same H Hj ∧ ∃ r z, σ = [some (.ref a), some (.int ((n : Nat) : Int)), some (.ref r), z] ∧ (r = a ∨ H r = none) ∧ Hj r = some (.lst ((sprL xs j).map V.int))) ⟨fun _ _ e => e, a, none, rfl, .inl rfl, ha⟩ (fun j σ Hj hj hp => ?_) (fun σ Hn hp => ?_)
    · obtain ⟨sj, r, z, rfl, hr0, er⟩ := hp
      have lj := sprL_len xs j
      refine ⟨_, rfl, by show 1 ≤ sizeLine; decide, fun p1 n1 => ?_⟩
      have s1 := same_upd n1 (o := .lst [.int 0])
      have e1 : (upd Hj p1 (.lst [.int 0])) p1 = some (.lst [.int 0]) := upd_same
      generalize upd Hj p1 (.lst [.int 0]) = H1 at s1 e1 ⊢
      refine ⟨r, p1, _, _, rfl, rfl, s1 _ _ er, e1, by rw [List.length_map]; exact Nat.le_trans (m := 1001) (by show _ + 1 ≤ _; omega) (by decide), fun p2 n2 => ?_⟩
      have s2 := same_upd n2 (o := .lst ((sprL xs j).map V.int ++ [.int 0]))
      have e2 : (upd H1 p2 (.lst ((sprL xs j).map V.int ++ [.int 0]))) p2 = some (.lst ((sprL xs j ++ [0]).map V.int)) := by rw [upd_same, List.map_append]; rfl
      generalize upd H1 p2 (.lst ((sprL xs j).map V.int ++ [.int 0])) = H2 at s2 e2 ⊢
      refine ⟨by show 1 ≤ sizeLine; decide, fun p3 n3 => ?_⟩
      have s3 := same_upd n3 (o := .lst [.int 0])
      have e3 : (upd H2 p3 (.lst [.int 0])) p3 = some (.lst [.int 0]) := upd_same
      generalize upd H2 p3 (.lst [.int 0]) = H3 at s3 e3 ⊢
      have s03 := (s1.trans s2).trans s3
      refine ⟨_, rfl, p3, r, _, _, rfl, rfl, e3, s03 _ _ er, by rw [List.length_map]; exact Nat.le_trans (m := 1001) (by show 1 + _ ≤ _; omega) (by decide), fun p4 n4 => ?_⟩
      have s4 := same_upd n4 (o := .lst ([.int 0] ++ (sprL xs j).map V.int))
      have e4 : (upd H3 p4 (.lst ([.int 0] ++ (sprL xs j).map V.int))) p4 = some (.lst ((0 :: sprL xs j).map V.int)) := upd_same
      generalize upd H3 p4 (.lst ([.int 0] ++ (sprL xs j).map V.int)) = H4 at s4 e4 ⊢
      refine ⟨p2, p4, sprL xs j ++ [0], 0 :: sprL xs j, rfl, .of ((s3.trans s4) _ _ e2), .of e4, by rw [List.length_append, List.length_cons]; rfl, by rw [List.length_append]; show _ + 1 ≤ 1000; omega, fun H5 r5 s5 n5 e5 => ?_⟩
      have s05 := (s03.trans s4).trans s5
      exact ⟨sj.trans s05, r5, _, rfl, .inr ((sj.trans (s03.trans s4)).free n5), e5⟩
    · obtain ⟨sn, r, z, rfl, hr0, er⟩ := hp
      exact ⟨_, rfl, q Hn r sn hr0 er⟩
end
/-- a loop over a list's items with their places -/
theorem for_enumL {K : PySem.W.Frag} {a : Addr} {xs : List V} {g : TG} {tb : TS} {D : Ends} {σ : L2.St} {H : Hp} (Pv : Nat → L2.St → Hp → Prop) (h0 : Pv 0 σ H) (hq : ∀ i σ H, i ≤ xs.length → Pv i σ H → SqL K H a xs)
    (hs : ∀ (i : Nat) (x : V) (T : Addr) (σ : L2.St) (H : Hp), xs[i]? = some x → Pv i σ H → H T = none → g (.ref T) σ (upd H T (.tup [.int ((i : Nat) : Int), x])) fun σ2 H2 => tb { D with nx := Pv (i + 1), ct := Pv (i + 1), bk := D.nx } σ2 H2) (hd : ∀ σ H, Pv xs.length σ H → D.nx σ H) :
    ∃ W : Nat → Nat → L2.St → Hp → Prop, (∃ m, W 0 m σ H) ∧ ∀ i m σ H, W i m σ H →
      ((Ite K a).stop i H ∧ D.nx σ H) ∨ ((Ite K a).go i H ∧ ∃ N : L2.St → Hp → Prop, (∀ σ' H', N σ' H' → ∃ m', m' < m ∧ W (i + 1) m' σ' H') ∧ ∀ v H', (Ite K a).yld i H v H' → g v σ H' fun σ2 H2 => tb { D with nx := N, ct := N, bk := D.nx } σ2 H2) := by
  refine ⟨fun i m σ H => m = xs.length - i ∧ i ≤ xs.length ∧ Pv i σ H, ⟨xs.length, rfl, Nat.zero_le _, h0⟩, ?_⟩
  rintro i m σ H ⟨rfl, hi, p⟩
  have qx := hq i σ H hi p
  by_cases hlt : i < xs.length
  · refine .inr ⟨⟨xs, xs[i], qx, List.getElem?_eq_getElem hlt⟩, Pv (i + 1), fun σ' H' p' => ⟨xs.length - (i + 1), by omega, rfl, hlt, p'⟩, fun v H' y => ?_⟩
    obtain ⟨T, x', rfl, hT, rfl, f1⟩ := y
    exact hs i x' T σ H (f1 xs qx) p hT
  · have e : i = xs.length := by omega
    subst e
    exact .inl ⟨⟨xs, qx, Nat.le_refl _⟩, hd σ H p⟩
/-- by size: the sets of the rows from a diagram's place on for which it holds -/
def bel (ws : List Int) : Bd → List Int
  | .lf b => [if b = true then 1 else 0]
  | .nd e w t => addL (sprL (bel ws w) (pl ws w - (ws.idxOf e + 1)) ++ [0]) (0 :: sprL (bel ws t) (pl ws t - (ws.idxOf e + 1)))
theorem bel_len {ws es : List Int} (hs : ws.Pairwise (· < ·)) (he : es.Pairwise (· < ·)) (sub : ∀ x ∈ es, x ∈ ws) : ∀ {a : Bd}, Wf es a → (bel ws a).length + pl ws a = ws.length + 1
  | .lf b, _ => by
    show 1 + ws.length = _
    omega
  | .nd e w t, h => by
    obtain ⟨w1, w2⟩ := wf_kids h
    obtain ⟨p1, p2⟩ := pl_lt hs he sub h
    have i1 := bel_len hs he sub w1
    have i2 := bel_len hs he sub w2
    have i3 := List.idxOf_lt_length_of_mem (sub e h.none_of)
    have l1 := sprL_len (bel ws w) (pl ws w - (ws.idxOf e + 1))
    have l2 := sprL_len (bel ws t) (pl ws t - (ws.idxOf e + 1))
    have e1 : (sprL (bel ws w) (pl ws w - (ws.idxOf e + 1)) ++ [(0 : Int)]).length = ((0 : Int) :: sprL (bel ws t) (pl ws t - (ws.idxOf e + 1))).length := by
      rw [List.length_append, List.length_cons, List.length_cons, List.length_nil, l1, l2]
      omega
    show (addL _ _).length + ws.idxOf e = _
    rw [addL_len e1, List.length_append, l1, List.length_cons, List.length_nil]
    omega
/-- lists that tell of diagrams, each in a list of its own -/
def BlL (H : Hp) (kn : Addr) (f : Bd → List Int) (bs : List Bd) : Prop := ∃ as : List Addr, H kn = some (.lst (as.map V.ref)) ∧ as.length = bs.length ∧ ∀ (i : Nat) b x, as[i]? = some b → bs[i]? = some x → b ≠ kn ∧ H b = some (.lst ((f x).map V.int))
theorem BlL.get {H : Hp} {kn : Addr} {f : Bd → List Int} {bs : List Bd} (h : BlL H kn f bs) {i : Nat} {x : Bd} (hx : bs[i]? = some x) : ∃ (as : List Addr) (b : Addr), H kn = some (.lst (as.map V.ref)) ∧ as[i]? = some b ∧ b ≠ kn ∧ H b = some (.lst ((f x).map V.int)) := by
  obtain ⟨as, h1, h2, h3⟩ := h
  have hi := (List.getElem?_eq_some_iff.mp hx).1
  have hi2 : i < as.length := by rw [h2]; exact hi
  obtain ⟨k1, k2⟩ := h3 i as[i] x (List.getElem?_eq_getElem hi2) hx
  exact ⟨as, as[i], h1, List.getElem?_eq_getElem hi2, k1, k2⟩
theorem BlL.ext {H H' : Hp} (e : Same H H') {kn : Addr} {f : Bd → List Int} {bs : List Bd} (h : BlL H kn f bs) : BlL H' kn f bs := by
  obtain ⟨as, h1, h2, h3⟩ := h
  exact ⟨as, e _ _ h1, h2, fun i b x g1 g2 => ⟨(h3 i b x g1 g2).1, e _ _ (h3 i b x g1 g2).2⟩⟩
theorem BlL.snoc {H : Hp} {kn b : Addr} {f : Bd → List Int} {bs : List Bd} {a : Bd} {xs : List V} (h : BlL H kn f bs) (e : H kn = some (.lst xs)) (n : b ≠ kn) (hb : H b = some (.lst ((f a).map V.int))) : BlL (upd H kn (.lst (xs ++ [.ref b]))) kn f (bs ++ [a]) := by
  obtain ⟨as, h1, h2, h3⟩ := h
  have ex : xs = as.map V.ref := by rw [h1] at e; exact (HO.lst.inj (Option.some.inj e)).symm
  refine ⟨as ++ [b], by rw [upd_same, ex, List.map_append]; rfl, by rw [List.length_append, List.length_append, h2]; rfl, fun i c m hc hm => ?_⟩
  by_cases hi : i < as.length
  · rw [List.getElem?_append_left hi] at hc
    rw [List.getElem?_append_left (by omega)] at hm
    obtain ⟨g1, g2⟩ := h3 i c m hc hm
    exact ⟨g1, by rw [upd_ne g1]; exact g2⟩
  · rw [List.getElem?_append_right (by omega)] at hc
    rw [List.getElem?_append_right (by omega), ← h2] at hm
    cases hk : i - as.length with
    | zero =>
      rw [hk] at hc hm
      cases hc
      cases hm
      exact ⟨n, by rw [upd_ne n]; exact hb⟩
    | succ k => rw [hk] at hc; simp at hc
def sp_below (K : PySem.W.Frag) : Sp := fun vs H Q _ => ∃ (nl sl : Addr) (xs : List V) (acc : List Bd) (ws es : List Int), vs = [.ref nl, .ref sl] ∧ H nl = some (.lst xs) ∧ DpAll K H xs (acc.map (rowD acc)) ∧ H sl = some (.lst ((Bd.lf false :: Bd.lf true :: acc).map fun a => V.int ((pl ws a : Nat) : Int))) ∧ Ordd acc ∧ (∀ b ∈ acc, Wf es b) ∧ (∀ b ∈ acc, ∃ e w t, b = .nd e w t) ∧ ws.Pairwise (· < ·) ∧ es.Pairwise (· < ·) ∧ (∀ x ∈ es, x ∈ ws) ∧ ws.length ≤ 100 ∧ acc.length ≤ 1000 ∧
  ∀ H' r, Same H H' → H r = none → BlL H' r (bel ws) (.lf false :: .lf true :: acc) → Q (.ref r) H'
section
variable {P : Program} {w : World} {K : PySem.W.Frag} {mg : Str → Option Value} {base : Heap}
set_option maxHeartbeats 4000000 in
theorem ok_below {f : Addr} {fd : FuncData} (F : Fun K "sets_below" "sets_below" s_sets_below f fd) (M : Mg mg) (c_sums : Cl P w K mg base 1 "sums" (sp_sums K)) (c_spread : Cl P w K mg base 2 "spread" (sp_spread K)) : FnOk P w K mg base CX0 3 f fd ["nodes", "starts"] (sp_below K) := by
  refine F.ok sc_sets_below (fun vs H Q E h => ?_) (fun cdv A0 outer s0 H vs Q E hr h => ?_)
  · obtain ⟨nl, sl, xs, acc, ws, es, rfl, _⟩ := h
    rfl
  · obtain ⟨nl, sl, xs, acc, ws, es, rfl, hnl, dxs, hsl, hord, hwf, hnds, hws, hes, sub, hwl, hal, q⟩ := h
    have lxs : xs.length = acc.length := by rw [DpAll.len dxs, List.length_map]
    refine ⟨_, (pss_cons (ps_set (i := 2) sc_sets_below.nd rfl (.inl rfl) (pe_lst (pa_cons (pe_lst (pa_cons pe_int pa_nil)) (pa_cons (pe_lst (pa_cons pe_int pa_nil)) pa_nil))))
      (pss_cons (ps_for PassesOwn.never rfl (pi_enum (by rfl) M.enumerate (pa_cons (pv 0) pa_nil)) (pg_tup (by rfl) (pgs_cons (pg_name (i := 3) sc_sets_below.nd rfl (.inl rfl)) (pgs_cons (pg_tup (by rfl) (pgs_cons (pg_name (i := 4) sc_sets_below.nd rfl (.inl rfl)) (pgs_cons (pg_name (i := 5) sc_sets_below.nd rfl (.inl rfl)) (pgs_cons (pg_name (i := 6) sc_sets_below.nd rfl (.inl rfl)) pgs_nil)))) pgs_nil))) (pss_cons (ps_set (i := 7) sc_sets_below.nd rfl (.inl rfl) (pe_op op_add (pe_ix (ix_listK K) (pv 1) (pe_op op_add (pv 3) pe_int) (fun _ _ => rfl)) pe_int))
      (pss_cons (ps_set (i := 8) sc_sets_below.nd rfl (.inl rfl) (pe_u c_spread hr (by first | decide | omega) (by rfl) (pa_cons (pe_ix (ix_listK K) (pv 2) (pv 5) (fun _ _ => rfl)) (pa_cons (pe_op op_sub (pe_ix (ix_listK K) (pv 1) (pv 5) (fun _ _ => rfl)) (pv 7)) pa_nil))))
      (pss_cons (ps_set (i := 9) sc_sets_below.nd rfl (.inl rfl) (pe_u c_spread hr (by first | decide | omega) (by rfl) (pa_cons (pe_ix (ix_listK K) (pv 2) (pv 6) (fun _ _ => rfl)) (pa_cons (pe_op op_sub (pe_ix (ix_listK K) (pv 1) (pv 6) (fun _ _ => rfl)) (pv 7)) pa_nil))))
      (pss_one (ps_expr (pe_bmK K PySem.F.plainAttrs_list PySem.F.slot_list_append PySem.F.type_list_append mt_append (pv 2) (pa_cons (pe_u c_sums hr (by first | decide | omega) (by rfl) (pa_cons (pe_op op_cat (pv 8) (pe_lst (pa_cons pe_int pa_nil))) (pa_cons (pe_op op_cat (pe_lst (pa_cons pe_int pa_nil)) (pv 9)) pa_nil))) pa_nil))))))))
      (pss_one (ps_ret (pv 2))))), ?_⟩
    refine ⟨by show 1 ≤ sizeLine; decide, fun A1 nA1 => ?_⟩
    have sA1 := same_upd nA1 (o := .lst [.int 0])
    have eA1 : (upd H A1 (.lst [.int 0])) A1 = some (.lst ((bel ws (.lf false)).map V.int)) := upd_same
    generalize upd H A1 (.lst [.int 0]) = H1 at sA1 eA1 ⊢
    refine ⟨by show 1 ≤ sizeLine; decide, fun A2 nA2 => ?_⟩
    have sA2 := same_upd nA2 (o := .lst [.int 1])
    have eA2 : (upd H1 A2 (.lst [.int 1])) A2 = some (.lst ((bel ws (.lf true)).map V.int)) := upd_same
    have eA12 := sA2 _ _ eA1
    generalize upd H1 A2 (.lst [.int 1]) = H2 at sA2 eA2 eA12 ⊢
    refine ⟨by show 2 ≤ sizeLine; decide, fun kn nkn => ?_⟩
    have sk := same_upd nkn (o := .lst [.ref A1, .ref A2])
    have s02 := sA1.trans sA2
    have nknH := s02.free nkn
    have h0 : BlL (upd H2 kn (.lst [.ref A1, .ref A2])) kn (bel ws) [.lf false, .lf true] := ⟨[A1, A2], upd_same, rfl, fun i b x h1 h2 => by
      match i, h1, h2 with
      | 0, h1, h2 =>
        cases h1
        cases h2
        exact ⟨ne_of_none eA12 nkn, sk _ _ eA12⟩
      | 1, h1, h2 =>
        cases h1
        cases h2
        exact ⟨ne_of_none eA2 nkn, sk _ _ eA2⟩
      | i + 2, h1, _ => simp at h1⟩
    have hnl2 := s02 _ _ hnl
    refine ⟨_, rfl, nl, xs, rfl, .of (sk _ _ hnl2), ?_⟩
    refine for_enumL (K := K) (a := nl) (xs := xs) (fun i σ Hi => Same H2 Hi ∧ BlL Hi kn (bel ws) (.lf false :: .lf true :: acc.take i) ∧ ∃ z3 z4 z5 z6 z7 z8 z9, σ = [some (.ref nl), some (.ref sl), some (.ref kn), z3, z4, z5, z6, z7, z8, z9]) ⟨sk, h0, _, _, _, _, _, _, _, rfl⟩ (fun i σ Hi _ hp => .of (hp.1 _ _ hnl2)) (fun i y T σ Hi hy hp nT => ?_) (fun σ Hn hp => ?_)
    · obtain ⟨si, hbl, z3, z4, z5, z6, z7, z8, z9, rfl⟩ := hp
      have hi : i < acc.length := by rw [← lxs]; exact (List.getElem?_eq_some_iff.mp hy).1
      obtain ⟨u, hu, hd⟩ := DpAll.get dxs (show (acc.map (rowD acc))[i]? = some (rowD acc acc[i]) by rw [List.getElem?_map, List.getElem?_eq_getElem hi]; rfl)
      obtain rfl : u = y := Option.some.inj (hu.symm.trans hy)
      obtain ⟨e, wt, tt', hei⟩ := hnds acc[i] (List.getElem_mem hi)
      have hwi : Wf es (.nd e wt tt') := by rw [← hei]; exact hwf acc[i] (List.getElem_mem hi)
      obtain ⟨k1, k2⟩ := hord i e wt tt' (by rw [List.getElem?_eq_getElem hi, hei])
      have pt := List.take_prefix i acc
      rw [hei] at hd
      have hd' : Dp K H u (.tuple [.int e, .int ((nmb (acc.take i) wt : Nat) : Int), .int ((nmb (acc.take i) tt' : Nat) : Int)]) := by
        rw [← nmb_pre pt k1, ← nmb_pre pt k2]
        exact hd
      obtain ⟨ra, rs, rfl, hrs, hra⟩ := dp_tup hd'
      have : rs = [.int e, .int ((nmb (acc.take i) wt : Nat) : Int), .int ((nmb (acc.take i) tt' : Nat) : Int)] := by
        cases hra with
        | cons g1 g2 =>
          cases g1
          cases g2 with
          | cons g3 g4 =>
            cases g3
            cases g4 with
            | cons g5 g6 =>
              cases g5
              cases g6
              rfl
      subst this
      have sT := same_upd nT (o := .tup [.int ((i : Nat) : Int), .ref ra])
      have eT : (upd Hi T (.tup [.int ((i : Nat) : Int), .ref ra])) T = some (.tup [.int ((i : Nat) : Int), .ref ra]) := upd_same
      generalize upd Hi T (.tup [.int ((i : Nat) : Int), .ref ra]) = Hj at sT eT ⊢
      have s0j := (s02.trans si).trans sT
      have hblj := hbl.ext sT
      refine ⟨T, _, rfl, .of eT, rfl, _, _, rfl, _, _, rfl, ra, _, rfl, SqT.ext s0j hrs, rfl, _, _, rfl, _, _, rfl, _, _, rfl, rfl, rfl, ?_⟩
      have hslj := s0j _ _ hsl
      have hee := sub e hwi.none_of
      have stg : ∀ {m : Nat} {b : Bd}, (Bd.lf false :: Bd.lf true :: acc)[m]? = some b → ((Bd.lf false :: Bd.lf true :: acc).map fun a => V.int ((pl ws a : Nat) : Int))[m]? = some (.int ((pl ws b : Nat) : Int)) := fun {m b} h => by rw [List.getElem?_map, h]; rfl
      refine ⟨_, rfl, _, rfl, _, _, rfl, rfl, sl, _, _, _, rfl, rfl, .of hslj, (show atI _ (((i + 2 : Nat) : Int)) = _ from atI_nat (stg (m := i + 2) (b := .nd e wt tt') (by show acc[i]? = _; rw [List.getElem?_eq_getElem hi, hei]))), _, _, rfl, rfl, ?_⟩
      obtain ⟨q1, q2⟩ := pl_lt hws hes sub hwi
      have hidx := List.idxOf_lt_length_of_mem hee
      have plb : ∀ b, pl ws b ≤ ws.length := fun b => by
        cases b with
        | lf _ => exact Nat.le_refl _
        | nd e w t => exact List.idxOf_le_length
      have full : ∀ {m : Nat} {b : Bd}, (Bd.lf false :: Bd.lf true :: acc.take i)[m]? = some b → (Bd.lf false :: Bd.lf true :: acc)[m]? = some b := fun {m b} h => by
        have hm := (List.getElem?_eq_some_iff.mp h).1
        rw [show (Bd.lf false :: Bd.lf true :: acc) = (Bd.lf false :: Bd.lf true :: acc.take i) ++ acc.drop i by rw [List.cons_append, List.cons_append, List.take_append_drop]]
        rw [List.getElem?_append_left hm]
        exact h
      have st1 : pl ws (.nd e wt tt') = ws.idxOf e := rfl
      rw [st1]
      obtain ⟨w1, w2⟩ := wf_kids hwi
      have bl1 := bel_len hws hes sub w1
      have bl2 := bel_len hws hes sub w2
      have cast : ∀ b, ws.idxOf e + 1 ≤ pl ws b → ((pl ws b : Nat) : Int) - (((ws.idxOf e : Nat) : Int) + 1) = ((pl ws b - (ws.idxOf e + 1) : Nat) : Int) := fun b h => by omega
      obtain ⟨as, b1, ekn, hb1, nb1, eb1⟩ := hblj.get (kw_get k1)
      obtain ⟨as', b2, ekn', hb2, nb2, eb2⟩ := hblj.get (kw_get k2)
      have eas : as' = as := by
        rw [ekn] at ekn'
        have := HO.lst.inj (Option.some.inj ekn')
        exact ((List.map_inj_right (fun _ _ h => V.ref.inj h)).mp this).symm
      subst eas
      refine ⟨_, rfl, _, rfl, kn, _, _, _, rfl, rfl, .of ekn, atI_nat (by rw [List.getElem?_map, hb1]; rfl), _, rfl, _, rfl, sl, _, _, _, rfl, rfl, .of hslj, atI_nat (stg (full (kw_get k1))), _, rfl, _, _, rfl, rfl, b1, bel ws wt, pl ws wt - (ws.idxOf e + 1), by show [V.ref b1, V.int (((pl ws wt : Nat) : Int) - (((ws.idxOf e : Nat) : Int) + 1))] = _; rw [cast _ q1], eb1, by omega, fun H5 r5 s5 _ e5 => ?_⟩
      refine ⟨_, rfl, _, rfl, kn, _, _, _, rfl, rfl, .of (s5 _ _ ekn), atI_nat (by rw [List.getElem?_map, hb2]; rfl), _, rfl, _, rfl, sl, _, _, _, rfl, rfl, .of (s5 _ _ hslj), atI_nat (stg (full (kw_get k2))), _, rfl, _, _, rfl, rfl, b2, bel ws tt', pl ws tt' - (ws.idxOf e + 1), by show [V.ref b2, V.int (((pl ws tt' : Nat) : Int) - (((ws.idxOf e : Nat) : Int) + 1))] = _; rw [cast _ q2], s5 _ _ eb2, by omega, fun H6 r6 s6 _ e6 => ?_⟩
      have l5 := sprL_len (bel ws wt) (pl ws wt - (ws.idxOf e + 1))
      have l6 := sprL_len (bel ws tt') (pl ws tt' - (ws.idxOf e + 1))
      have e56 := s6 _ _ e5
      have sj6 := s5.trans s6
      have ekn6 := sj6 _ _ ekn
      have hbl6 := hblj.ext sj6
      have ebel : bel ws (.nd e wt tt') = addL (sprL (bel ws wt) (pl ws wt - (ws.idxOf e + 1)) ++ [0]) (0 :: sprL (bel ws tt') (pl ws tt' - (ws.idxOf e + 1))) := rfl
      generalize sprL (bel ws wt) (pl ws wt - (ws.idxOf e + 1)) = L5 at e5 e56 l5 ebel
      generalize sprL (bel ws tt') (pl ws tt' - (ws.idxOf e + 1)) = L6 at e6 l6 ebel
      refine ⟨_, rfl, .inl ⟨rfl, _, .inl (.inl ekn6)⟩, ?_⟩
      refine ⟨_, rfl, by show 1 ≤ sizeLine; decide, fun p1 n1 => ?_⟩
      have s7 := same_upd n1 (o := .lst [.int 0])
      have e7 : (upd H6 p1 (.lst [.int 0])) p1 = some (.lst [.int 0]) := upd_same
      generalize upd H6 p1 (.lst [.int 0]) = H7 at s7 e7 ⊢
      refine ⟨r5, p1, _, _, rfl, rfl, s7 _ _ e56, e7, by rw [List.length_map]; exact Nat.le_trans (m := 1001) (by show _ + 1 ≤ _; omega) (by decide), fun p2 n2 => ?_⟩
      have s8 := same_upd n2 (o := .lst (L5.map V.int ++ [.int 0]))
      have e8 : (upd H7 p2 (.lst (L5.map V.int ++ [.int 0]))) p2 = some (.lst ((L5 ++ [0]).map V.int)) := by rw [upd_same, List.map_append]; rfl
      generalize upd H7 p2 (.lst (L5.map V.int ++ [.int 0])) = H8 at s8 e8 ⊢
      refine ⟨by show 1 ≤ sizeLine; decide, fun p3 n3 => ?_⟩
      have s9 := same_upd n3 (o := .lst [.int 0])
      have e9 : (upd H8 p3 (.lst [.int 0])) p3 = some (.lst [.int 0]) := upd_same
      generalize upd H8 p3 (.lst [.int 0]) = H9 at s9 e9 ⊢
      have s69 := (s7.trans s8).trans s9
      refine ⟨_, rfl, p3, r6, _, _, rfl, rfl, e9, s69 _ _ e6, by rw [List.length_map]; exact Nat.le_trans (m := 1001) (by show 1 + _ ≤ _; omega) (by decide), fun p4 n4 => ?_⟩
      have sA := same_upd n4 (o := .lst ([.int 0] ++ L6.map V.int))
      have eA : (upd H9 p4 (.lst ([.int 0] ++ L6.map V.int))) p4 = some (.lst ((0 :: L6).map V.int)) := upd_same
      generalize upd H9 p4 (.lst ([.int 0] ++ L6.map V.int)) = HA at sA eA ⊢
      refine ⟨p2, p4, L5 ++ [0], 0 :: L6, rfl, .of ((s9.trans sA) _ _ e8), .of eA, by rw [List.length_append, List.length_cons, List.length_cons, List.length_nil]; omega, by rw [List.length_append, List.length_cons, List.length_nil]; omega, fun HB rB sB nB eB => ?_⟩
      have s6B := (s69.trans sA).trans sB
      have sjB := sj6.trans s6B
      rw [← ebel] at eB
      have eknB := s6B _ _ ekn6
      have nBk : rB ≠ kn := fun z => by
        rw [z, (s69.trans sA) _ _ ekn6] at nB
        cases nB
      refine ⟨kn, _, _, rfl, rfl, eknB, ?_, fun b o hb => ?_, ?_, _, _, _, _, _, _, _, rfl⟩
      · obtain ⟨as2, g1, g2, _⟩ := hblj
        rw [ekn] at g1
        have := HO.lst.inj (Option.some.inj g1)
        rw [this, List.length_map, g2, List.length_cons, List.length_cons, List.length_take]
        exact Nat.lt_of_le_of_lt (m := 1002) (by omega) (by decide)
      · rw [upd_ne (ne_of_none hb nkn)]
        exact sjB _ _ (sT _ _ (si _ _ hb))
      · have etk : Bd.lf false :: Bd.lf true :: acc.take (i + 1) = (Bd.lf false :: Bd.lf true :: acc.take i) ++ [.nd e wt tt'] := by
          rw [List.take_add_one, List.getElem?_eq_getElem hi, hei]
          rfl
        rw [etk]
        exact BlL.snoc (hblj.ext sjB) eknB nBk eB
    · obtain ⟨sn, hbl, z3, z4, z5, z6, z7, z8, z9, rfl⟩ := hp
      rw [lxs, List.take_of_length_le (Nat.le_refl _)] at hbl
      exact ⟨_, rfl, q Hn kn (s02.trans sn) nknH hbl⟩
end

/-! ### shares: sums over sets of rows -/
def ssum : List Int → (List Int → Int) → Int
  | [], f => f []
  | m :: ms, f => ssum ms f + ssum ms fun S => f (m :: S)
theorem ssum_congr : ∀ (ms : List Int) {f g : List Int → Int}, (∀ S, S.Sublist ms → f S = g S) → ssum ms f = ssum ms g
  | [], _, _, h => h [] (List.Sublist.refl _)
  | m :: ms, f, g, h => by
    show ssum ms f + ssum ms _ = ssum ms g + ssum ms _
    rw [ssum_congr ms (f := f) (g := g) fun S hS => h S (.cons _ hS), ssum_congr ms (f := fun S => f (m :: S)) (g := fun S => g (m :: S)) fun S hS => h _ (.cons_cons _ hS)]
theorem ssum_add : ∀ (ms : List Int) (f g : List Int → Int), (ssum ms fun S => f S + g S) = ssum ms f + ssum ms g
  | [], _, _ => rfl
  | m :: ms, f, g => by
    show (ssum ms fun S => f S + g S) + (ssum ms fun S => f (m :: S) + g (m :: S)) = ssum ms f + (ssum ms fun S => f (m :: S)) + (ssum ms g + ssum ms fun S => g (m :: S))
    rw [ssum_add ms f g, ssum_add ms (fun S => f (m :: S)) fun S => g (m :: S)]
    omega
theorem ssum_zero : ∀ (ms : List Int), (ssum ms fun _ => 0) = 0
  | [] => rfl
  | m :: ms => by
    show (ssum ms fun _ => 0) + (ssum ms fun _ => 0) = 0
    rw [ssum_zero ms]
    rfl
theorem ssum_sub : ∀ (ms : List Int) (f g : List Int → Int), (ssum ms fun S => f S - g S) = ssum ms f - ssum ms g
  | [], _, _ => rfl
  | m :: ms, f, g => by
    show (ssum ms fun S => f S - g S) + (ssum ms fun S => f (m :: S) - g (m :: S)) = ssum ms f + (ssum ms fun S => f (m :: S)) - (ssum ms g + ssum ms fun S => g (m :: S))
    rw [ssum_sub ms f g, ssum_sub ms (fun S => f (m :: S)) fun S => g (m :: S)]
    omega
theorem ssum_snoc (m : Int) : ∀ (ms : List Int) (f : List Int → Int), ssum (ms ++ [m]) f = ssum ms f + ssum ms fun S => f (S ++ [m])
  | [], _ => rfl
  | x :: ms, f => by
    show ssum (ms ++ [m]) f + (ssum (ms ++ [m]) fun S => f (x :: S)) = ssum ms f + (ssum ms fun S => f (x :: S)) + ((ssum ms fun S => f (S ++ [m])) + ssum ms fun S => f (x :: S ++ [m]))
    rw [ssum_snoc m ms f, ssum_snoc m ms fun S => f (x :: S)]
    have : (ssum ms fun S => f (x :: S ++ [m])) = ssum ms fun S => f (x :: (S ++ [m])) := rfl
    omega
/-- a list's numbers times what h tells of their places from s on -/
def pr (h : Nat → Int) : List Int → Nat → Int
  | [], _ => 0
  | x :: xs, s => x * h s + pr h xs (s + 1)
theorem pr_addL (h : Nat → Int) : ∀ (xs ys : List Int) (s : Nat), xs.length = ys.length → pr h (addL xs ys) s = pr h xs s + pr h ys s
  | [], [], _, _ => rfl
  | x :: xs, y :: ys, s, e => by
    show (x + y) * h s + pr h (addL xs ys) (s + 1) = x * h s + pr h xs (s + 1) + (y * h s + pr h ys (s + 1))
    rw [pr_addL h xs ys (s + 1) (by simpa using e), Int.add_mul]
    omega
theorem pr_snoc0 (h : Nat → Int) : ∀ (xs : List Int) (s : Nat), pr h (xs ++ [0]) s = pr h xs s
  | [], s => by show 0 * h s + 0 = 0; rw [Int.zero_mul]; rfl
  | x :: xs, s => by
    show x * h s + pr h (xs ++ [0]) (s + 1) = _
    rw [pr_snoc0 h xs (s + 1)]
    rfl
theorem pr_cons0 (h : Nat → Int) (xs : List Int) (s : Nat) : pr h (0 :: xs) s = pr h xs (s + 1) := by
  show 0 * h s + _ = _
  rw [Int.zero_mul, Int.zero_add]
theorem pr_shift (h : Nat → Int) : ∀ (xs : List Int) (s : Nat), pr h xs (s + 1) = pr (fun k => h (k + 1)) xs s
  | [], _ => rfl
  | x :: xs, s => by
    show x * h (s + 1) + pr h xs (s + 1 + 1) = x * h (s + 1) + _
    rw [pr_shift h xs (s + 1)]
theorem pr_add (h h' : Nat → Int) : ∀ (xs : List Int) (s : Nat), pr (fun k => h k + h' k) xs s = pr h xs s + pr h' xs s
  | [], _ => rfl
  | x :: xs, s => by
    show x * (h s + h' s) + pr (fun k => h k + h' k) xs (s + 1) = x * h s + pr h xs (s + 1) + (x * h' s + pr h' xs (s + 1))
    rw [pr_add h h' xs (s + 1), Int.mul_add]
    omega
theorem pr_congr {h h' : Nat → Int} : ∀ (xs : List Int) (s : Nat), (∀ k, s ≤ k → k < s + xs.length → h k = h' k) → pr h xs s = pr h' xs s
  | [], _, _ => rfl
  | x :: xs, s, e => by
    show x * h s + pr h xs (s + 1) = x * h' s + pr h' xs (s + 1)
    rw [pr_congr xs (s + 1) fun k h1 h2 => e k (by omega) (by rw [List.length_cons]; omega), e s (Nat.le_refl _) (by rw [List.length_cons]; omega)]
theorem pr_zero : ∀ (xs : List Int) (s : Nat), pr (fun _ => 0) xs s = 0
  | [], _ => rfl
  | x :: xs, s => by
    show x * 0 + pr _ xs (s + 1) = 0
    rw [pr_zero xs, Int.mul_zero]
    rfl
def spr1 (xs : List Int) : List Int := addL (xs ++ [0]) (0 :: xs)
theorem spr1_len (xs : List Int) : (spr1 xs).length = xs.length + 1 := by
  unfold spr1
  rw [addL_len (by simp), List.length_append]
  rfl
theorem pr_spr1 (h : Nat → Int) (xs : List Int) (s : Nat) : pr h (spr1 xs) s = pr h xs s + pr h xs (s + 1) := by
  unfold spr1
  rw [pr_addL _ _ _ _ (by simp), pr_snoc0, pr_cons0]
theorem sprL_in (xs : List Int) : ∀ n, sprL xs (n + 1) = sprL (spr1 xs) n
  | 0 => rfl
  | n + 1 => by
    show spr1 (sprL xs (n + 1)) = spr1 (sprL (spr1 xs) n)
    rw [sprL_in xs n]
/-- by size: the numbers that g gives to the sets of the rows -/
def Rep (rs : List Int) (g : List Int → Int) (xs : List Int) : Prop := xs.length = rs.length + 1 ∧ ∀ (o : Nat → Int) (s : Nat), pr o xs s = ssum rs fun S => o (s + S.length) * g S
theorem rep_free {f : Int} {rs xs : List Int} {g : List Int → Int} (h : Rep rs g xs) (hf : ∀ S, g (f :: S) = g S) : Rep (f :: rs) g (spr1 xs) := by
  refine ⟨by rw [spr1_len, h.1]; rfl, fun o s => ?_⟩
  rw [pr_spr1, h.2, h.2]
  show _ = (ssum rs fun S => o (s + S.length) * g S) + ssum rs fun S => o (s + (S.length + 1)) * g (f :: S)
  congr 1
  refine ssum_congr rs fun S _ => ?_
  rw [hf, show s + 1 + S.length = s + (S.length + 1) by omega]
theorem rep_node {e : Int} {rs xs ys : List Int} {g g1 g2 : List Int → Int} (h1 : Rep rs g1 xs) (h2 : Rep rs g2 ys) (e1 : ∀ S, S.Sublist rs → g S = g1 S) (e2 : ∀ S, S.Sublist rs → g (e :: S) = g2 S) : Rep (e :: rs) g (addL (xs ++ [0]) (0 :: ys)) := by
  have l : (xs ++ [0]).length = ((0 : Int) :: ys).length := by simp [h1.1, h2.1]
  refine ⟨by rw [addL_len l, List.length_append, h1.1]; rfl, fun o s => ?_⟩
  rw [pr_addL _ _ _ _ l, pr_snoc0, pr_cons0, h1.2, h2.2]
  show _ = (ssum rs fun S => o (s + S.length) * g S) + ssum rs fun S => o (s + (S.length + 1)) * g (e :: S)
  congr 1
  · exact ssum_congr rs fun S hS => by rw [e1 S hS]
  · exact ssum_congr rs fun S hS => by rw [e2 S hS, show s + 1 + S.length = s + (S.length + 1) by omega]
theorem rep_spr {rs xs : List Int} {g : List Int → Int} (h : Rep rs g xs) : ∀ (fs : List Int), (∀ f ∈ fs, ∀ S, g (f :: S) = g S) → Rep (fs ++ rs) g (sprL xs fs.length)
  | [], _ => h
  | f :: fs, hf => rep_free (rep_spr h fs fun x hx => hf x (List.mem_cons_of_mem _ hx)) (hf f List.mem_cons_self)
def subL (xs ys : List Int) : List Int := List.zipWith (· - ·) xs ys
theorem pr_subL (h : Nat → Int) : ∀ (xs ys : List Int) (s : Nat), xs.length = ys.length → pr h (subL xs ys) s = pr h xs s - pr h ys s
  | [], [], _, _ => rfl
  | x :: xs, y :: ys, s, e => by
    show (x - y) * h s + pr h (subL xs ys) (s + 1) = x * h s + pr h xs (s + 1) - (y * h s + pr h ys (s + 1))
    rw [pr_subL h xs ys (s + 1) (by simpa using e), Int.sub_mul]
    omega
theorem rep_sub {rs xs ys : List Int} {g g' : List Int → Int} (h : Rep rs g xs) (h' : Rep rs g' ys) : Rep rs (fun S => g S - g' S) (subL xs ys) := by
  refine ⟨by unfold subL; rw [List.length_zipWith, h.1, h'.1, Nat.min_self], fun o s => ?_⟩
  rw [pr_subL _ _ _ _ (by rw [h.1, h'.1]), h.2, h'.2, ← ssum_sub]
  exact ssum_congr rs fun S _ => by rw [Int.mul_sub]
/-- what the row e adds, over the sets of the other rows -/
def DD (o : Nat → Int) (e : Int) : (List Int → Int) → List Int → Nat → Int
  | _, [], _ => 0
  | g, r :: rs, s => if r = e then ssum rs fun S => o (s + S.length) * (g (e :: S) - g S) else DD o e g rs s + DD o e (fun S => g (r :: S)) rs (s + 1)
theorem DD_none {o : Nat → Int} {e : Int} : ∀ {rs : List Int} {g : List Int → Int} {s : Nat}, e ∉ rs → DD o e g rs s = 0
  | [], _, _, _ => rfl
  | r :: rs, g, s, h => by
    rw [List.mem_cons, not_or] at h
    show (if r = e then _ else _) = _
    rw [if_neg (Ne.symm h.1), DD_none h.2, DD_none h.2]
    rfl
theorem DD_congr {o : Nat → Int} {e : Int} : ∀ {rs : List Int} {g g' : List Int → Int} {s : Nat}, (∀ S, S.Sublist rs → g S = g' S) → DD o e g rs s = DD o e g' rs s
  | [], _, _, _, _ => rfl
  | r :: rs, g, g', s, h => by
    show (if r = e then _ else _) = if r = e then _ else _
    by_cases he : r = e
    · rw [if_pos he, if_pos he]
      subst he
      exact ssum_congr rs fun S hS => by rw [h S (.cons _ hS), h _ (.cons_cons _ hS)]
    · rw [if_neg he, if_neg he, DD_congr (g := g) (g' := g') fun S hS => h S (.cons _ hS), DD_congr (g := fun S => g (r :: S)) (g' := fun S => g' (r :: S)) fun S hS => h _ (.cons_cons _ hS)]
theorem DD_free {o : Nat → Int} {e r : Int} {rs : List Int} {g : List Int → Int} {s : Nat} (hn : (r :: rs).Nodup) (hf : ∀ S, g (r :: S) = g S) : DD o e g (r :: rs) s = DD o e g rs s + DD o e g rs (s + 1) := by
  rw [List.nodup_cons] at hn
  show (if r = e then _ else _) = _
  by_cases he : r = e
  · subst he
    rw [if_pos rfl, DD_none hn.1, DD_none hn.1]
    rw [ssum_congr rs (g := fun _ => 0) fun S _ => by rw [hf, Int.sub_self, Int.mul_zero], ssum_zero]
    rfl
  · rw [if_neg he, show (fun S => g (r :: S)) = g from funext hf]
theorem pr_DD {o : Nat → Int} {e : Int} {rs : List Int} {g : List Int → Int} : ∀ (fs xs : List Int), (fs ++ rs).Nodup → (∀ f ∈ fs, ∀ S, g (f :: S) = g S) → pr (DD o e g rs) (sprL xs fs.length) 0 = pr (DD o e g (fs ++ rs)) xs 0
  | [], _, _, _ => rfl
  | f :: fs, xs, hn, hf => by
    have hn' := (List.nodup_cons.mp hn).2
    show pr _ (sprL xs (fs.length + 1)) 0 = _
    rw [sprL_in, pr_DD fs (spr1 xs) hn' fun x hx => hf x (List.mem_cons_of_mem _ hx), pr_spr1, pr_shift, ← pr_add]
    exact pr_congr xs 0 fun k _ _ => (DD_free hn (hf f List.mem_cons_self)).symm
theorem DD_node {o : Nat → Int} {e r : Int} {rs : List Int} {g g1 g2 : List Int → Int} {s : Nat} (hr : r ≠ e) (e1 : ∀ S, S.Sublist rs → g S = g1 S) (e2 : ∀ S, S.Sublist rs → g (r :: S) = g2 S) : DD o e g (r :: rs) s = DD o e g1 rs s + DD o e g2 rs (s + 1) := by
  show (if r = e then _ else _) = _
  rw [if_neg hr, DD_congr e1, DD_congr e2]
/-- the sets apart from e, at once -/
theorem DD_sum {o : Nat → Int} {e : Int} : ∀ {rs : List Int} {g : List Int → Int} {s : Nat}, e ∈ rs → (∀ S S', S.Perm S' → g S = g S') → DD o e g rs s = ssum (rs.erase e) fun S => o (s + S.length) * (g (S ++ [e]) - g S)
  | [], _, _, h, _ => by cases h
  | r :: rs, g, s, h, hp => by
    show (if r = e then _ else _) = _
    by_cases he : r = e
    · subst he
      rw [if_pos rfl, List.erase_cons_head]
      exact ssum_congr rs fun S _ => by rw [hp _ _ (List.perm_append_singleton r S)]
    · have h' : e ∈ rs := by rcases List.mem_cons.mp h with h | h; exact absurd h.symm he; exact h
      rw [if_neg he, List.erase_cons_tail (by simpa using he), DD_sum h' hp, DD_sum h' fun S S' hS => hp _ _ (hS.cons r)]
      show _ = (ssum (rs.erase e) fun S => o (s + S.length) * (g (S ++ [e]) - g S)) + ssum (rs.erase e) fun S => o (s + (S.length + 1)) * (g (r :: S ++ [e]) - g (r :: S))
      congr 1
      exact ssum_congr _ fun S _ => by rw [show s + 1 + S.length = s + (S.length + 1) by omega]; rfl

/-! ### shares: all orders of rows, a row put in at every place -/
def insA (m : Int) : List Int → List (List Int)
  | [] => [[m]]
  | x :: q => (m :: x :: q) :: (insA m q).map (x :: ·)
def ords (ms : List Int) : List (List Int) := ms.foldl (fun fs m => fs.flatMap (insA m)) [[]]
theorem ords_snoc (ms : List Int) (m : Int) : ords (ms ++ [m]) = (ords ms).flatMap (insA m) := by
  unfold ords
  rw [List.foldl_append]
  rfl
theorem insA_len (m : Int) : ∀ q : List Int, (insA m q).length = q.length + 1
  | [] => rfl
  | x :: q => by
    show ((insA m q).map _).length + 1 = _
    rw [List.length_map, insA_len m q]
    rfl
theorem insA_perm (m : Int) : ∀ (q q' : List Int), q' ∈ insA m q → q'.Perm (m :: q)
  | [], q', h => by rw [List.mem_singleton.mp h]
  | x :: q, q', h => by
    rcases List.mem_cons.mp h with rfl | h
    · exact List.Perm.refl _
    · obtain ⟨q2, h2, rfl⟩ := List.mem_map.mp h
      exact ((insA_perm m q q2 h2).cons x).trans (List.Perm.swap m x q)
theorem rev_ind {α : Type} {P : List α → Prop} (h0 : P []) (hs : ∀ l a, P l → P (l ++ [a])) : ∀ l, P l := by
  have : ∀ n (l : List α), l.length = n → P l := by
    intro n
    induction n with
    | zero => intro l hl; rw [List.eq_nil_of_length_eq_zero hl]; exact h0
    | succ n ih =>
      intro l hl
      have hne : l ≠ [] := by intro z; rw [z] at hl; cases hl
      rw [← List.dropLast_concat_getLast hne]
      exact hs _ _ (ih _ (by rw [List.length_dropLast, hl]; rfl))
  exact fun l => this _ l rfl
theorem ords_perm : ∀ (ms q : List Int), q ∈ ords ms → q.Perm ms := fun ms => by
  refine rev_ind (P := fun ms => ∀ q, q ∈ ords ms → q.Perm ms) ?_ ?_ ms
  · intro q h
    rw [List.mem_singleton.mp h]
  · intro ms m ih q h
    rw [ords_snoc] at h
    obtain ⟨q', h1, h2⟩ := List.mem_flatMap.mp h
    exact ((insA_perm m q' q h2).trans ((ih q' h1).cons m)).trans (List.perm_append_singleton m ms).symm
def osum (os : List (List Int)) (F : List Int → Int) : Int := (os.map F).sum
theorem osum_cons (q : List Int) (os : List (List Int)) (F : List Int → Int) : osum (q :: os) F = F q + osum os F := rfl
theorem osum_app (F : List Int → Int) : ∀ (a b : List (List Int)), osum (a ++ b) F = osum a F + osum b F
  | [], b => by show osum b F = 0 + osum b F; omega
  | q :: a, b => by
    show F q + osum (a ++ b) F = F q + osum a F + osum b F
    rw [osum_app F a b]
    omega
theorem osum_flat (G : List Int → List (List Int)) (F : List Int → Int) : ∀ (os : List (List Int)), osum (os.flatMap G) F = osum os fun q => osum (G q) F
  | [] => rfl
  | q :: os => by
    rw [List.flatMap_cons, osum_app, osum_flat G F os]
    rfl
theorem osum_congr {F G : List Int → Int} : ∀ (os : List (List Int)), (∀ q ∈ os, F q = G q) → osum os F = osum os G
  | [], _ => rfl
  | q :: os, h => by
    rw [osum_cons, osum_cons, h q List.mem_cons_self, osum_congr os fun x hx => h x (List.mem_cons_of_mem _ hx)]
theorem osum_map (x : Int) (F : List Int → Int) : ∀ (os : List (List Int)), osum (os.map (x :: ·)) F = osum os fun q => F (x :: q)
  | [] => rfl
  | q :: os => by
    show F (x :: q) + osum (os.map (x :: ·)) F = _
    rw [osum_map x F os]
    rfl
theorem osum_const (c : Int) : ∀ (os : List (List Int)), (osum os fun _ => c) = (os.length : Int) * c
  | [] => by show 0 = _; rw [List.length_nil]; omega
  | q :: os => by
    rw [osum_cons, osum_const c os, List.length_cons]
    grind
theorem osum_add (F G : List Int → Int) : ∀ (os : List (List Int)), (osum os fun q => F q + G q) = osum os F + osum os G
  | [] => rfl
  | q :: os => by
    rw [osum_cons, osum_cons, osum_cons, osum_add F G os]
    omega
def bef (e : Int) (q : List Int) : List Int := q.take (q.idxOf e)
theorem bef_head (e : Int) (q : List Int) : bef e (e :: q) = [] := by
  unfold bef
  rw [List.idxOf_cons_self]
  rfl
theorem bef_tail {e x : Int} (h : x ≠ e) (q : List Int) : bef e (x :: q) = x :: bef e q := by
  unfold bef
  rw [List.idxOf_cons, show (x == e) = false by simpa using h]
  rfl
def PInv (f : List Int → Int) : Prop := ∀ S S' : List Int, S.Perm S' → f S = f S'
theorem ins_bef {m e : Int} (hm : m ≠ e) : ∀ (q : List Int) (f : List Int → Int), PInv f → e ∈ q → osum (insA m q) (fun q' => f (bef e q')) = ((bef e q).length + 1) * f (m :: bef e q) + ((q.length : Int) - (bef e q).length) * f (bef e q)
  | [], _, _, h => by cases h
  | x :: q, f, hf, h => by
    show osum ((m :: x :: q) :: (insA m q).map (x :: ·)) _ = _
    rw [osum_cons, osum_map, bef_tail hm]
    by_cases hx : x = e
    · subst hx
      rw [bef_head, osum_congr (G := fun _ => f []) _ fun q' _ => by rw [bef_head], osum_const, insA_len]
      rw [List.length_nil, List.length_cons]
      grind
    · have h' : e ∈ q := by rcases List.mem_cons.mp h with h | h; exact absurd h.symm hx; exact h
      rw [bef_tail hx, osum_congr (G := fun q' => f (x :: bef e q')) _ fun q' _ => by rw [bef_tail hx], ins_bef hm q (fun S => f (x :: S)) (fun S S' hS => hf _ _ (hS.cons x)) h']
      rw [hf (x :: m :: bef e q) (m :: x :: bef e q) (List.Perm.swap m x _)]
      rw [List.length_cons, List.length_cons]
      generalize f (m :: x :: bef e q) = a
      generalize f (x :: bef e q) = b
      grind
/-- over all beginnings of a list -/
def tk (f : List Int → Int) : List Int → Int
  | [] => f []
  | x :: q => f [] + tk (fun S => f (x :: S)) q
theorem tk_congr : ∀ (q : List Int) {f g : List Int → Int}, (∀ S, f S = g S) → tk f q = tk g q
  | [], _, _, h => h []
  | x :: q, f, g, h => by
    show f [] + tk _ q = g [] + tk _ q
    rw [h [], tk_congr q fun S => h (x :: S)]
theorem tk_add : ∀ (q : List Int) (f g : List Int → Int), tk (fun S => f S + g S) q = tk f q + tk g q
  | [], _, _ => rfl
  | x :: q, f, g => by
    show f [] + g [] + tk _ q = f [] + tk _ q + (g [] + tk _ q)
    rw [tk_add q (fun S => f (x :: S)) fun S => g (x :: S)]
    omega
theorem ins_self {m : Int} : ∀ (q : List Int) (f : List Int → Int), m ∉ q → osum (insA m q) (fun q' => f (bef m q')) = tk f q
  | [], f, _ => by
    show f (bef m [m]) + 0 = _
    rw [bef_head]
    exact Int.add_zero _
  | x :: q, f, h => by
    rw [List.mem_cons, not_or] at h
    show osum ((m :: x :: q) :: (insA m q).map (x :: ·)) _ = _
    rw [osum_cons, osum_map, bef_head, osum_congr (G := fun q' => f (x :: bef m q')) _ fun q' _ => by rw [bef_tail (Ne.symm h.1)], ins_self q (fun S => f (x :: S)) h.2]
    rfl
theorem ins_tk {m : Int} : ∀ (q : List Int) (f : List Int → Int), PInv f → osum (insA m q) (tk f) = tk (fun S => ((q.length : Int) + 1 - S.length) * f S + ((S.length : Int) + 1) * f (m :: S)) q
  | [], f, _ => by
    show f [] + f [m] + 0 = _
    show _ = ((0 : Nat) + 1 - ((0 : Nat) : Int)) * f [] + (((0 : Nat) : Int) + 1) * f [m]
    grind
  | x :: q, f, hf => by
    show osum ((m :: x :: q) :: (insA m q).map (x :: ·)) _ = _
    rw [osum_cons, osum_map, show (osum (insA m q) fun q => tk f (x :: q)) = osum (insA m q) (fun q' => (fun _ => f []) q' + (tk fun S => f (x :: S)) q') from rfl, osum_add (fun _ => f []) (tk fun S => f (x :: S)), osum_const, insA_len, ins_tk q (fun S => f (x :: S)) fun S S' hS => hf _ _ (hS.cons x)]
    show f [] + (f [m] + tk (fun S => f (m :: x :: S)) q) + _ = ((x :: q).length + 1 - (([] : List Int).length : Int)) * f [] + ((([] : List Int).length : Int) + 1) * f [m] + tk (fun S => (((x :: q).length : Int) + 1 - (x :: S).length) * f (x :: S) + (((x :: S).length : Int) + 1) * f (m :: x :: S)) q
    have e : tk (fun S => (((x :: q).length : Int) + 1 - (x :: S).length) * f (x :: S) + (((x :: S).length : Int) + 1) * f (m :: x :: S)) q = tk (fun S => ((q.length : Int) + 1 - S.length) * f (x :: S) + ((S.length : Int) + 1) * f (x :: m :: S)) q + tk (fun S => f (m :: x :: S)) q := by
      rw [← tk_add]
      refine tk_congr q fun S => ?_
      rw [hf (x :: m :: S) (m :: x :: S) (List.Perm.swap m x S), List.length_cons, List.length_cons]
      generalize f (x :: S) = a
      generalize f (m :: x :: S) = b
      grind
    rw [e, List.length_cons, List.length_nil]
    generalize tk _ q = a
    generalize tk _ q = b
    grind
def fac : Nat → Nat
  | 0 => 1
  | n + 1 => (n + 1) * fac n
theorem tk_sum : ∀ (ms : List Int) (f : List Int → Int), PInv f → osum (ords ms) (tk f) = ssum ms fun S => (fac S.length : Int) * (fac (ms.length - S.length) : Int) * f S := fun ms => by
  refine rev_ind (P := fun ms => ∀ f : List Int → Int, PInv f → osum (ords ms) (tk f) = ssum ms fun S => (fac S.length : Int) * (fac (ms.length - S.length) : Int) * f S) ?_ ?_ ms
  · intro f _
    show f [] + 0 = ((1 : Nat) : Int) * ((1 : Nat) : Int) * f []
    grind
  · intro ms m ih f hf
    rw [ords_snoc, osum_flat, osum_congr (G := tk fun S => ((ms.length : Int) + 1 - S.length) * f S + ((S.length : Int) + 1) * f (m :: S)) _ fun q hq => by rw [ins_tk q f hf, (ords_perm ms q hq).length_eq]]
    rw [ih _ fun S S' hS => by rw [hf S S' hS, hf (m :: S) (m :: S') (hS.cons m), hS.length_eq], ssum_snoc, ← ssum_add]
    refine ssum_congr ms fun S hS => ?_
    have hl := hS.length_le
    rw [hf (S ++ [m]) (m :: S) (List.perm_append_singleton m S), List.length_append, List.length_append, List.length_singleton]
    obtain ⟨d, hd⟩ : ∃ d, ms.length = S.length + d := ⟨ms.length - S.length, by omega⟩
    rw [hd, show S.length + d - S.length = d by omega, show S.length + d + 1 - S.length = d + 1 by omega, show S.length + d + 1 - (S.length + 1) = d by omega]
    show _ = (fac S.length : Int) * (((d + 1) * fac d : Nat) : Int) * f S + (((S.length + 1) * fac S.length : Nat) : Int) * (fac d : Int) * f (m :: S)
    generalize f S = a
    generalize f (m :: S) = b
    generalize fac S.length = u
    generalize fac d = v
    generalize S.length = k
    grind
/-- over all orders: what comes before a row -/
theorem bef_sum (e : Int) : ∀ (ms : List Int) (f : List Int → Int), PInv f → ms.Nodup → e ∈ ms → osum (ords ms) (fun q => f (bef e q)) = ssum (ms.erase e) fun S => (fac S.length : Int) * (fac (ms.length - 1 - S.length) : Int) * f S := fun ms => by
  refine rev_ind (P := fun ms => ∀ f : List Int → Int, PInv f → ms.Nodup → e ∈ ms → osum (ords ms) (fun q => f (bef e q)) = ssum (ms.erase e) fun S => (fac S.length : Int) * (fac (ms.length - 1 - S.length) : Int) * f S) ?_ ?_ ms
  · intro f _ _ h
    cases h
  · intro ms m ih f hf hn he
    have hn2 := List.nodup_append.mp hn
    have hm : m ∉ ms := fun z => hn2.2.2 m z m (List.mem_singleton.mpr rfl) rfl
    rw [ords_snoc, osum_flat]
    by_cases hme : m = e
    · subst hme
      rw [osum_congr (G := tk f) _ fun q hq => ins_self q f fun z => hm ((ords_perm ms q hq).mem_iff.mp z), tk_sum ms f hf]
      rw [List.erase_append_right _ hm, List.erase_cons_head, List.append_nil, List.length_append, List.length_singleton, Nat.add_sub_cancel]
    · have he' : e ∈ ms := by
        rcases List.mem_append.mp he with h | h
        · exact h
        · exact absurd (List.mem_singleton.mp h).symm hme
      rw [osum_congr (G := fun q => (fun S : List Int => ((S.length : Int) + 1) * f (m :: S) + ((ms.length : Int) - S.length) * f S) (bef e q)) _ fun q hq => by
        rw [ins_bef hme q f hf ((ords_perm ms q hq).mem_iff.mpr he'), (ords_perm ms q hq).length_eq]]
      rw [ih (fun S : List Int => ((S.length : Int) + 1) * f (m :: S) + ((ms.length : Int) - S.length) * f S) (fun S S' hS => by dsimp only; rw [hf S S' hS, hf (m :: S) (m :: S') (hS.cons m), hS.length_eq]) hn2.1 he', List.erase_append_left _ he', ssum_snoc, ← ssum_add]
      refine ssum_congr _ fun S hS => ?_
      have hl := hS.length_le
      rw [List.length_erase_of_mem he'] at hl
      have h0 : 0 < ms.length := List.length_pos_of_mem he'
      rw [hf (S ++ [m]) (m :: S) (List.perm_append_singleton m S), List.length_append, List.length_append, List.length_singleton]
      obtain ⟨d, hd⟩ : ∃ d, ms.length = S.length + d + 1 := ⟨ms.length - 1 - S.length, by omega⟩
      rw [hd, show S.length + d + 1 - 1 - S.length = d by omega, show S.length + d + 1 + 1 - 1 - S.length = d + 1 by omega, show S.length + d + 1 + 1 - 1 - (S.length + 1) = d by omega]
      show _ = (fac S.length : Int) * (((d + 1) * fac d : Nat) : Int) * f S + (((S.length + 1) * fac S.length : Nat) : Int) * (fac d : Int) * f (m :: S)
      generalize f S = a
      generalize f (m :: S) = b
      generalize fac S.length = u
      generalize fac d = v
      generalize S.length = k
      grind
theorem ords_len (ms : List Int) : (ords ms).length = fac ms.length := by
  refine rev_ind (P := fun ms => (ords ms).length = fac ms.length) rfl ?_ ms
  intro ms m ih
  rw [ords_snoc, List.length_flatMap, List.length_append, List.length_singleton]
  show _ = (ms.length + 1) * fac ms.length
  rw [← ih]
  have : ∀ os : List (List Int), (∀ q ∈ os, q.length = ms.length) → (os.map fun q => (insA m q).length).sum = (ms.length + 1) * os.length := by
    intro os
    induction os with
    | nil => intro _; rfl
    | cons q os ih2 =>
      intro h
      rw [List.map_cons, List.sum_cons, ih2 fun x hx => h x (List.mem_cons_of_mem _ hx), insA_len, h q List.mem_cons_self, List.length_cons, Nat.mul_succ, Nat.add_comm]
  exact this _ fun q hq => (ords_perm ms q hq).length_eq

/-! ### shares: what diagrams give to sets of rows -/
def evP (a : Bd) (p : List Int) : Bool := a.ev fun x => decide (x ∈ p)
def vl (a : Bd) (S : List Int) : Int := if evP a S = true then 1 else 0
theorem vl_perm (a : Bd) : PInv (vl a) := fun S S' h => by
  have : (fun x => decide (x ∈ S)) = fun x => decide (x ∈ S') := funext fun x => by
    by_cases hx : x ∈ S
    · rw [decide_eq_true hx, decide_eq_true (h.mem_iff.mp hx)]
    · rw [decide_eq_false hx, decide_eq_false fun z => hx (h.mem_iff.mpr z)]
  unfold vl evP
  rw [this]
theorem vl_free {es : List Int} {a : Bd} {f : Int} (h : Wf es a) (hf : f ∉ es) (S : List Int) : vl a (f :: S) = vl a S := by
  have : (fun x => decide (x ∈ f :: S)) = setR (fun x => decide (x ∈ S)) f true := funext fun x => by
    unfold setR
    by_cases hx : x = f
    · rw [if_pos hx, decide_eq_true (by rw [hx]; exact List.mem_cons_self)]
    · rw [if_neg hx]
      show _ = decide (x ∈ S)
      by_cases hs : x ∈ S
      · rw [decide_eq_true hs, decide_eq_true (List.mem_cons_of_mem _ hs)]
      · rw [decide_eq_false hs, decide_eq_false fun z => hs ((List.mem_cons.mp z).resolve_left hx)]
  unfold vl evP
  rw [this, h.away hf]
theorem pl_free {ws es : List Int} (hs : ws.Pairwise (· < ·)) (he : es.Pairwise (· < ·)) (sub : ∀ x ∈ es, x ∈ ws) {a : Bd} (h : Wf es a) {f : Int} (hf : f ∈ ws.take (pl ws a)) (S : List Int) : vl a (f :: S) = vl a S := by
  cases a with
  | lf b => rfl
  | nd e w t =>
    have hm := sub e h.none_of
    have hi := List.idxOf_lt_length_of_mem hm
    obtain ⟨pre, po, rfl, h1, h2, h3⟩ := wf_nd h
    have hfe : f < e := by
      obtain ⟨i, h4, h5⟩ := List.mem_iff_getElem.mp hf
      rw [List.length_take] at h4
      rw [List.getElem_take] at h5
      have h6 := (List.pairwise_iff_getElem.mp hs) i (ws.idxOf e) (by omega) hi (by show i < pl ws (.nd e w t); omega)
      rw [List.getElem_idxOf, h5] at h6
      exact h6
    rw [List.pairwise_append] at he
    have hp := (List.pairwise_cons.mp he.2.1).1
    refine vl_free (Wf.here h1 h2 h3) (fun z => ?_) S
    rcases List.mem_cons.mp z with z | z
    · omega
    · have := hp f z
      omega
theorem drop_split {ws : List Int} {p q : Nat} (h : p ≤ q) (hq : q ≤ ws.length) : ∃ fs : List Int, ws.drop p = fs ++ ws.drop q ∧ fs.length = q - p ∧ ∀ f ∈ fs, f ∈ ws.take q := by
  refine ⟨(ws.take q).drop p, ?_, ?_, fun f hf => List.mem_of_mem_drop hf⟩
  · have := List.take_append_drop (q - p) (ws.drop p)
    rw [List.drop_drop, show p + (q - p) = q by omega] at this
    rw [List.drop_take]
    exact this.symm
  · rw [List.length_drop, List.length_take]
    omega
theorem pl_le (ws : List Int) : ∀ a, pl ws a ≤ ws.length
  | .lf _ => Nat.le_refl _
  | .nd _ _ _ => List.idxOf_le_length
/-- a part's sets behind the row e -/
theorem part_rep {ws es : List Int} (hs : ws.Pairwise (· < ·)) (he : es.Pairwise (· < ·)) (sub : ∀ x ∈ es, x ∈ ws) {a : Bd} (h : Wf es a) {xs : List Int} (r : Rep (ws.drop (pl ws a)) (vl a) xs) {p : Nat} (hp : p ≤ pl ws a) : Rep (ws.drop p) (vl a) (sprL xs (pl ws a - p)) := by
  obtain ⟨fs, e1, e2, e3⟩ := drop_split hp (pl_le ws a)
  rw [e1, ← e2]
  exact rep_spr r fs fun f hf S => pl_free hs he sub h (e3 f hf) S
theorem nd_kids {ws es : List Int} (hs : ws.Pairwise (· < ·)) (he : es.Pairwise (· < ·)) (sub : ∀ x ∈ es, x ∈ ws) {e : Int} {w t : Bd} (h : Wf es (.nd e w t)) : (∀ S, S.Sublist (ws.drop (ws.idxOf e + 1)) → vl (.nd e w t) S = vl w S) ∧ (∀ S, S.Sublist (ws.drop (ws.idxOf e + 1)) → vl (.nd e w t) (e :: S) = vl t S) ∧ ws.drop (ws.idxOf e) = e :: ws.drop (ws.idxOf e + 1) ∧ e ∉ ws.drop (ws.idxOf e + 1) := by
  have hm := sub e h.none_of
  have hi := List.idxOf_lt_length_of_mem hm
  obtain ⟨p1, p2⟩ := pl_lt hs he sub h
  obtain ⟨w1, w2⟩ := wf_kids h
  have e0 : ws.drop (ws.idxOf e) = e :: ws.drop (ws.idxOf e + 1) := by
    rw [List.drop_eq_getElem_cons hi, List.getElem_idxOf]
  have hn : e ∉ ws.drop (ws.idxOf e + 1) := by
    have h1 := hs.sublist (List.drop_sublist (ws.idxOf e) ws)
    rw [e0] at h1
    intro z
    have := (List.pairwise_cons.mp h1).1 e z
    omega
  refine ⟨fun S hS => ?_, fun S hS => ?_, e0, hn⟩
  · have : e ∉ S := fun z => hn (hS.subset z)
    show (if (if decide (e ∈ S) = true then _ else _) = true then 1 else 0) = _
    rw [decide_eq_false this]
    rfl
  · show (if (if decide (e ∈ e :: S) = true then evP t (e :: S) else _) = true then 1 else 0) = _
    rw [decide_eq_true List.mem_cons_self, if_pos rfl]
    exact pl_free hs he sub w2 (by
      rw [List.mem_take_iff_getElem]
      exact ⟨ws.idxOf e, by omega, List.getElem_idxOf (by omega)⟩) S
theorem bel_rep {ws es : List Int} (hs : ws.Pairwise (· < ·)) (he : es.Pairwise (· < ·)) (sub : ∀ x ∈ es, x ∈ ws) : ∀ {a : Bd}, Wf es a → Rep (ws.drop (pl ws a)) (vl a) (bel ws a)
  | .lf b, _ => by
    show Rep (ws.drop ws.length) _ _
    rw [List.drop_length]
    refine ⟨rfl, fun o s => ?_⟩
    show (if b = true then 1 else 0) * o s + 0 = o s * (if b = true then 1 else 0)
    rw [Int.add_zero, Int.mul_comm]
  | .nd e w t, h => by
    obtain ⟨w1, w2⟩ := wf_kids h
    obtain ⟨p1, p2⟩ := pl_lt hs he sub h
    obtain ⟨k1, k2, k3, _⟩ := nd_kids hs he sub h
    show Rep (ws.drop (ws.idxOf e)) _ _
    rw [k3]
    exact rep_node (part_rep hs he sub w1 (bel_rep hs he sub w1) p1) (part_rep hs he sub w2 (bel_rep hs he sub w2) p2) k1 k2
/-- by size: the sets behind a node's row for which its row counts -/
def gnd (ws : List Int) (e : Int) (w t : Bd) : List Int := subL (sprL (bel ws t) (pl ws t - (ws.idxOf e + 1))) (sprL (bel ws w) (pl ws w - (ws.idxOf e + 1)))
theorem gnd_rep {ws es : List Int} (hs : ws.Pairwise (· < ·)) (he : es.Pairwise (· < ·)) (sub : ∀ x ∈ es, x ∈ ws) {e : Int} {w t : Bd} (h : Wf es (.nd e w t)) : Rep (ws.drop (ws.idxOf e + 1)) (fun S => vl t S - vl w S) (gnd ws e w t) := by
  obtain ⟨w1, w2⟩ := wf_kids h
  obtain ⟨p1, p2⟩ := pl_lt hs he sub h
  exact rep_sub (part_rep hs he sub w2 (bel_rep hs he sub w2) p2) (part_rep hs he sub w1 (bel_rep hs he sub w1) p1)
/-! ### by size: the sets of the rows before a place that lead to it -/
def abv0 (ws : List Int) (bs : List Bd) (A : Bd) (r : Nat) : List (List Int) := (bs.map fun b => List.replicate (pl ws b + 1) 0).set r (sprL [1] (pl ws A))
def abvS (ws : List Int) (acc : List Bd) (j : Nat) (fs : List (List Int)) : List (List Int) :=
  match acc[j]? with
  | some (.nd e w t) =>
    let f := fs.getD (j + 2) []
    let fs1 := fs.set (nmb acc w) (addL (fs.getD (nmb acc w) []) (sprL (f ++ [0]) (pl ws w - (ws.idxOf e + 1))))
    fs1.set (nmb acc t) (addL (fs1.getD (nmb acc t) []) (sprL (0 :: f) (pl ws t - (ws.idxOf e + 1))))
  | _ => fs
/-- behind k nodes, from the last one on -/
def abvK (ws : List Int) (acc : List Bd) (A : Bd) : Nat → List (List Int)
  | 0 => abv0 ws (.lf false :: .lf true :: acc) A (nmb acc A)
  | k + 1 => abvS ws acc (acc.length - 1 - k) (abvK ws acc A k)
def sumN (F : Nat → Int) : Nat → Int
  | 0 => 0
  | n + 1 => sumN F n + F n
theorem sumN_congr {F G : Nat → Int} : ∀ n, (∀ i, i < n → F i = G i) → sumN F n = sumN G n
  | 0, _ => rfl
  | n + 1, h => by
    show sumN F n + F n = sumN G n + G n
    rw [sumN_congr n fun i hi => h i (by omega), h n (by omega)]
theorem sumN_at {F G : Nat → Int} {j : Nat} : ∀ n, j < n → (∀ i, i < n → i ≠ j → F i = G i) → sumN G n = sumN F n + (G j - F j)
  | 0, h, _ => by omega
  | n + 1, h, e => by
    show sumN G n + G n = sumN F n + F n + _
    by_cases hj : j = n
    · subst hj
      rw [sumN_congr (F := F) (G := G) j fun i hi => e i (by omega) (by omega)]
      omega
    · rw [sumN_at n (by omega) fun i hi hne => e i (by omega) hne, e n (by omega) (Ne.symm hj)]
      omega
theorem sumN_two (F : Nat → Int) : ∀ n, sumN F (n + 2) = F 0 + F 1 + sumN (fun i => F (i + 2)) n
  | 0 => by show 0 + F 0 + F 1 = F 0 + F 1 + 0; omega
  | n + 1 => by
    show sumN F (n + 2) + F (n + 2) = F 0 + F 1 + (sumN (fun i => F (i + 2)) n + F (n + 2))
    rw [sumN_two F n]
    omega
/-- what a node tells of the row e -/
def ctr (o : Nat → Int) (ws : List Int) (e : Int) : Bd → Nat → Int
  | .lf _ => fun _ => 0
  | .nd x w t => if x = e then pr o (gnd ws x w t) else fun _ => 0
/-- what the nodes from the place n on tell, and what the others may still lead to -/
def wgF (o : Nat → Int) (ws : List Int) (e : Int) (bs : List Bd) (n i : Nat) : Nat → Int :=
  match bs[i]? with
  | some b => if n ≤ i then ctr o ws e b else DD o e (vl b) (ws.drop (pl ws b))
  | none => fun _ => 0
def tot (o : Nat → Int) (ws : List Int) (e : Int) (bs : List Bd) (fs : List (List Int)) (n : Nat) : Int := sumN (fun i => pr (wgF o ws e bs n i) (fs.getD i []) 0) bs.length
theorem getD_set {α : Type} (l : List α) (i : Nat) (x d : α) (h : i < l.length) (j : Nat) : (l.set i x).getD j d = if j = i then x else l.getD j d := by
  rw [List.getD_eq_getElem?_getD, List.getD_eq_getElem?_getD, List.getElem?_set]
  by_cases hj : i = j
  · subst hj
    rw [if_pos rfl, if_pos rfl, if_pos h]
    rfl
  · rw [if_neg hj, if_neg (Ne.symm hj)]
theorem tot_add {o : Nat → Int} {ws : List Int} {e : Int} {bs : List Bd} {fs : List (List Int)} {n i : Nat} {d : List Int} (hl : fs.length = bs.length) (hi : i < bs.length) (hd : (fs.getD i []).length = d.length) : tot o ws e bs (fs.set i (addL (fs.getD i []) d)) n = tot o ws e bs fs n + pr (wgF o ws e bs n i) d 0 := by
  unfold tot
  rw [sumN_at (F := fun i => pr (wgF o ws e bs n i) (fs.getD i []) 0) (j := i) _ hi fun k _ hk => by rw [getD_set _ _ _ _ (by omega), if_neg hk]]
  rw [getD_set _ _ _ _ (by omega), if_pos rfl, pr_addL _ _ _ _ hd]
  omega
/-- as long as the places say -/
def LenOk (ws : List Int) (bs : List Bd) (fs : List (List Int)) : Prop := fs.length = bs.length ∧ ∀ i b, bs[i]? = some b → (fs.getD i []).length = pl ws b + 1
theorem LenOk.set {ws : List Int} {bs : List Bd} {fs : List (List Int)} (h : LenOk ws bs fs) {i : Nat} {x : List Int} {b : Bd} (hi : bs[i]? = some b) (hx : x.length = pl ws b + 1) : LenOk ws bs (fs.set i x) := by
  have hl := (List.getElem?_eq_some_iff.mp hi).1
  refine ⟨by rw [List.length_set]; exact h.1, fun k c hk => ?_⟩
  rw [getD_set _ _ _ _ (by rw [h.1]; exact hl)]
  by_cases e : k = i
  · subst e
    rw [hi] at hk
    cases hk
    rw [if_pos rfl]
    exact hx
  · rw [if_neg e]
    exact h.2 k c hk
section
variable {ws es : List Int} {acc : List Bd}
theorem abv0_len {A : Bd} (hA : knw acc A = true) : LenOk ws (.lf false :: .lf true :: acc) (abv0 ws (.lf false :: .lf true :: acc) A (nmb acc A)) := by
  refine LenOk.set (b := A) ⟨by rw [List.length_map], fun i b hi => ?_⟩ (kw_get hA) (by rw [sprL_len]; rw [List.length_singleton]; omega)
  rw [List.getD_eq_getElem?_getD, List.getElem?_map, hi]
  exact List.length_replicate
theorem pr_rep (h : Nat → Int) : ∀ (n s : Nat), pr h (List.replicate n 0) s = 0
  | 0, _ => rfl
  | n + 1, s => by
    rw [List.replicate_succ, pr_cons0, pr_rep h n]
theorem nmb_lt {bs : List Bd} {a : Bd} (h : knw bs a = true) : nmb bs a < bs.length + 2 := (List.getElem?_eq_some_iff.mp (kw_get h)).1
theorem abv0_tot (o : Nat → Int) (e : Int) (hs : ws.Pairwise (· < ·)) (hes : es.Pairwise (· < ·)) (sub : ∀ x ∈ es, x ∈ ws) {A : Bd} (hA : knw acc A = true) (wA : Wf es A) : tot o ws e (.lf false :: .lf true :: acc) (abv0 ws (.lf false :: .lf true :: acc) A (nmb acc A)) (acc.length + 2) = DD o e (vl A) ws 0 := by
  have hg := kw_get hA
  have hi := nmb_lt hA
  have hl : ((Bd.lf false :: Bd.lf true :: acc).map fun b => List.replicate (pl ws b + 1) (0 : Int)).length = acc.length + 2 := by rw [List.length_map]; rfl
  unfold tot abv0
  show sumN _ (acc.length + 2) = _
  rw [sumN_at (F := fun _ => 0) (j := nmb acc A) _ hi fun k hk hne => ?_]
  · rw [getD_set _ _ _ _ (by rw [hl]; exact hi), if_pos rfl]
    have z : ∀ n, sumN (fun _ => (0 : Int)) n = 0 := fun n => by
      induction n with
      | zero => rfl
      | succ n ih => show sumN _ n + 0 = 0; rw [ih]; rfl
    rw [z]
    have e1 : wgF o ws e (.lf false :: .lf true :: acc) (acc.length + 2) (nmb acc A) = DD o e (vl A) (ws.drop (pl ws A)) := by
      unfold wgF
      rw [hg]
      exact if_neg (by omega)
    rw [e1]
    obtain ⟨fs, f1, f2, f3⟩ := drop_split (ws := ws) (p := 0) (Nat.zero_le _) (pl_le ws A)
    rw [List.drop_zero] at f1
    rw [Nat.sub_zero] at f2
    have := pr_DD (o := o) (e := e) (rs := ws.drop (pl ws A)) (g := vl A) fs [1] (by rw [← f1]; exact hs.imp fun h => by omega) fun f hf S => pl_free hs hes sub wA (f3 f hf) S
    rw [← f1, f2] at this
    rw [this]
    show 0 + (1 * DD o e (vl A) ws 0 + 0 - 0) = _
    omega
  · rw [getD_set _ _ _ _ (by rw [hl]; exact hi), if_neg hne, List.getD_eq_getElem?_getD, List.getElem?_map]
    cases (Bd.lf false :: Bd.lf true :: acc)[k]? with
    | none => rfl
    | some b => exact (pr_rep _ _ _).symm
theorem abvS_ok (o : Nat → Int) (e : Int) (hs : ws.Pairwise (· < ·)) (hes : es.Pairwise (· < ·)) (sub : ∀ x ∈ es, x ∈ ws) (hord : Ordd acc) (hwf : ∀ b ∈ acc, Wf es b) (hnds : ∀ b ∈ acc, ∃ e w t, b = .nd e w t) {j : Nat} (hj : j < acc.length) {fs : List (List Int)} (hl : LenOk ws (.lf false :: .lf true :: acc) fs) :
    LenOk ws (.lf false :: .lf true :: acc) (abvS ws acc j fs) ∧ tot o ws e (.lf false :: .lf true :: acc) (abvS ws acc j fs) (j + 2) = tot o ws e (.lf false :: .lf true :: acc) fs (j + 3) := by
  obtain ⟨x, w, t, hx⟩ := hnds acc[j] (List.getElem_mem hj)
  have hg : acc[j]? = some (.nd x w t) := by rw [List.getElem?_eq_getElem hj, hx]
  have wn : Wf es (.nd x w t) := by rw [← hx]; exact hwf _ (List.getElem_mem hj)
  obtain ⟨k1, k2⟩ := hord j x w t hg
  obtain ⟨w1, w2⟩ := wf_kids wn
  obtain ⟨p1, p2⟩ := pl_lt hs hes sub wn
  obtain ⟨n1, n2, n3, n4⟩ := nd_kids hs hes sub wn
  have pt := List.take_prefix j acc
  have i1 := nmb_lt k1
  have i2 := nmb_lt k2
  rw [List.length_take] at i1 i2
  rw [← nmb_pre pt k1] at i1
  rw [← nmb_pre pt k2] at i2
  have full : ∀ {b : Bd}, knw (acc.take j) b = true → (Bd.lf false :: Bd.lf true :: acc)[nmb acc b]? = some b := fun {b} h => kw_get (knw_pre pt h)
  have g1 := full k1
  have g2 := full k2
  have hf := hl.2 (j + 2) _ (show (Bd.lf false :: Bd.lf true :: acc)[j + 2]? = some (.nd x w t) from hg)
  have hlen := hl.1
  have ll : (Bd.lf false :: Bd.lf true :: acc).length = acc.length + 2 := rfl
  -- the change of what is told of the node itself
  have step0 : tot o ws e (.lf false :: .lf true :: acc) fs (j + 3) = tot o ws e (.lf false :: .lf true :: acc) fs (j + 2) + (pr (DD o e (vl (.nd x w t)) (ws.drop (ws.idxOf x))) (fs.getD (j + 2) []) 0 - pr (ctr o ws e (.nd x w t)) (fs.getD (j + 2) []) 0) := by
    unfold tot
    rw [sumN_at (F := fun i => pr (wgF o ws e (.lf false :: .lf true :: acc) (j + 2) i) (fs.getD i []) 0) (j := j + 2) _ (by rw [ll]; omega) fun k hk hne => ?_]
    · have a1 : wgF o ws e (.lf false :: .lf true :: acc) (j + 3) (j + 2) = DD o e (vl (.nd x w t)) (ws.drop (ws.idxOf x)) := by
        unfold wgF
        rw [show (Bd.lf false :: Bd.lf true :: acc)[j + 2]? = some (.nd x w t) from hg]
        exact if_neg (by omega)
      have a2 : wgF o ws e (.lf false :: .lf true :: acc) (j + 2) (j + 2) = ctr o ws e (.nd x w t) := by
        unfold wgF
        rw [show (Bd.lf false :: Bd.lf true :: acc)[j + 2]? = some (.nd x w t) from hg]
        exact if_pos (Nat.le_refl _)
      rw [a1, a2]
    · congr 1
      unfold wgF
      cases (Bd.lf false :: Bd.lf true :: acc)[k]? with
      | none => rfl
      | some b =>
        dsimp only
        by_cases h : j + 3 ≤ k
        · rw [if_pos h, if_pos (by omega)]
        · rw [if_neg h, if_neg (by omega)]
  -- the parts
  have lx := List.idxOf_lt_length_of_mem (sub x wn.none_of)
  generalize hF : fs.getD (j + 2) [] = F at hf step0
  have l1 : (sprL (F ++ [0]) (pl ws w - (ws.idxOf x + 1))).length = pl ws w + 1 := by
    rw [sprL_len, List.length_append, hf]
    show ws.idxOf x + 1 + 1 + _ = _
    omega
  have l2 : (sprL (0 :: F) (pl ws t - (ws.idxOf x + 1))).length = pl ws t + 1 := by
    rw [sprL_len, List.length_cons, hf]
    show ws.idxOf x + 1 + 1 + _ = _
    omega
  have m1 := hl.2 _ _ g1
  have L1 : LenOk ws (.lf false :: .lf true :: acc) (fs.set (nmb acc w) (addL (fs.getD (nmb acc w) []) (sprL (F ++ [0]) (pl ws w - (ws.idxOf x + 1))))) := hl.set g1 (by rw [addL_len (by rw [m1, l1]), m1])
  have m2 := L1.2 _ _ g2
  have eS : abvS ws acc j fs = (fs.set (nmb acc w) (addL (fs.getD (nmb acc w) []) (sprL (F ++ [0]) (pl ws w - (ws.idxOf x + 1))))).set (nmb acc t) (addL ((fs.set (nmb acc w) (addL (fs.getD (nmb acc w) []) (sprL (F ++ [0]) (pl ws w - (ws.idxOf x + 1))))).getD (nmb acc t) []) (sprL (0 :: F) (pl ws t - (ws.idxOf x + 1)))) := by
    unfold abvS
    rw [hg]
    dsimp only
    rw [hF]
  rw [eS]
  refine ⟨L1.set g2 (by rw [addL_len (by rw [m2, l2]), m2]), ?_⟩
  rw [tot_add L1.1 (by rw [ll]; omega) (by rw [m2, l2]), tot_add hl.1 (by rw [ll]; omega) (by rw [m1, l1]), step0]
  have b1 : wgF o ws e (.lf false :: .lf true :: acc) (j + 2) (nmb acc w) = DD o e (vl w) (ws.drop (pl ws w)) := by
    unfold wgF
    rw [g1]
    exact if_neg (by omega)
  have b2 : wgF o ws e (.lf false :: .lf true :: acc) (j + 2) (nmb acc t) = DD o e (vl t) (ws.drop (pl ws t)) := by
    unfold wgF
    rw [g2]
    exact if_neg (by omega)
  have nd : ∀ k, (ws.drop k).Nodup := fun k => (hs.imp fun h => by omega : ws.Nodup).sublist (List.drop_sublist k ws)
  have part : ∀ (b : Bd), Wf es b → ws.idxOf x + 1 ≤ pl ws b → ∀ xs, pr (DD o e (vl b) (ws.drop (pl ws b))) (sprL xs (pl ws b - (ws.idxOf x + 1))) 0 = pr (DD o e (vl b) (ws.drop (ws.idxOf x + 1))) xs 0 := fun b hb hp xs => by
    obtain ⟨gs, e1, e2, e3⟩ := drop_split hp (pl_le ws b)
    have := pr_DD (o := o) (e := e) (rs := ws.drop (pl ws b)) (g := vl b) gs xs (by rw [← e1]; exact nd _) fun f hf S => pl_free hs hes sub hb (e3 f hf) S
    rw [← e1, e2] at this
    exact this
  rw [b1, b2, part w w1 p1, part t w2 p2, pr_snoc0, pr_cons0, n3, pr_shift]
  by_cases hxe : x = e
  · subst hxe
    have z1 : ∀ b s, DD o x (vl b) (ws.drop (ws.idxOf x + 1)) s = 0 := fun b s => DD_none n4
    have c1 : pr (DD o x (vl w) (ws.drop (ws.idxOf x + 1))) F 0 = 0 := by rw [pr_congr (h' := fun _ => 0) F 0 fun k _ _ => z1 w k, pr_zero]
    have c2 : pr (fun k => DD o x (vl t) (ws.drop (ws.idxOf x + 1)) (k + 1)) F 0 = 0 := by rw [pr_congr (h' := fun _ => 0) F 0 fun k _ _ => z1 t _, pr_zero]
    have c3 : pr (DD o x (vl (.nd x w t)) (x :: ws.drop (ws.idxOf x + 1))) F 0 = pr (ctr o ws x (.nd x w t)) F 0 := by
      refine pr_congr F 0 fun k _ _ => ?_
      show (if x = x then ssum _ _ else _) = (if x = x then pr o (gnd ws x w t) else _) k
      rw [if_pos rfl, if_pos rfl, (gnd_rep hs hes sub wn).2]
      exact ssum_congr _ fun S hS => by rw [n1 S hS, n2 S hS]
    rw [c1, c2, c3]
    omega
  · have c3 : pr (ctr o ws e (.nd x w t)) F 0 = 0 := by
      show pr (if x = e then _ else _) F 0 = 0
      rw [if_neg hxe, pr_zero]
    have c4 : pr (DD o e (vl (.nd x w t)) (x :: ws.drop (ws.idxOf x + 1))) F 0 = pr (DD o e (vl w) (ws.drop (ws.idxOf x + 1))) F 0 + pr (fun k => DD o e (vl t) (ws.drop (ws.idxOf x + 1)) (k + 1)) F 0 := by
      rw [← pr_add]
      exact pr_congr F 0 fun k _ _ => DD_node hxe n1 n2
    rw [c3, c4]
    omega
theorem abvK_ok (o : Nat → Int) (e : Int) (hs : ws.Pairwise (· < ·)) (hes : es.Pairwise (· < ·)) (sub : ∀ x ∈ es, x ∈ ws) (hord : Ordd acc) (hwf : ∀ b ∈ acc, Wf es b) (hnds : ∀ b ∈ acc, ∃ e w t, b = .nd e w t) {A : Bd} (hA : knw acc A = true) (wA : Wf es A) :
    ∀ k, k ≤ acc.length → LenOk ws (.lf false :: .lf true :: acc) (abvK ws acc A k) ∧ tot o ws e (.lf false :: .lf true :: acc) (abvK ws acc A k) (acc.length - k + 2) = DD o e (vl A) ws 0
  | 0, _ => ⟨abv0_len hA, abv0_tot o e hs hes sub hA wA⟩
  | k + 1, hk => by
    obtain ⟨h1, h2⟩ := abvK_ok o e hs hes sub hord hwf hnds hA wA k (by omega)
    obtain ⟨h3, h4⟩ := abvS_ok o e hs hes sub hord hwf hnds (j := acc.length - 1 - k) (by omega) h1
    refine ⟨h3, ?_⟩
    show tot o ws e _ (abvS ws acc (acc.length - 1 - k) (abvK ws acc A k)) _ = _
    rw [show acc.length - (k + 1) + 2 = acc.length - 1 - k + 2 by omega, h4, ← h2]
    congr 1
    omega
/-- what the program adds up for the row e, node by node -/
def adN (o : Nat → Int) (ws : List Int) (acc : List Bd) (A : Bd) (e : Int) (n : Nat) : Int := sumN (fun i => match acc[i]? with
  | some b => pr (ctr o ws e b) ((abvK ws acc A acc.length).getD (i + 2) []) 0
  | none => 0) n
theorem adN_all (o : Nat → Int) (e : Int) (hs : ws.Pairwise (· < ·)) (hes : es.Pairwise (· < ·)) (sub : ∀ x ∈ es, x ∈ ws) (hord : Ordd acc) (hwf : ∀ b ∈ acc, Wf es b) (hnds : ∀ b ∈ acc, ∃ e w t, b = .nd e w t) {A : Bd} (hA : knw acc A = true) (wA : Wf es A) : adN o ws acc A e acc.length = DD o e (vl A) ws 0 := by
  rw [← (abvK_ok o e hs hes sub hord hwf hnds hA wA acc.length (Nat.le_refl _)).2]
  rw [Nat.sub_self]
  unfold tot adN
  show _ = sumN _ (acc.length + 2)
  rw [sumN_two]
  have lfz : ∀ (b : Bool) (xs : List Int), pr (DD o e (vl (.lf b)) (ws.drop (pl ws (.lf b)))) xs 0 = 0 := fun b xs => by
    show pr (DD o e (vl (.lf b)) (ws.drop ws.length)) xs 0 = 0
    rw [List.drop_length]
    exact pr_zero xs 0
  have e0 : pr (wgF o ws e (.lf false :: .lf true :: acc) (0 + 2) 0) ((abvK ws acc A acc.length).getD 0 []) 0 = 0 := lfz false _
  have e1 : pr (wgF o ws e (.lf false :: .lf true :: acc) (0 + 2) 1) ((abvK ws acc A acc.length).getD 1 []) 0 = 0 := lfz true _
  rw [e0, e1]
  show _ = 0 + 0 + sumN _ _
  rw [Int.add_zero, Int.zero_add]
  refine sumN_congr _ fun i hi => ?_
  have : wgF o ws e (.lf false :: .lf true :: acc) (0 + 2) (i + 2) = match acc[i]? with | some b => ctr o ws e b | none => fun _ => 0 := by
    unfold wgF
    show (match acc[i]? with | some b => if 0 + 2 ≤ i + 2 then _ else _ | none => _) = _
    cases acc[i]? with
    | none => rfl
    | some b => exact if_pos (by omega)
  rw [this]
  rw [List.getElem?_eq_getElem hi]
end

/-! ### factorials -/
theorem fac_nat : ∀ n, PySem.Builtin.Math.factorialNat n = fac n
  | 0 => rfl
  | n + 1 => by
    rw [PySem.W.mc_fac_succ, fac_nat n, Nat.mul_comm]
    rfl
theorem cr_fac {X : Cx} : CallR X (.builtin "math.factorial") (fun vs H Q => ∃ n : Nat, vs = [.int ((n : Nat) : Int)] ∧ n ≤ 20000 ∧ Q (.int ((fac n : Nat) : Int)) H) := by
  intro pins s σ H vs us Q I r h
  obtain ⟨n, rfl, hn, q⟩ := h
  obtain ⟨t, rfl⟩ : ∃ t, us = [Value.int ((n : Nat) : Int) t] := by
    cases r with
    | cons r t2 =>
      cases t2
      obtain ⟨t, rfl⟩ := r
      exact ⟨t, rfl⟩
  refine PySem.W.mc_factorial (by omega) (by omega) fun _ => ?_
  rw [Int.toNat_natCast, fac_nat]
  exact ⟨.int _, H, I.tok _, ⟨_, rfl⟩, q⟩
/-- lists of numbers, each in a list of its own, by their places -/
def LLn (H : Hp) (kn : Addr) (fs : List (List Int)) : Prop := ∃ as : List Addr, H kn = some (.lst (as.map V.ref)) ∧ as.length = fs.length ∧ ∀ (i : Nat) b x, as[i]? = some b → fs[i]? = some x → b ≠ kn ∧ H b = some (.lst (x.map V.int))
theorem LLn.ext {H H' : Hp} (e : Same H H') {kn : Addr} {fs : List (List Int)} (h : LLn H kn fs) : LLn H' kn fs := by
  obtain ⟨as, h1, h2, h3⟩ := h
  exact ⟨as, e _ _ h1, h2, fun i b x g1 g2 => ⟨(h3 i b x g1 g2).1, e _ _ (h3 i b x g1 g2).2⟩⟩
theorem LLn.get {H : Hp} {kn : Addr} {fs : List (List Int)} (h : LLn H kn fs) {i : Nat} (hi : i < fs.length) : ∃ (as : List Addr) (b : Addr), H kn = some (.lst (as.map V.ref)) ∧ as.length = fs.length ∧ as[i]? = some b ∧ b ≠ kn ∧ H b = some (.lst ((fs.getD i []).map V.int)) := by
  obtain ⟨as, h1, h2, h3⟩ := h
  have hi2 : i < as.length := by rw [h2]; exact hi
  have hx : fs[i]? = some (fs.getD i []) := by rw [List.getD_eq_getElem?_getD, List.getElem?_eq_getElem hi]; rfl
  obtain ⟨k1, k2⟩ := h3 i as[i] _ (List.getElem?_eq_getElem hi2) hx
  exact ⟨as, as[i], h1, h2, List.getElem?_eq_getElem hi2, k1, k2⟩
theorem LLn.snoc {H : Hp} {kn b : Addr} {fs : List (List Int)} {x : List Int} {xs : List V} (h : LLn H kn fs) (e : H kn = some (.lst xs)) (n : b ≠ kn) (hb : H b = some (.lst (x.map V.int))) : LLn (upd H kn (.lst (xs ++ [.ref b]))) kn (fs ++ [x]) := by
  obtain ⟨as, h1, h2, h3⟩ := h
  have ex : xs = as.map V.ref := by rw [h1] at e; exact (HO.lst.inj (Option.some.inj e)).symm
  refine ⟨as ++ [b], by rw [upd_same, ex, List.map_append]; rfl, by rw [List.length_append, List.length_append, h2]; rfl, fun i c m hc hm => ?_⟩
  by_cases hi : i < as.length
  · rw [List.getElem?_append_left hi] at hc
    rw [List.getElem?_append_left (by omega)] at hm
    obtain ⟨g1, g2⟩ := h3 i c m hc hm
    exact ⟨g1, by rw [upd_ne g1]; exact g2⟩
  · rw [List.getElem?_append_right (by omega)] at hc
    rw [List.getElem?_append_right (by omega), ← h2] at hm
    cases hk : i - as.length with
    | zero =>
      rw [hk] at hc hm
      cases hc
      cases hm
      exact ⟨n, by rw [upd_ne n]; exact hb⟩
    | succ k => rw [hk] at hc; simp at hc
theorem LLn.set {H : Hp} {kn b : Addr} {fs : List (List Int)} {x : List Int} {as : List Addr} (h : LLn H kn fs) (e : H kn = some (.lst (as.map V.ref))) {i : Nat} (hi : i < fs.length) (n : b ≠ kn) (hb : H b = some (.lst (x.map V.int))) : LLn (upd H kn (.lst ((as.map V.ref).set i (.ref b)))) kn (fs.set i x) := by
  obtain ⟨as', h1, h2, h3⟩ := h
  obtain rfl : as = as' := by
    rw [h1] at e
    exact ((List.map_inj_right (fun _ _ h => V.ref.inj h)).mp (HO.lst.inj (Option.some.inj e))).symm
  refine ⟨as.set i b, by rw [upd_same, List.map_set], by rw [List.length_set, List.length_set, h2], fun k c m hc hm => ?_⟩
  rw [List.getElem?_set] at hc hm
  by_cases hk : i = k
  · subst hk
    rw [if_pos rfl, if_pos (by omega)] at hc
    rw [if_pos rfl, if_pos hi] at hm
    cases hc
    cases hm
    exact ⟨n, by rw [upd_ne n]; exact hb⟩
  · rw [if_neg hk] at hc hm
    obtain ⟨g1, g2⟩ := h3 k c m hc hm
    exact ⟨g1, by rw [upd_ne g1]; exact g2⟩
def sp_above (K : PySem.W.Frag) : Sp := fun vs H Q _ => ∃ (nl sl : Addr) (xs : List V) (acc : List Bd) (A : Bd) (ws es : List Int), vs = [.ref nl, .ref sl, .int ((nmb acc A : Nat) : Int)] ∧ H nl = some (.lst xs) ∧ DpAll K H xs (acc.map (rowD acc)) ∧ H sl = some (.lst ((Bd.lf false :: Bd.lf true :: acc).map fun a => V.int ((pl ws a : Nat) : Int))) ∧ Ordd acc ∧ (∀ b ∈ acc, Wf es b) ∧ (∀ b ∈ acc, ∃ e w t, b = .nd e w t) ∧ knw acc A = true ∧ ws.Pairwise (· < ·) ∧ es.Pairwise (· < ·) ∧ (∀ x ∈ es, x ∈ ws) ∧ ws.length ≤ 100 ∧ acc.length ≤ 1000 ∧
  ∀ H' r, Same H H' → H r = none → LLn H' r (abvK ws acc A acc.length) → Q (.ref r) H'
section
variable {P : Program} {w : World} {K : PySem.W.Frag} {mg : Str → Option Value} {base : Heap}
set_option maxHeartbeats 4000000 in
theorem ok_above {f : Addr} {fd : FuncData} (F : Fun K "sets_above" "sets_above" s_sets_above f fd) (M : Mg mg) (c_sums : Cl P w K mg base 1 "sums" (sp_sums K)) (c_spread : Cl P w K mg base 2 "spread" (sp_spread K)) : FnOk P w K mg base CX0 3 f fd ["nodes", "starts", "root"] (sp_above K) := by
  refine F.ok sc_sets_above (fun vs H Q E h => ?_) (fun cdv A0 outer s0 H vs Q E hr h => ?_)
  · obtain ⟨nl, sl, xs, acc, A, ws, es, rfl, _⟩ := h
    rfl
  · obtain ⟨nl, sl, xs, acc, A, ws, es, rfl, hnl, dxs, hsl, hord, hwf, hnds, hA, hws, hes, sub, hwl, hal, q⟩ := h
    have lxs : xs.length = acc.length := by rw [DpAll.len dxs, List.length_map]
    refine ⟨_, (pss_cons (ps_setLc (i := 4) (own := [("start", 3)]) (g := gName 3) (tt := tYes) rfl sc_sets_above.nd rfl rfl (sw_true rfl rfl rfl (by decide +kernel)) (pi_list (pv 1)) (blkOk_by (N := N_sets_above) (sc := defScope s_sets_above) (by decide +kernel)) (fun _ _ _ _ _ => (pg_name (i := 3) sc_sets_above.nd rfl (.inl rfl))) (fun _ _ _ _ _ => pts_nil) (fun _ _ _ _ _ => (pe_op op_rep (pe_lst (pa_cons pe_int pa_nil)) (pe_op op_add (pv 3) pe_int))))
      (pss_cons (ps_asg (pe_u c_spread hr (by first | decide | omega) (by rfl) (pa_cons (pe_lst (pa_cons pe_int pa_nil)) (pa_cons (pe_ix (ix_listK K) (pv 1) (pv 2) (fun _ _ => rfl)) pa_nil))) (pg_sub (pv 4) (pv 2) set_list))
      (pss_cons (ps_for PassesOwn.never rfl (pi_revR (by rfl) M.reversed (prg_1 (by rfl) M.range (pe_callB (len_seqK K) (by rfl) M.len PySem.boot_len (pa_cons (pv 0) pa_nil)))) (pg_name (i := 5) sc_sets_above.nd rfl (.inl rfl)) (pss_cons (ps_asg (pe_ix (ix_listK K) (pv 0) (pv 5) (fun _ _ => rfl)) (pg_tup (by rfl) (pgs_cons (pg_name (i := 6) sc_sets_above.nd rfl (.inl rfl)) (pgs_cons (pg_name (i := 7) sc_sets_above.nd rfl (.inl rfl)) (pgs_cons (pg_name (i := 8) sc_sets_above.nd rfl (.inl rfl)) pgs_nil)))))
      (pss_cons (ps_set (i := 3) sc_sets_above.nd rfl (.inl rfl) (pe_op op_add (pe_ix (ix_listK K) (pv 1) (pe_op op_add (pv 5) pe_int) (fun _ _ => rfl)) pe_int))
      (pss_cons (ps_par (i := 9) (j := 10) rfl sc_sets_above.nd rfl rfl (by decide) rfl rfl (pa_cons (pe_op op_cat (pe_ix (ix_listK K) (pv 4) (pe_op op_add (pv 5) pe_int) (fun _ _ => rfl)) (pe_lst (pa_cons pe_int pa_nil))) (pa_cons (pe_op op_cat (pe_lst (pa_cons pe_int pa_nil)) (pe_ix (ix_listK K) (pv 4) (pe_op op_add (pv 5) pe_int) (fun _ _ => rfl))) pa_nil)) (by rfl))
      (pss_cons (ps_asg (pe_u c_sums hr (by first | decide | omega) (by rfl) (pa_cons (pe_ix (ix_listK K) (pv 4) (pv 7) (fun _ _ => rfl)) (pa_cons (pe_u c_spread hr (by first | decide | omega) (by rfl) (pa_cons (pv 9) (pa_cons (pe_op op_sub (pe_ix (ix_listK K) (pv 1) (pv 7) (fun _ _ => rfl)) (pv 3)) pa_nil))) pa_nil))) (pg_sub (pv 4) (pv 7) set_list))
      (pss_one (ps_asg (pe_u c_sums hr (by first | decide | omega) (by rfl) (pa_cons (pe_ix (ix_listK K) (pv 4) (pv 8) (fun _ _ => rfl)) (pa_cons (pe_u c_spread hr (by first | decide | omega) (by rfl) (pa_cons (pv 10) (pa_cons (pe_op op_sub (pe_ix (ix_listK K) (pv 1) (pv 8) (fun _ _ => rfl)) (pv 3)) pa_nil))) pa_nil))) (pg_sub (pv 4) (pv 8) set_list))))))))
      (pss_one (ps_ret (pv 4)))))), ?_⟩
    refine ⟨_, rfl, sl, rfl, ⟨_, .of hsl⟩, fun D nD => ?_⟩
    refine lc_list (K := K) (a := sl) (xs := (Bd.lf false :: Bd.lf true :: acc).map fun a => V.int ((pl ws a : Nat) : Int)) (fun i Hi => Same H Hi ∧ LLn Hi D (((Bd.lf false :: Bd.lf true :: acc).map fun b => List.replicate (pl ws b + 1) (0 : Int)).take i)) ⟨same_upd nD, [], upd_same, rfl, fun i b x h _ => by simp at h⟩ (fun i Hi _ hp => .of (hp.1 _ _ hsl)) (fun i x Hi hx hp => ?_) (fun Hn hp => ?_)
    · obtain ⟨si, hll⟩ := hp
      rw [List.getElem?_map] at hx
      obtain ⟨b, hb, rfl⟩ := Option.map_eq_some_iff.mp hx
      have hlt := (List.getElem?_eq_some_iff.mp hb).1
      have hple := pl_le ws b
      refine ⟨rfl, by show 1 ≤ sizeLine; decide, fun p1 n1 => ?_⟩
      have s1 := same_upd n1 (o := .lst [.int 0])
      have e1 : (upd Hi p1 (.lst [.int 0])) p1 = some (.lst [.int 0]) := upd_same
      generalize upd Hi p1 (.lst [.int 0]) = H1 at s1 e1 ⊢
      refine ⟨_, rfl, _, _, rfl, rfl, p1, _, _, rfl, rfl, e1, by omega, by omega, ?_, fun p2 n2 => ?_⟩
      · show 1 * _ ≤ sizeLine
        exact Nat.le_trans (m := 101) (by omega) (by decide)
      have erep : (List.replicate (((pl ws b : Nat) : Int) + 1).toNat [V.int 0]).flatten = (List.replicate (pl ws b + 1) (0 : Int)).map V.int := by
        rw [show (((pl ws b : Nat) : Int) + 1).toNat = pl ws b + 1 by omega, List.map_replicate, List.flatten_replicate_singleton]
      have s2 := same_upd n2 (o := .lst (List.replicate (((pl ws b : Nat) : Int) + 1).toNat [V.int 0]).flatten)
      have e2 : (upd H1 p2 (.lst (List.replicate (((pl ws b : Nat) : Int) + 1).toNat [V.int 0]).flatten)) p2 = some (.lst ((List.replicate (pl ws b + 1) (0 : Int)).map V.int)) := by rw [upd_same, erep]
      generalize upd H1 p2 (.lst (List.replicate (((pl ws b : Nat) : Int) + 1).toNat [V.int 0]).flatten) = H2 at s2 e2 ⊢
      have s02 := s1.trans s2
      have hll2 := hll.ext s02
      obtain ⟨as, h1, h2, h3⟩ := hll
      have hD2 := s02 _ _ h1
      have lm : ((Bd.lf false :: Bd.lf true :: acc).map fun b => List.replicate (pl ws b + 1) (0 : Int)).length = acc.length + 2 := by rw [List.length_map]; rfl
      refine ⟨_, hD2, ?_, fun b' o hb' => ?_, ?_⟩
      · rw [List.length_map, h2, List.length_take, lm]
        exact Nat.lt_of_le_of_lt (m := 1002) (by omega) (by decide)
      · rw [upd_ne (ne_of_none hb' nD)]
        exact s02 _ _ (si _ _ hb')
      · have etk : ((Bd.lf false :: Bd.lf true :: acc).map fun b => List.replicate (pl ws b + 1) (0 : Int)).take (i + 1) = ((Bd.lf false :: Bd.lf true :: acc).map fun b => List.replicate (pl ws b + 1) (0 : Int)).take i ++ [List.replicate (pl ws b + 1) (0 : Int)] := by
          rw [List.take_add_one, List.getElem?_map, hb]
          rfl
        rw [etk]
        exact hll2.snoc hD2 (fun z => by rw [z, s1 _ _ h1] at n2; cases n2) e2
    · obtain ⟨s0, hll⟩ := hp
      rw [List.length_map, List.take_of_length_le (by rw [List.length_map]; exact Nat.le_refl _)] at hll
      have hgA := kw_get hA
      have hlA := nmb_lt hA
      have stg : ∀ {m : Nat} {b : Bd}, (Bd.lf false :: Bd.lf true :: acc)[m]? = some b → ((Bd.lf false :: Bd.lf true :: acc).map fun a => V.int ((pl ws a : Nat) : Int))[m]? = some (.int ((pl ws b : Nat) : Int)) := fun {m b} h => by rw [List.getElem?_map, h]; rfl
      have hple := pl_le ws A
      refine ⟨by show 1 ≤ sizeLine; decide, fun p1 n1 => ?_⟩
      have s1 := same_upd n1 (o := .lst [.int 1])
      have e1 : (upd Hn p1 (.lst [.int 1])) p1 = some (.lst (([1] : List Int).map V.int)) := upd_same
      generalize upd Hn p1 (.lst [.int 1]) = H1 at s1 e1 ⊢
      have s01 := s0.trans s1
      refine ⟨_, rfl, _, rfl, sl, _, _, _, rfl, rfl, .of (s01 _ _ hsl), atI_nat (stg hgA), p1, [1], pl ws A, rfl, e1, by rw [List.length_singleton]; omega, fun H2 r2 s2 n2 e2 => ?_⟩
      have hll2 := (hll.ext s1).ext s2
      obtain ⟨as, h1, h2, h3⟩ := hll
      have lm : ((Bd.lf false :: Bd.lf true :: acc).map fun b => List.replicate (pl ws b + 1) (0 : Int)).length = acc.length + 2 := by rw [List.length_map]; rfl
      have hD1 := s1 _ _ h1
      have hD2 := s2 _ _ hD1
      have nr2 : r2 ≠ D := by
        rcases n2 with rfl | n2
        · intro z
          rw [z, h1] at n1
          cases n1
        · intro z
          rw [z, hD1] at n2
          cases n2
      refine ⟨_, rfl, _, rfl, D, _, _, nmb acc A, rfl, rfl, hD2, Evl.ixN_nat (by rw [List.length_map, h2, lm]; exact hlA), ?_⟩
      have hll3 : LLn (upd H2 D (.lst ((as.map V.ref).set (nmb acc A) (.ref r2)))) D (abvK ws acc A 0) := hll2.set hD2 (by rw [lm]; exact hlA) nr2 e2
      have s03 : Same H (upd H2 D (.lst ((as.map V.ref).set (nmb acc A) (.ref r2)))) := fun b' o hb' => by
        rw [upd_ne (ne_of_none hb' nD)]
        exact s2 _ _ (s01 _ _ hb')
      generalize upd H2 D (.lst ((as.map V.ref).set (nmb acc A) (.ref r2))) = H3 at hll3 s03 ⊢
      refine ⟨_, rfl, nl, xs, rfl, .inl (.of (s03 _ _ hnl)), _, rfl, by omega, by omega, by rw [lxs]; omega, by rw [lxs]; omega, ?_⟩
      have en : (((xs.length : Nat) : Int) - 0).toNat = acc.length := by rw [lxs]; omega
      rw [en]
      clear s01 hll2 hD1 hD2 nr2 e1 e2 n1 n2 s1 s2 h1 h2 h3
      refine for_rangeC (lo := 0 + ((acc.length : Nat) : Int) - 1) (c := -1) (n := acc.length) (fun i σ Hi => Same H3 Hi ∨ True → (∀ b' o, H b' = some o → Hi b' = some o) ∧ LLn Hi D (abvK ws acc A i) ∧ ∃ z3 z5 z6 z7 z8 z9 z10, σ = [some (.ref nl), some (.ref sl), some (.int ((nmb acc A : Nat) : Int)), z3, some (.ref D), z5, z6, z7, z8, z9, z10]) (fun _ => ⟨s03, hll3, _, _, _, _, _, _, _, rfl⟩) (fun i σ Hi hi hp => ?_) (fun σ Hn hp => ?_)
      · obtain ⟨si, hli, z3, z5, z6, z7, z8, z9, z10, rfl⟩ := hp (.inr trivial)
        have ej : (0 + ((acc.length : Nat) : Int) - 1 + ((i : Nat) : Int) * (-1)) = ((acc.length - 1 - i : Nat) : Int) := by omega
        rw [ej]
        have eK : abvK ws acc A (i + 1) = abvS ws acc (acc.length - 1 - i) (abvK ws acc A i) := rfl
        rw [eK]
        have lok : LenOk ws (.lf false :: .lf true :: acc) (abvK ws acc A i) := (abvK_ok (fun _ => 0) 0 hws hes sub hord hwf hnds hA (by
          cases A with
          | lf b => exact .lf
          | nd e w t => exact hwf _ (knw_nd.mp hA)) i (by omega)).1
        generalize abvK ws acc A i = fs at hli lok ⊢
        have hj : acc.length - 1 - i < acc.length := by omega
        generalize acc.length - 1 - i = j at hj ⊢
        -- the node
        obtain ⟨u, hu, hd⟩ := DpAll.get dxs (show (acc.map (rowD acc))[j]? = some (rowD acc acc[j]) by rw [List.getElem?_map, List.getElem?_eq_getElem hj]; rfl)
        obtain ⟨e, wt, tt', hei⟩ := hnds acc[j] (List.getElem_mem hj)
        have hgj : acc[j]? = some (.nd e wt tt') := by rw [List.getElem?_eq_getElem hj, hei]
        have hwi : Wf es (.nd e wt tt') := by rw [← hei]; exact hwf acc[j] (List.getElem_mem hj)
        obtain ⟨k1, k2⟩ := hord j e wt tt' hgj
        have pt := List.take_prefix j acc
        rw [hei] at hd
        have hd' : Dp K H u (.tuple [.int e, .int ((nmb acc wt : Nat) : Int), .int ((nmb acc tt' : Nat) : Int)]) := hd
        obtain ⟨ra, rs, rfl, hrs, hra⟩ := dp_tup hd'
        have : rs = [.int e, .int ((nmb acc wt : Nat) : Int), .int ((nmb acc tt' : Nat) : Int)] := by
          cases hra with
          | cons g1 g2 =>
            cases g1
            cases g2 with
            | cons g3 g4 =>
              cases g3
              cases g4 with
              | cons g5 g6 =>
                cases g5
                cases g6
                rfl
        subst this
        refine ⟨_, rfl, _, rfl, nl, xs, _, _, rfl, rfl, .of (si _ _ hnl), atI_nat hu, ?_⟩
        refine ⟨ra, _, rfl, SqT.ext si hrs, rfl, _, _, rfl, _, _, rfl, _, _, rfl, rfl, ?_⟩
        have hslj := si _ _ hsl
        obtain ⟨p1, p2⟩ := pl_lt hws hes sub hwi
        have hidx := List.idxOf_lt_length_of_mem (sub e hwi.none_of)
        have f1 := kw_get (knw_pre pt k1)
        have f2 := kw_get (knw_pre pt k2)
        have i1 := nmb_lt (knw_pre pt k1)
        have i2 := nmb_lt (knw_pre pt k2)
        have lfs : fs.length = acc.length + 2 := lok.1
        have lw := lok.2 _ _ f1
        have lF := lok.2 (j + 2) _ (show (Bd.lf false :: Bd.lf true :: acc)[j + 2]? = some (.nd e wt tt') from hgj)
        have lF' : (fs.getD (j + 2) []).length = ws.idxOf e + 1 := lF
        refine ⟨_, rfl, _, rfl, _, _, rfl, rfl, sl, _, _, _, rfl, rfl, .of hslj, (show atI _ (((j + 2 : Nat) : Int)) = _ from atI_nat (stg (m := j + 2) (b := .nd e wt tt') hgj)), _, _, rfl, rfl, ?_⟩
        rw [show pl ws (.nd e wt tt') = ws.idxOf e from rfl]
        -- the two lists
        obtain ⟨as, bF, ekn, las, hbF, nbF, ebF⟩ := hli.get (i := j + 2) (by omega)
        refine ⟨_, rfl, _, rfl, _, _, rfl, rfl, D, _, _, _, rfl, rfl, .of ekn, (show atI _ (((j + 2 : Nat) : Int)) = _ from atI_nat (by rw [List.getElem?_map, hbF]; rfl)), ?_⟩
        refine ⟨by show 1 ≤ sizeLine; decide, fun q1 nq1 => ?_⟩
        have s1 := same_upd nq1 (o := .lst [.int 0])
        have e1 : (upd Hi q1 (.lst [.int 0])) q1 = some (.lst [.int 0]) := upd_same
        generalize upd Hi q1 (.lst [.int 0]) = H1 at s1 e1 ⊢
        refine ⟨bF, q1, _, _, rfl, rfl, s1 _ _ ebF, e1, by rw [List.length_map, lF']; exact Nat.le_trans (m := 1001) (by show _ + 1 ≤ _; omega) (by decide), fun q2 nq2 => ?_⟩
        have s2 := same_upd nq2 (o := .lst ((fs.getD (j + 2) []).map V.int ++ [.int 0]))
        have e2 : (upd H1 q2 (.lst ((fs.getD (j + 2) []).map V.int ++ [.int 0]))) q2 = some (.lst ((fs.getD (j + 2) [] ++ [0]).map V.int)) := by rw [upd_same, List.map_append]; rfl
        generalize upd H1 q2 (.lst ((fs.getD (j + 2) []).map V.int ++ [.int 0])) = H2 at s2 e2 ⊢
        refine ⟨by show 1 ≤ sizeLine; decide, fun q3 nq3 => ?_⟩
        have s3 := same_upd nq3 (o := .lst [.int 0])
        have e3 : (upd H2 q3 (.lst [.int 0])) q3 = some (.lst [.int 0]) := upd_same
        generalize upd H2 q3 (.lst [.int 0]) = H3' at s3 e3 ⊢
        have s13 := (s1.trans s2).trans s3
        refine ⟨_, rfl, _, rfl, _, _, rfl, rfl, D, _, _, _, rfl, rfl, .of (s13 _ _ ekn), (show atI _ (((j + 2 : Nat) : Int)) = _ from atI_nat (by rw [List.getElem?_map, hbF]; rfl)), ?_⟩
        refine ⟨q3, bF, _, _, rfl, rfl, e3, s13 _ _ ebF, by rw [List.length_map, lF']; exact Nat.le_trans (m := 1001) (by show 1 + _ ≤ _; omega) (by decide), fun q4 nq4 => ?_⟩
        have s4 := same_upd nq4 (o := .lst ([.int 0] ++ (fs.getD (j + 2) []).map V.int))
        have e4 : (upd H3' q4 (.lst ([.int 0] ++ (fs.getD (j + 2) []).map V.int))) q4 = some (.lst ((0 :: fs.getD (j + 2) []).map V.int)) := upd_same
        generalize upd H3' q4 (.lst ([.int 0] ++ (fs.getD (j + 2) []).map V.int)) = H4 at s4 e4 ⊢
        have s14 := s13.trans s4
        have e2' := (s3.trans s4) _ _ e2
        refine ⟨_, _, rfl, ?_⟩
        -- found[without]
        have hw : pl ws wt ≤ ws.length := pl_le ws wt
        have ht : pl ws tt' ≤ ws.length := pl_le ws tt'
        have cast : ∀ b, ws.idxOf e + 1 ≤ pl ws b → ((pl ws b : Nat) : Int) - (((ws.idxOf e : Nat) : Int) + 1) = ((pl ws b - (ws.idxOf e + 1) : Nat) : Int) := fun b h => by omega
        obtain ⟨as1, b1, ekn1, las1, hb1, nb1, eb1⟩ := hli.get (i := nmb acc wt) (by omega)
        obtain rfl : as = as1 := by
          rw [ekn] at ekn1
          exact (List.map_inj_right (fun _ _ h => V.ref.inj h)).mp (HO.lst.inj (Option.some.inj ekn1))
        have ekn4 := s14 _ _ ekn
        refine ⟨_, rfl, _, rfl, D, _, _, _, rfl, rfl, .of ekn4, atI_nat (by rw [List.getElem?_map, hb1]; rfl), ?_⟩
        refine ⟨_, rfl, _, rfl, _, rfl, sl, _, _, _, rfl, rfl, .of (s14 _ _ hslj), atI_nat (stg f1), _, rfl, _, _, rfl, rfl, ?_⟩
        refine ⟨q2, fs.getD (j + 2) [] ++ [0], pl ws wt - (ws.idxOf e + 1), by show [V.ref q2, V.int (((pl ws wt : Nat) : Int) - (((ws.idxOf e : Nat) : Int) + 1))] = _; rw [cast _ p1], e2', by rw [List.length_append, lF', List.length_singleton]; omega, fun H5 r5 s5 _ e5 => ?_⟩
        have s15 := s14.trans s5
        have l5 : (sprL (fs.getD (j + 2) [] ++ [0]) (pl ws wt - (ws.idxOf e + 1))).length = pl ws wt + 1 := by
          rw [sprL_len, List.length_append, lF', List.length_singleton]
          omega
        refine ⟨b1, r5, fs.getD (nmb acc wt) [], _, rfl, .of (s15 _ _ eb1), .of e5, by rw [lw, l5], by rw [lw]; omega, fun H6 r6 s6 n6 e6 => ?_⟩
        have s16 := s15.trans s6
        have ekn6 := s16 _ _ ekn
        have nr6 : r6 ≠ D := fun z => by rw [z, s15 _ _ ekn] at n6; cases n6
        refine ⟨_, rfl, _, rfl, D, _, _, nmb acc wt, rfl, rfl, ekn6, Evl.ixN_nat (by rw [List.length_map, las]; omega), ?_⟩
        have hl7 := (hli.ext s16).set ekn6 (i := nmb acc wt) (by omega) nr6 e6
        have away : ∀ a : Addr, a ≠ D → (upd H6 D (.lst ((as.map V.ref).set (nmb acc wt) (.ref r6)))) a = H6 a := fun a n => upd_ne n
        have si7 : ∀ b' o, H b' = some o → (upd H6 D (.lst ((as.map V.ref).set (nmb acc wt) (.ref r6)))) b' = some o := fun b' o hb' => by
          rw [upd_ne (ne_of_none hb' nD)]
          exact s16 _ _ (si _ _ hb')
        have e47 : (upd H6 D (.lst ((as.map V.ref).set (nmb acc wt) (.ref r6)))) q4 = some (.lst ((0 :: fs.getD (j + 2) []).map V.int)) := by
          rw [upd_ne (fun z => by rw [z, s13 _ _ ekn] at nq4; cases nq4)]
          exact (s5.trans s6) _ _ e4
        have L1 : LenOk ws (.lf false :: .lf true :: acc) (fs.set (nmb acc wt) (addL (fs.getD (nmb acc wt) []) (sprL (fs.getD (j + 2) [] ++ [0]) (pl ws wt - (ws.idxOf e + 1))))) := lok.set f1 (by rw [addL_len (by rw [lw, l5]), lw])
        have eS : abvS ws acc j fs = (fs.set (nmb acc wt) (addL (fs.getD (nmb acc wt) []) (sprL (fs.getD (j + 2) [] ++ [0]) (pl ws wt - (ws.idxOf e + 1))))).set (nmb acc tt') (addL ((fs.set (nmb acc wt) (addL (fs.getD (nmb acc wt) []) (sprL (fs.getD (j + 2) [] ++ [0]) (pl ws wt - (ws.idxOf e + 1))))).getD (nmb acc tt') []) (sprL (0 :: fs.getD (j + 2) []) (pl ws tt' - (ws.idxOf e + 1)))) := by
          unfold abvS
          rw [hgj]
        rw [eS]
        clear eS hli ekn ekn4 ekn6 away s16 s15 s14 s13 s1 s2 s3 s4 s5 s6 e1 e3 e5 e6 e2 e2' hb1 eb1 nb1 ebF hbF nbF las
        generalize fs.set (nmb acc wt) (addL (fs.getD (nmb acc wt) []) (sprL (fs.getD (j + 2) [] ++ [0]) (pl ws wt - (ws.idxOf e + 1)))) = fs1 at hl7 L1 ⊢
        generalize upd H6 D (.lst ((as.map V.ref).set (nmb acc wt) (.ref r6))) = H7 at hl7 si7 e47 ⊢
        -- found[there]
        have lfs1 : fs1.length = acc.length + 2 := L1.1
        have lt := L1.2 _ _ f2
        obtain ⟨as2, b2, ekn7, las2, hb2, nb2, eb2⟩ := hl7.get (i := nmb acc tt') (by omega)
        refine ⟨_, rfl, _, rfl, D, _, _, _, rfl, rfl, .of ekn7, atI_nat (by rw [List.getElem?_map, hb2]; rfl), ?_⟩
        refine ⟨_, rfl, _, rfl, _, rfl, sl, _, _, _, rfl, rfl, .of (si7 _ _ hsl), atI_nat (stg f2), _, rfl, _, _, rfl, rfl, ?_⟩
        refine ⟨q4, 0 :: fs.getD (j + 2) [], pl ws tt' - (ws.idxOf e + 1), by show [V.ref q4, V.int (((pl ws tt' : Nat) : Int) - (((ws.idxOf e : Nat) : Int) + 1))] = _; rw [cast _ p2], e47, by rw [List.length_cons, lF']; omega, fun H8 r8 s8 _ e8 => ?_⟩
        have l8 : (sprL (0 :: fs.getD (j + 2) []) (pl ws tt' - (ws.idxOf e + 1))).length = pl ws tt' + 1 := by
          rw [sprL_len, List.length_cons, lF']
          omega
        refine ⟨b2, r8, fs1.getD (nmb acc tt') [], _, rfl, .of (s8 _ _ eb2), .of e8, by rw [lt, l8], by rw [lt]; omega, fun H9 r9 s9 n9 e9 => ?_⟩
        have s79 := s8.trans s9
        have ekn9 := s79 _ _ ekn7
        have nr9 : r9 ≠ D := fun z => by rw [z, s8 _ _ ekn7] at n9; cases n9
        refine ⟨_, rfl, _, rfl, D, _, _, nmb acc tt', rfl, rfl, ekn9, Evl.ixN_nat (by rw [List.length_map, las2]; omega), ?_⟩
        refine fun _ => ⟨fun b' o hb' => ?_, (hl7.ext s79).set ekn9 (i := nmb acc tt') (by omega) nr9 e9, _, _, _, _, _, _, _, rfl⟩
        rw [upd_ne (ne_of_none hb' nD)]
        exact s79 _ _ (si7 _ _ hb')
      · obtain ⟨si, hli, z3, z5, z6, z7, z8, z9, z10, rfl⟩ := hp (.inr trivial)
        exact ⟨_, rfl, q Hn D si nD hli⟩
end

/-! ### a name set to a dict by comprehension, on one line -/
section
variable {X : Cx}
theorem ps_setDc {i : Nat} {y : Str} {py : Pos} {kx vx tg iter : Expr} {ifs : List Expr} {scope : Scope} {own : List (Str × Nat)} {pos spos : Pos} {wi : TI} {g : TG} {tt : TT} {tk tv : TE} (hc : X.calm = true) (hN : X.N.Nodup) (hy : X.N[i]? = some y) (hyl : X.env.scope.names.lookup y = some .local)
    (hsw : swapsWith (.DictComp kx vx [⟨tg, iter, ifs, 0⟩] scope pos) (some (.Name y py)) spos.line X.env = pure true) (hi : PI X tg iter wi) (ok : BlkOk X.N X.env.scope scope own)
    (hg : ∀ (s : Shared) (H : Hp) (C : Addr) (cl : List (Str × Addr)) (fp : List Addr), PG (X.blk s H scope (compEnvC scope cl C X.env) fp) tg g) (ht : ∀ (s : Shared) (H : Hp) (C : Addr) (cl : List (Str × Addr)) (fp : List Addr), PTs (X.blk s H scope (compEnvC scope cl C X.env) fp) ifs tt)
    (hk : ∀ (s : Shared) (H : Hp) (C : Addr) (cl : List (Str × Addr)) (fp : List Addr), PE (X.blk s H scope (compEnvC scope cl C X.env) fp) kx tk)
    (he : ∀ (s : Shared) (H : Hp) (C : Addr) (cl : List (Str × Addr)) (fp : List Addr), PE (X.blk s H scope (compEnvC scope cl C X.env) fp) vx tv) (hs : ∀ x, foldedSetIterable iter X.env x = pure x := by intro _; rfl) :
    PS X (.Assign [.Name y py] (.DictComp kx vx [⟨tg, iter, ifs, 0⟩] scope pos) spos) (tAsg (tDc wi g tt tk tv (own.map (·.2))) (gName i)) := by
  refine ⟨fun pins s σ H D I h => ?_⟩
  rw [exec_Assign_Name_used _ _ _ _ hsw]
  refine wpAny_bind (wpAny_standAt (wpAny_bind ?_))
  show wpAny _ X.A (do let _ ← comprehension (.DictComp kx vx [⟨tg, iter, ifs, 0⟩] scope pos) scope X.env (firstIterPos [⟨tg, iter, ifs, 0⟩] pos) newDict false (eval iter X.env) (some (assign (.Name y py) X.env))) _ _ s
  have h : tDc wi g tt tk tv (own.map (·.2)) σ H (fun x H1 => gName i x σ H1 D.nx) := h
  refine wpAny_bind (thn (dc_core (Qf := fun _ s' => SP X pins D .next s') hc hN I hi ok hg ht hk he hs h fun L C s' m H' I' q hn f => ?_) fun _ s' hq => wpAny_pure (wpAny_pure hq))
  show wpAny _ _ (assign (.Name y py) X.env (.ref L)) _ _ _
  refine wpAny_assign_Name (store_ok2 (v := V.ref L) I' hN hy (.inl hyl) rfl (fun s2 I2 ⟨a, sb, ha⟩ => ?_) (.inr hyl))
  obtain ⟨f0, f1, f2, f3, f4, f5⟩ := f
  have haC : C ≠ a := by
    rcases ha with z | z
    · rw [z]; exact f1
    · exact fun e => f4 y a z e.symm
  refine ⟨m, hn.sameBut sb haC, fun h3 sb3 => ?_⟩
  exact ⟨_, H', I2.turned (t' := s2.toks) (fun b o hb e => (sb3.2 b hb).trans e) f0 f1 f3 f4 f5, q⟩
theorem sw_trueD {kx vx : Expr} {gs : List Comprehension} {scope : Scope} {pos py : Pos} {y : Str} {l : Nat} {env : Env} (hk : env.scope.kind = .function) (hy : env.scope.names.lookup y = some .local) (hl : (py.line == pos.line) = true)
    (ha : (scope.names.any fun (n, k) => n == y && (k == .local || k == .cell)) = false) : swapsWith (.DictComp kx vx gs scope pos) (some (.Name y py)) l env = pure true := by
  have ky : env.kindOf y = some .local := hy
  have hb : env.blockKind = .function := by unfold Env.blockKind; rw [hk]; rfl
  unfold swapsWith
  simp only [hb, ky, ha, Expr.pos, hl]
  rfl
end

/-! ### dicts by comprehension over a list -/
theorem dc_list {K : PySem.W.Frag} {a : Addr} {xs : List V} {g : TG} {tt : TT} {tk tv : TE} {vs : List Nat} {σ : L2.St} {H1 : Hp} {D : Addr} {Qd : Hp → Prop} (Pv : Nat → Hp → Prop) (h0 : Pv 0 (upd H1 D (.dK []))) (hl : ∀ i H, i ≤ xs.length → Pv i H → SqL K H a xs)
    (hs : ∀ i x H, xs[i]? = some x → Pv i H → g x (wipe σ vs) H fun σ2 H2 => wipe σ2 vs = wipe σ vs ∧ tt σ2 H2 fun b H3 =>
      if b = true then tk σ2 H3 fun y H4 => tv σ2 H4 fun z H5 => ∃ kvs k, y = kV k ∧ H5 D = some (.dK kvs) ∧ kvs.length < sizeLine ∧ Pv (i + 1) (upd H5 D (.dK (putK kvs k z))) else Pv (i + 1) H3) (hd : ∀ H, Pv xs.length H → Qd H) :
    ∃ W : Nat → Nat → Hp → Prop, (∃ m, W 0 m (upd H1 D (.dK []))) ∧ ∀ i m H, W i m H →
      ((Itl K a).stop i H ∧ Qd H) ∨ ((Itl K a).go i H ∧ ∃ Nx : Hp → Prop, (∀ H', Nx H' → ∃ m', m' < m ∧ W (i + 1) m' H') ∧ ∀ x H', (Itl K a).yld i H x H' → g x (wipe σ vs) H' fun σ2 H2 => wipe σ2 vs = wipe σ vs ∧ tt σ2 H2 fun b H3 =>
        if b = true then tk σ2 H3 fun y H4 => tv σ2 H4 fun z H5 => ∃ kvs k, y = kV k ∧ H5 D = some (.dK kvs) ∧ kvs.length < sizeLine ∧ Nx (upd H5 D (.dK (putK kvs k z))) else Nx H3) := by
  refine ⟨fun i m H => m = xs.length - i ∧ i ≤ xs.length ∧ Pv i H, ⟨xs.length, by simp, Nat.zero_le _, h0⟩, ?_⟩
  rintro i m H ⟨rfl, hi, p⟩
  have q := hl i H hi p
  by_cases hlt : i < xs.length
  · refine .inr ⟨⟨xs, xs[i], q, by simp [hlt]⟩, Pv (i + 1), fun H' p' => ⟨xs.length - (i + 1), by omega, rfl, hlt, p'⟩, fun x H' y => ?_⟩
    obtain ⟨e, y⟩ := y
    subst e
    exact hs i x _ (y xs q) p
  · have e : i = xs.length := by omega
    subst e
    exact .inl ⟨⟨xs, q, Nat.le_refl _⟩, hd H p⟩

/-- over a list's items with their places, into a dict -/
theorem dc_enum {w : World} {K : PySem.W.Frag} {a : Addr} {xs : List V} {g : TG} {tt : TT} {tk tv : TE} {vs : List Nat} {σ : L2.St} {H1 : Hp} {D : Addr} {Qd : Hp → Prop} (Pv : Nat → Hp → Prop) (h0 : Pv 0 (upd H1 D (.dK []))) (hl : ∀ i H, i ≤ xs.length → Pv i H → SqL K H a xs)
    (hs : ∀ i x H T, xs[i]? = some x → Pv i H → H T = none → g (.ref T) (wipe σ vs) (upd H T (.tup [.int ((i : Nat) : Int), x])) fun σ2 H2 => wipe σ2 vs = wipe σ vs ∧ tt σ2 H2 fun b H3 =>
      if b = true then tk σ2 H3 fun y H4 => tv σ2 H4 fun z H5 => ∃ kvs k, y = kV k ∧ H5 D = some (.dK kvs) ∧ kvs.length < sizeLine ∧ Pv (i + 1) (upd H5 D (.dK (putK kvs k z))) else Pv (i + 1) H3) (hd : ∀ H, Pv xs.length H → Qd H) :
    ∃ W : Nat → Nat → Hp → Prop, (∃ m, W 0 m (upd H1 D (.dK []))) ∧ ∀ i m H, W i m H →
      ((Ite K a).stop i H ∧ Qd H) ∨ ((Ite K a).go i H ∧ ∃ Nx : Hp → Prop, (∀ H', Nx H' → ∃ m', m' < m ∧ W (i + 1) m' H') ∧ ∀ x H', (Ite K a).yld i H x H' → g x (wipe σ vs) H' fun σ2 H2 => wipe σ2 vs = wipe σ vs ∧ tt σ2 H2 fun b H3 =>
        if b = true then tk σ2 H3 fun y H4 => tv σ2 H4 fun z H5 => ∃ kvs k, y = kV k ∧ H5 D = some (.dK kvs) ∧ kvs.length < sizeLine ∧ Nx (upd H5 D (.dK (putK kvs k z))) else Nx H3) := by
  refine ⟨fun i m H => m = xs.length - i ∧ i ≤ xs.length ∧ Pv i H, ⟨xs.length, by simp, Nat.zero_le _, h0⟩, ?_⟩
  rintro i m H ⟨rfl, hi, p⟩
  have q := hl i H hi p
  by_cases hlt : i < xs.length
  · refine .inr ⟨⟨xs, xs[i], q, by simp [hlt]⟩, Pv (i + 1), fun H' p' => ⟨xs.length - (i + 1), by omega, rfl, hlt, p'⟩, fun x H' y => ?_⟩
    obtain ⟨T, z, rfl, nT, rfl, hz⟩ := y
    exact hs i z H T (hz xs q) p nT
  · have e : i = xs.length := by omega
    subst e
    exact .inl ⟨⟨xs, q, Nat.le_refl _⟩, hd H p⟩

/-! ### shares: what each row adds -/
def ordF (n s : Nat) : Int := ((fac s * fac (n - 1 - s) : Nat) : Int)
theorem fac_ten : ∀ n, n < 11 → fac n ≤ 3628800 := by decide
theorem ordF_small {n s : Nat} (h : n ≤ 10) : 0 ≤ ordF n s ∧ (s < 11 → ordF n s ≤ 13168189440000) := by
  refine ⟨Int.natCast_nonneg _, fun hs => ?_⟩
  have h1 := fac_ten s hs
  have h2 := fac_ten (n - 1 - s) (by omega)
  have h3 : fac s * fac (n - 1 - s) ≤ 3628800 * 3628800 := Nat.mul_le_mul h1 h2
  unfold ordF
  omega
theorem ssum_abs {M : Int} : ∀ (ms : List Int) (f : List Int → Int), (∀ S, S.Sublist ms → -M ≤ f S ∧ f S ≤ M) → -(2 ^ ms.length * M) ≤ ssum ms f ∧ ssum ms f ≤ 2 ^ ms.length * M
  | [], f, h => by
    have := h [] (List.Sublist.refl _)
    show -(2 ^ 0 * M) ≤ f [] ∧ f [] ≤ 2 ^ 0 * M
    rw [Int.pow_zero, Int.one_mul]
    exact this
  | m :: ms, f, h => by
    have h1 := ssum_abs ms f fun S hS => h S (.cons _ hS)
    have h2 := ssum_abs ms (fun S => f (m :: S)) fun S hS => h _ (.cons_cons _ hS)
    show -(2 ^ (ms.length + 1) * M) ≤ ssum ms f + ssum ms _ ∧ ssum ms f + ssum ms _ ≤ 2 ^ (ms.length + 1) * M
    have e : (2 : Int) ^ (ms.length + 1) * M = 2 ^ ms.length * M + 2 ^ ms.length * M := by
      rw [Int.pow_succ]
      generalize (2 : Int) ^ ms.length = u
      grind
    rw [e]
    generalize (2 : Int) ^ ms.length * M = u at h1 h2 ⊢
    omega
theorem vl_01 (a : Bd) (S : List Int) : 0 ≤ vl a S ∧ vl a S ≤ 1 := by
  unfold vl
  split <;> omega
/-- a list's numbers, weighted by their places from s on -/
def wlL (o : Nat → Int) (s : Nat) (xs : List Int) : List Int := xs.mapIdx fun i x => x * o (s + i)
theorem wlL_sum (o : Nat → Int) : ∀ (xs : List Int) (s : Nat), (wlL o s xs).sum = pr o xs s
  | [], _ => rfl
  | x :: xs, s => by
    unfold wlL
    rw [List.mapIdx_cons, List.sum_cons]
    show x * o (s + 0) + _ = x * o s + pr o xs (s + 1)
    rw [← wlL_sum o xs (s + 1)]
    unfold wlL
    have : (fun i x => x * o (s + (i + 1))) = fun (i : Nat) (x : Int) => x * o (s + 1 + i) := by
      funext i x
      rw [show s + (i + 1) = s + 1 + i by omega]
    rw [this]
    rfl
theorem wlL_get (o : Nat → Int) (s : Nat) (xs : List Int) (i : Nat) : (wlL o s xs)[i]? = xs[i]?.map fun x => x * o (s + i) := by
  unfold wlL
  rw [List.getElem?_mapIdx]
theorem pr_snoc (h : Nat → Int) (y : Int) : ∀ (xs : List Int) (s : Nat), pr h (xs ++ [y]) s = pr h xs s + y * h (s + xs.length)
  | [], s => by show y * h s + 0 = 0 + y * h (s + 0); rw [Int.add_zero, Int.zero_add]; rfl
  | x :: xs, s => by
    show x * h s + pr h (xs ++ [y]) (s + 1) = x * h s + pr h xs (s + 1) + y * h (s + (xs.length + 1))
    rw [pr_snoc h y xs (s + 1), show s + 1 + xs.length = s + (xs.length + 1) by omega]
    omega
theorem putK_same_len {kvs : List (Key × V)} {k : Key} {v0 v : V} (h : valV kvs k = some v0) : (putK kvs k v).length = kvs.length := by
  unfold putK
  rw [if_pos (by rw [valV_any, h]; rfl), List.length_map]
theorem putK_le (kvs : List (Key × V)) (k : Key) (v : V) : (putK kvs k v).length ≤ kvs.length + 1 := by
  unfold putK
  split
  · rw [List.length_map]; omega
  · rw [List.length_append]; exact Nat.le_refl _
theorem subL_len {xs ys : List Int} (h : xs.length = ys.length) : (subL xs ys).length = xs.length := by
  unfold subL
  rw [List.length_zipWith]
  omega
/-- over a list's items with their places, into a list -/
theorem lc_enum {K : PySem.W.Frag} {a : Addr} {xs : List V} {g : TG} {tt : TT} {te : TE} {vs : List Nat} {σ : L2.St} {H1 : Hp} {D : Addr} {Qd : Hp → Prop} (Pv : Nat → Hp → Prop) (h0 : Pv 0 (upd H1 D (.lst []))) (hl : ∀ i H, i ≤ xs.length → Pv i H → SqL K H a xs)
    (hs : ∀ i x H T, xs[i]? = some x → Pv i H → H T = none → g (.ref T) (wipe σ vs) (upd H T (.tup [.int ((i : Nat) : Int), x])) fun σ2 H2 => wipe σ2 vs = wipe σ vs ∧ tt σ2 H2 fun b H3 =>
      if b = true then te σ2 H3 fun y H4 => ∃ acc, H4 D = some (.lst acc) ∧ acc.length < sizeLine ∧ Pv (i + 1) (upd H4 D (.lst (acc ++ [y]))) else Pv (i + 1) H3) (hd : ∀ H, Pv xs.length H → Qd H) :
    ∃ W : Nat → Nat → Hp → Prop, (∃ m, W 0 m (upd H1 D (.lst []))) ∧ ∀ i m H, W i m H →
      ((Ite K a).stop i H ∧ Qd H) ∨ ((Ite K a).go i H ∧ ∃ Nx : Hp → Prop, (∀ H', Nx H' → ∃ m', m' < m ∧ W (i + 1) m' H') ∧ ∀ x H', (Ite K a).yld i H x H' → g x (wipe σ vs) H' fun σ2 H2 => wipe σ2 vs = wipe σ vs ∧ tt σ2 H2 fun b H3 =>
        if b = true then te σ2 H3 fun y H4 => ∃ acc, H4 D = some (.lst acc) ∧ acc.length < sizeLine ∧ Nx (upd H4 D (.lst (acc ++ [y]))) else Nx H3) := by
  refine ⟨fun i m H => m = xs.length - i ∧ i ≤ xs.length ∧ Pv i H, ⟨xs.length, by simp, Nat.zero_le _, h0⟩, ?_⟩
  rintro i m H ⟨rfl, hi, p⟩
  have q := hl i H hi p
  by_cases hlt : i < xs.length
  · refine .inr ⟨⟨xs, xs[i], q, by simp [hlt]⟩, Pv (i + 1), fun H' p' => ⟨xs.length - (i + 1), by omega, rfl, hlt, p'⟩, fun x H' y => ?_⟩
    obtain ⟨T, z, rfl, nT, rfl, hz⟩ := y
    exact hs i z H T (hz xs q) p nT
  · have e : i = xs.length := by omega
    subst e
    exact .inl ⟨⟨xs, q, Nat.le_refl _⟩, hd H p⟩
theorem pow_ten : ∀ k, k < 11 → (2 : Int) ^ k ≤ 1024 := by decide
theorem pr_small {n j : Nat} {rs xs : List Int} {a b : Bd} (h : Rep rs (fun S => vl a S - vl b S) xs) (hn : n ≤ 10) (hr : rs.length ≤ 10) (hj : j + rs.length < 11) : -(2 ^ 64) < pr (ordF n) xs j ∧ pr (ordF n) xs j < 2 ^ 64 := by
  have h1 := ssum_abs (M := 13168189440000) rs (fun S => ordF n (j + S.length) * (vl a S - vl b S)) fun S hS => by
    have hl := hS.length_le
    have h2 := (ordF_small (s := j + S.length) hn)
    have h3 := h2.2 (by omega)
    have h4 := h2.1
    have h5 := vl_01 a S
    have h6 := vl_01 b S
    generalize ordF n (j + S.length) = o at h3 h4
    have : vl a S - vl b S = -1 ∨ vl a S - vl b S = 0 ∨ vl a S - vl b S = 1 := by omega
    rcases this with z | z | z <;> rw [z] <;> omega
  rw [h.2]
  have h7 := pow_ten rs.length (by omega)
  generalize ssum rs _ = u at h1
  generalize (2 : Int) ^ rs.length = v at h1 h7
  omega
theorem adN_step (o : Nat → Int) {ws : List Int} {acc : List Bd} (A : Bd) (e : Int) {i : Nat} {b : Bd} (h : acc[i]? = some b) : adN o ws acc A e (i + 1) = adN o ws acc A e i + pr (ctr o ws e b) ((abvK ws acc A acc.length).getD (i + 2) []) 0 := by
  have g : ∀ x, x = acc[i]? → (match x with | some b => pr (ctr o ws e b) ((abvK ws acc A acc.length).getD (i + 2) []) 0 | none => 0) = pr (ctr o ws e b) ((abvK ws acc A acc.length).getD (i + 2) []) 0 := fun x hx => by rw [hx, h]
  exact congrArg (adN o ws acc A e i + ·) (g _ rfl)
def sp_added (C : Addr) (K : PySem.W.Frag) : Sp := fun vs H Q _ => ∃ s N es L c A, ∃ (la : Addr) (ws : List Int), vs = [.ref s.p, .int ((c : Nat) : Int), .ref la] ∧ Sto C K H s N es L ∧ At N c A ∧ Wf ws A ∧ A.sz ≤ 1000 ∧ H la = some (.lst (ws.map V.int)) ∧ ws.Pairwise (· < ·) ∧ ws.length ≤ 10 ∧
  ∀ H' r kvs, Same H H' → H' r = some (.dK kvs) → (∀ e ∈ ws, valV kvs (.inl e) = some (.int (DD (ordF ws.length) e (vl A) ws 0))) → Q (.ref r) H'
section
variable {P : Program} {w : World} {K : PySem.W.Frag} {mg : Str → Option Value} {base : Heap}
set_option maxHeartbeats 8000000 in
theorem ok_added {f C : Addr} {fd : FuncData} (F : Fun K "added_by_entries" "added_by_entries" s_added_by_entries f fd) (M : Mg mg) (c_Diagrams_table : ClM P w K mg base 3 C "table" (sp_table C K)) (h_factorial : mg "factorial" = some (.builtin "math.factorial")) (c_spread : Cl P w K mg base 2 "spread" (sp_spread K)) (c_sets_below : Cl P w K mg base 3 "sets_below" (sp_below K)) (c_sets_above : Cl P w K mg base 3 "sets_above" (sp_above K)) : FnOk P w K mg base CX0 4 f fd ["store", "condition", "entries"] (sp_added C K) := by
  refine F.ok sc_added_by_entries (fun vs H Q E h => ?_) (fun cdv A0 outer s0 H vs Q E hr h => ?_)
  · obtain ⟨s, N, es, L, c, A, la, ws, rfl, _⟩ := h
    rfl
  · obtain ⟨s, N, es, L, c, A, la, ws, rfl, st, hA, wA, hsz, hla, hws, hwl, q⟩ := h
    have idx_at : ∀ {i : Nat} {y : Int}, ws[i]? = some y → ws.idxOf y = i := fun {i y} hy => by
      have hi : i < ws.length := (List.getElem?_eq_some_iff.mp hy).1
      have hyi : ws[i] = y := by rw [List.getElem?_eq_getElem hi] at hy; exact Option.some.inj hy
      rw [← hyi]
      exact List.Nodup.idxOf_getElem (hws.imp (fun h => by omega)) i hi
    refine ⟨_, (pss_cons (ps_asg (pe_mt c_Diagrams_table hr (by first | decide | omega) (pv 0) (pa_cons (pv 1) pa_nil)) (pg_tup (by rfl) (pgs_cons (pg_name (i := 3) sc_added_by_entries.nd rfl (.inl rfl)) (pgs_cons (pg_name (i := 4) sc_added_by_entries.nd rfl (.inl rfl)) pgs_nil))))
      (pss_cons (ps_set (i := 5) sc_added_by_entries.nd rfl (.inr rfl) (pe_callB (len_seqK K) (by rfl) M.len PySem.boot_len (pa_cons (pv 2) pa_nil)))
      (pss_cons (ps_set (i := 8) sc_added_by_entries.nd rfl (.inr rfl) (pe_dc (own := [("at", 6), ("entry", 7)]) (g := gTup K 2 (gCons (gName 6) (gCons (gName 7) (gNil)))) (tt := tYes) rfl sc_added_by_entries.nd (pi_enum (by rfl) M.enumerate (pa_cons (pv 2) pa_nil)) (blkOk_by (N := N_added_by_entries) (sc := defScope s_added_by_entries) (by decide +kernel)) (fun _ _ _ _ _ => (pg_tup (by rfl) (pgs_cons (pg_name (i := 6) sc_added_by_entries.nd rfl (.inl rfl)) (pgs_cons (pg_name (i := 7) sc_added_by_entries.nd rfl (.inl rfl)) pgs_nil)))) (fun _ _ _ _ _ => pts_nil) (fun _ _ _ _ _ => (pv 7)) (fun _ _ _ _ _ => (pv 6))))
      (pss_cons (ps_set (i := 9) sc_added_by_entries.nd rfl (.inl rfl) (pe_op op_cat (pe_lst (pa_cons (pv 5) (pa_cons (pv 5) pa_nil))) (pe_lc (own := [("entry", 7), ("_", 23), ("_", 23)]) (g := gTup K 3 (gCons (gName 7) (gCons (gName 23) (gCons (gName 23) (gNil))))) (tt := tYes) rfl sc_added_by_entries.nd (pi_list (pv 3)) (blkOk_by (N := N_added_by_entries) (sc := defScope s_added_by_entries) (by decide +kernel)) (fun _ _ _ _ _ => (pg_tup (by rfl) (pgs_cons (pg_name (i := 7) sc_added_by_entries.nd rfl (.inl rfl)) (pgs_cons (pg_name (i := 23) sc_added_by_entries.nd rfl (.inl rfl)) (pgs_cons (pg_name (i := 23) sc_added_by_entries.nd rfl (.inl rfl)) pgs_nil))))) (fun _ _ _ _ _ => pts_nil) (fun _ _ _ _ _ => (pe_dget (hu_of hr) (pv 8) (pv 7) (fun _ _ => rfl))))))
      (pss_cons (ps_set (i := 10) sc_added_by_entries.nd rfl (.inl rfl) (pe_u c_sets_below hr (by first | decide | omega) (by rfl) (pa_cons (pv 3) (pa_cons (pv 9) pa_nil))))
      (pss_cons (ps_set (i := 11) sc_added_by_entries.nd rfl (.inl rfl) (pe_u c_sets_above hr (by first | decide | omega) (by rfl) (pa_cons (pv 3) (pa_cons (pv 9) (pa_cons (pv 4) pa_nil)))))
      (pss_cons (ps_set (i := 13) sc_added_by_entries.nd rfl (.inr rfl) (pe_lc (own := [("size", 12)]) (g := gName 12) (tt := tYes) rfl sc_added_by_entries.nd (pi_range1 (by rfl) M.range (pa_cons (pv 5) pa_nil)) (blkOk_by (N := N_added_by_entries) (sc := defScope s_added_by_entries) (by decide +kernel)) (fun _ _ _ _ _ => (pg_name (i := 12) sc_added_by_entries.nd rfl (.inl rfl))) (fun _ _ _ _ _ => pts_nil) (fun _ _ _ _ _ => (pe_op op_mul (pe_callBfun cr_fac (by rfl) h_factorial (pa_cons (pv 12) pa_nil)) (pe_callBfun cr_fac (by rfl) h_factorial (pa_cons (pe_op op_sub (pe_op op_sub (pv 5) pe_int) (pv 12)) pa_nil))))))
      (pss_cons (ps_setDc (i := 14) (own := [("entry", 7)]) (g := gName 7) (tt := tYes) rfl sc_added_by_entries.nd rfl rfl (sw_trueD rfl rfl rfl (by decide +kernel)) (pi_list (pv 2)) (blkOk_by (N := N_added_by_entries) (sc := defScope s_added_by_entries) (by decide +kernel)) (fun _ _ _ _ _ => (pg_name (i := 7) sc_added_by_entries.nd rfl (.inl rfl))) (fun _ _ _ _ _ => pts_nil) (fun _ _ _ _ _ => (pv 7)) (fun _ _ _ _ _ => pe_int))
      (pss_cons (ps_for PassesOwn.never rfl (pi_enum (by rfl) M.enumerate (pa_cons (pv 3) pa_nil)) (pg_tup (by rfl) (pgs_cons (pg_name (i := 6) sc_added_by_entries.nd rfl (.inl rfl)) (pgs_cons (pg_tup (by rfl) (pgs_cons (pg_name (i := 7) sc_added_by_entries.nd rfl (.inl rfl)) (pgs_cons (pg_name (i := 15) sc_added_by_entries.nd rfl (.inl rfl)) (pgs_cons (pg_name (i := 16) sc_added_by_entries.nd rfl (.inl rfl)) pgs_nil)))) pgs_nil))) (pss_cons (ps_set (i := 17) sc_added_by_entries.nd rfl (.inl rfl) (pe_op op_add (pe_ix (ix_listK K) (pv 9) (pe_op op_add (pv 6) pe_int) (fun _ _ => rfl)) pe_int))
      (pss_cons (ps_set (i := 18) sc_added_by_entries.nd rfl (.inl rfl) (pe_u c_spread hr (by first | decide | omega) (by rfl) (pa_cons (pe_ix (ix_listK K) (pv 10) (pv 16) (fun _ _ => rfl)) (pa_cons (pe_op op_sub (pe_ix (ix_listK K) (pv 9) (pv 16) (fun _ _ => rfl)) (pv 17)) pa_nil))))
      (pss_cons (ps_set (i := 19) sc_added_by_entries.nd rfl (.inl rfl) (pe_u c_spread hr (by first | decide | omega) (by rfl) (pa_cons (pe_ix (ix_listK K) (pv 10) (pv 15) (fun _ _ => rfl)) (pa_cons (pe_op op_sub (pe_ix (ix_listK K) (pv 9) (pv 15) (fun _ _ => rfl)) (pv 17)) pa_nil))))
      (pss_cons (ps_setLc (i := 20) (own := [("one", 24), ("other", 25)]) (g := gTup K 2 (gCons (gName 24) (gCons (gName 25) (gNil)))) (tt := tYes) rfl sc_added_by_entries.nd rfl rfl (sw_true rfl rfl rfl (by decide +kernel)) (pi_zip (by rfl) M.zip (pa_cons (pv 18) (pa_cons (pv 19) pa_nil))) (blkOk_by (N := N_added_by_entries) (sc := defScope s_added_by_entries) (by decide +kernel)) (fun _ _ _ _ _ => (pg_tup (by rfl) (pgs_cons (pg_name (i := 24) sc_added_by_entries.nd rfl (.inl rfl)) (pgs_cons (pg_name (i := 25) sc_added_by_entries.nd rfl (.inl rfl)) pgs_nil)))) (fun _ _ _ _ _ => pts_nil) (fun _ _ _ _ _ => (pe_op op_sub (pv 24) (pv 25))))
      (pss_one (ps_for PassesOwn.never rfl (pi_enum (by rfl) M.enumerate (pa_cons (pe_ix (ix_listK K) (pv 11) (pe_op op_add (pv 6) pe_int) (fun _ _ => rfl)) pa_nil)) (pg_tup (by rfl) (pgs_cons (pg_name (i := 12) sc_added_by_entries.nd rfl (.inr rfl)) (pgs_cons (pg_name (i := 21) sc_added_by_entries.nd rfl (.inl rfl)) pgs_nil))) (pss_cons (ps_setLc (i := 22) (own := [("more", 26), ("weight", 27)]) (g := gTup K 2 (gCons (gName 26) (gCons (gName 27) (gNil)))) (tt := tYes) rfl sc_added_by_entries.nd rfl rfl (sw_true rfl rfl rfl (by decide +kernel)) (pi_enum (by rfl) M.enumerate (pa_cons (pv 20) pa_nil)) (blkOk_by (N := N_added_by_entries) (sc := defScope s_added_by_entries) (by decide +kernel)) (fun _ _ _ _ _ => (pg_tup (by rfl) (pgs_cons (pg_name (i := 26) sc_added_by_entries.nd rfl (.inl rfl)) (pgs_cons (pg_name (i := 27) sc_added_by_entries.nd rfl (.inl rfl)) pgs_nil)))) (fun _ _ _ _ _ => pts_nil) (fun _ _ _ _ _ => (pe_op op_mul (pv 27) (pe_ix (ix_listK K) (pv 13) (pe_op op_add (pv 12) (pv 26)) (fun _ _ => rfl)))))
      (pss_one (ps_daug (hu_of hr) (pv 14) (pv 7) (pe_op op_mul (pv 21) (pe_callB (cr_sum rfl) (by rfl) M.sum (by decide +kernel) (pa_cons (pv 22) pa_nil))) in_add (fun _ _ _ => rfl)))))))))))
      (pss_one (ps_ret (pv 14)))))))))))), ?_⟩
    refine ⟨_, rfl, st.go (by decide +kernel) (by decide +kernel) (by decide +kernel) ⟨_, rfl, ?_⟩⟩
    refine ⟨s, N, es, L, c, A, rfl, st, hA, hsz, fun H1 q1 nl xs s1 e1 nnl enl dxs => ?_⟩
    have hlen := post_len A []
    have h00 : ([] : List Bd).length = 0 := rfl
    have hord : Ordd (post [] A) := post_ord A [] (by intro _ _ _ _ h; simp at h)
    have hnds := post_nds A [] (by intro _ h; cases h)
    have hwf := post_wf A [] wA (by intro _ h; cases h)
    have hself := post_self A []
    generalize post [] A = acc at e1 dxs hlen hord hnds hself hwf
    refine ⟨q1, _, rfl, .of e1, rfl, _, _, rfl, _, _, rfl, rfl, ?_⟩
    have hla1 := s1 _ _ hla
    refine ⟨_, rfl, la, _, rfl, .inl (.of hla1), ?_⟩
    rw [List.length_map]
    -- places
    refine ⟨_, rfl, la, _, rfl, .of hla1, fun pd npd => ?_⟩
    refine dc_enum (w := w) (K := K) (a := la) (xs := ws.map V.int) (fun i Hi => Same H1 Hi ∧ ∃ kvs, Hi pd = some (.dK kvs) ∧ kvs.length ≤ i ∧ ∀ x ∈ ws.take i, valV kvs (.inl x) = some (.int ((ws.idxOf x : Nat) : Int))) ⟨same_upd npd, [], upd_same, Nat.le_refl _, by intro _ h; simp at h⟩ (fun i Hi _ hp => .of (hp.1 _ _ hla1)) (fun i x Hi T hx hp nT => ?_) (fun H2 hp => ?_)
    · obtain ⟨si, kvs, eD, lk, hv⟩ := hp
      rw [List.getElem?_map] at hx
      obtain ⟨y, hy, rfl⟩ := Option.map_eq_some_iff.mp hx
      have hi : i < ws.length := (List.getElem?_eq_some_iff.mp hy).1
      refine ⟨T, _, rfl, .of upd_same, rfl, _, _, rfl, _, _, rfl, rfl, rfl, ?_⟩
      have sT := same_upd nT (o := .tup [.int ((i : Nat) : Int), .int y])
      refine ⟨_, rfl, _, rfl, kvs, .inl y, rfl, sT _ _ eD, Nat.lt_of_le_of_lt (m := 60) (by omega) (by decide), ?_, _, upd_same, ?_, fun z hz => ?_⟩
      · intro b o hb
        rw [upd_ne (ne_of_none hb npd)]
        exact sT _ _ (si _ _ hb)
      · have := putK_le kvs (.inl y : Key) (.int ((i : Nat) : Int))
        omega
      · rw [valV_put]
        by_cases g : z = y
        · subst g
          rw [if_pos rfl, idx_at hy]
        · rw [if_neg (fun q => g (Sum.inl.inj q))]
          refine hv z ?_
          rw [List.take_add_one, hy] at hz
          rcases List.mem_append.mp hz with hz | hz
          · exact hz
          · exact absurd (List.mem_singleton.mp hz) g
    obtain ⟨s2, kvp, ePd, _, hvp⟩ := hp
    rw [List.length_map, List.take_of_length_le (Nat.le_refl _)] at hvp
    have enl2 := s2 _ _ enl
    have lxs : xs.length = acc.length := by rw [DpAll.len dxs, List.length_map]
    -- a node's row
    have node : ∀ {Hi : Hp} {i : Nat} {y : V}, Same H1 Hi → xs[i]? = some y → ∃ e wt tt' ra, y = .ref ra ∧ acc[i]? = some (.nd e wt tt') ∧ Wf ws (.nd e wt tt') ∧ SqT K Hi ra [.int e, .int ((nmb acc wt : Nat) : Int), .int ((nmb acc tt' : Nat) : Int)] ∧ knw (acc.take i) wt = true ∧ knw (acc.take i) tt' = true := by
      intro Hi i y si hy
      have hi : i < acc.length := by rw [← lxs]; exact (List.getElem?_eq_some_iff.mp hy).1
      obtain ⟨u, hu, hd⟩ := DpAll.get dxs (show (acc.map (rowD acc))[i]? = some (rowD acc acc[i]) by rw [List.getElem?_map, List.getElem?_eq_getElem hi]; rfl)
      obtain rfl : u = y := Option.some.inj (hu.symm.trans hy)
      obtain ⟨e, wt, tt', hei⟩ := hnds acc[i] (List.getElem_mem hi)
      have hwi : Wf ws (.nd e wt tt') := by rw [← hei]; exact hwf acc[i] (List.getElem_mem hi)
      have hgi : acc[i]? = some (.nd e wt tt') := by rw [List.getElem?_eq_getElem hi, hei]
      obtain ⟨k1, k2⟩ := hord i e wt tt' hgi
      rw [hei] at hd
      have hd' : Dp K H1 u (.tuple [.int e, .int ((nmb acc wt : Nat) : Int), .int ((nmb acc tt' : Nat) : Int)]) := hd
      obtain ⟨ra, rs, rfl, hrs, hra⟩ := dp_tup hd'
      have : rs = [.int e, .int ((nmb acc wt : Nat) : Int), .int ((nmb acc tt' : Nat) : Int)] := by
        cases hra with
        | cons g1 g2 =>
          cases g1
          cases g2 with
          | cons g3 g4 =>
            cases g3
            cases g4 with
            | cons g5 g6 =>
              cases g5
              cases g6
              rfl
      subst this
      exact ⟨e, wt, tt', ra, rfl, hgi, hwi, SqT.ext si hrs, k1, k2⟩
    -- starts
    refine ⟨_, rfl, _, rfl, by show 2 ≤ sizeLine; decide, fun p1 np1 => ?_⟩
    have sp1 := same_upd np1 (o := .lst [.int ((ws.length : Nat) : Int), .int ((ws.length : Nat) : Int)])
    have ep1 : (upd H2 p1 (.lst [.int ((ws.length : Nat) : Int), .int ((ws.length : Nat) : Int)])) p1 = some (.lst [.int ((ws.length : Nat) : Int), .int ((ws.length : Nat) : Int)]) := upd_same
    generalize upd H2 p1 (.lst [.int ((ws.length : Nat) : Int), .int ((ws.length : Nat) : Int)]) = H3 at sp1 ep1 ⊢
    have s13 := s2.trans sp1
    refine ⟨_, rfl, nl, rfl, ⟨_, .of (s13 _ _ enl)⟩, fun D nD => ?_⟩
    refine lc_list (K := K) (a := nl) (xs := xs) (fun i Hi => Same H3 Hi ∧ Hi D = some (.lst ((acc.take i).map fun a => V.int ((pl ws a : Nat) : Int)))) ⟨same_upd nD, upd_same⟩ (fun i Hi _ hp => .of (hp.1 _ _ (s13 _ _ enl))) (fun i y Hi hy hp => ?_) (fun H4 hp => ?_)
    · obtain ⟨si, eD⟩ := hp
      obtain ⟨e, wt, tt', ra, rfl, hgi, hwi, hsq, _, _⟩ := node (s13.trans si) hy
      refine ⟨ra, _, rfl, hsq, rfl, _, _, rfl, _, _, rfl, _, _, rfl, rfl, rfl, ?_⟩
      refine ⟨_, rfl, _, rfl, pd, _, rfl, .inl ⟨kvp, .inl e, .of ((sp1.trans si) _ _ ePd), rfl, (hvp e hwi.none_of).symm⟩, ?_⟩
      refine ⟨_, eD, ?_, fun b o hb => ?_, ?_⟩
      · rw [List.length_map, List.length_take]
        exact Nat.lt_of_le_of_lt (m := 1000) (by omega) (by decide)
      · rw [upd_ne (ne_of_none hb nD)]
        exact si _ _ hb
      · rw [upd_same, List.take_add_one, hgi, List.map_append]
        rfl
    obtain ⟨s34, eD4⟩ := hp
    rw [lxs, List.take_of_length_le (Nat.le_refl _)] at eD4
    have ep14 := s34 _ _ ep1
    refine ⟨p1, D, _, _, rfl, rfl, ep14, eD4, by rw [List.length_map]; exact Nat.le_trans (m := 1002) (by show 2 + _ ≤ _; omega) (by decide), fun sl nsl => ?_⟩
    have ssl := same_upd nsl (o := .lst ([.int ((ws.length : Nat) : Int), .int ((ws.length : Nat) : Int)] ++ acc.map fun a => V.int ((pl ws a : Nat) : Int)))
    have esl : (upd H4 sl (.lst ([.int ((ws.length : Nat) : Int), .int ((ws.length : Nat) : Int)] ++ acc.map fun a => V.int ((pl ws a : Nat) : Int)))) sl = some (.lst ((Bd.lf false :: Bd.lf true :: acc).map fun a => V.int ((pl ws a : Nat) : Int))) := upd_same
    generalize upd H4 sl (.lst ([.int ((ws.length : Nat) : Int), .int ((ws.length : Nat) : Int)] ++ acc.map fun a => V.int ((pl ws a : Nat) : Int))) = H5 at ssl esl ⊢
    have s15 := (s13.trans s34).trans ssl
    -- holding, leading
    have sub : ∀ x ∈ ws, x ∈ ws := fun _ h => h
    have lac : acc.length ≤ 1000 := by omega
    refine ⟨_, rfl, _, rfl, nl, sl, xs, acc, ws, ws, rfl, s15 _ _ enl, DpAll.ext s15 _ _ dxs, esl, hord, hwf, hnds, hws, hws, sub, by omega, lac, fun H6 hl s56 _ hbl => ?_⟩
    have s16 := s15.trans s56
    have esl6 := s56 _ _ esl
    refine ⟨_, rfl, _, rfl, _, rfl, nl, sl, xs, acc, A, ws, ws, rfl, s16 _ _ enl, DpAll.ext s16 _ _ dxs, esl6, hord, hwf, hnds, hself, hws, hws, sub, by omega, lac, fun H7 ll s67 _ hll => ?_⟩
    have s17 := s16.trans s67
    have esl7 := s67 _ _ esl6
    have hbl7 := hbl.ext s67
    -- orders
    refine ⟨_, rfl, _, rfl, by omega, by omega, fun od nod => ?_⟩
    rw [Int.toNat_natCast]
    refine lc_range (lo := 0) (n := ws.length) (fun i Hi => Same H7 Hi ∧ Hi od = some (.lst (((List.range i).map (ordF ws.length)).map V.int))) ⟨same_upd nod, upd_same⟩ (fun i Hi hi hp => ?_) (fun H8 hp => ?_)
    · obtain ⟨si, eO⟩ := hp
      rw [Int.zero_add]
      refine ⟨rfl, ?_⟩
      have f1 := fac_ten i (by omega)
      refine ⟨_, rfl, i, rfl, by omega, ?_⟩
      refine ⟨_, rfl, _, _, rfl, rfl, _, rfl, _, _, rfl, rfl, ws.length - 1 - i, ?_, by omega, ?_⟩
      · show [V.int _] = [V.int _]
        congr 2
        omega
      · refine ⟨_, _, rfl, rfl, .inl ⟨by omega, by omega⟩, ?_⟩
        refine ⟨_, eO, ?_, fun b o hb => ?_, ?_⟩
        · rw [List.length_map, List.length_map, List.length_range]
          exact Nat.lt_of_le_of_lt (m := 10) (by omega) (by decide)
        · rw [upd_ne (ne_of_none hb nod)]
          exact si _ _ hb
        · rw [upd_same, List.range_succ, List.map_append, List.map_append]
          show some (HO.lst (_ ++ [V.int (((fac i : Nat) : Int) * ((fac (ws.length - 1 - i) : Nat) : Int))])) = _
          rw [← Int.natCast_mul]
          rfl
    obtain ⟨s78, eO8⟩ := hp
    have s18 := s17.trans s78
    have hla8 := s18 _ _ hla1
    -- added
    refine ⟨_, rfl, la, rfl, ⟨_, .of hla8⟩, fun ad nad => ?_⟩
    refine dc_list (K := K) (a := la) (xs := ws.map V.int) (fun i Hi => Same H8 Hi ∧ ∃ kvs, Hi ad = some (.dK kvs) ∧ kvs.length ≤ i ∧ ∀ x ∈ ws.take i, valV kvs (.inl x) = some (.int 0)) ⟨same_upd nad, [], upd_same, Nat.le_refl _, by intro _ h; simp at h⟩ (fun i Hi _ hp => .of (hp.1 _ _ hla8)) (fun i x Hi hx hp => ?_) (fun H9 hp => ?_)
    · obtain ⟨si, kvs, eD, lk, hv⟩ := hp
      rw [List.getElem?_map] at hx
      obtain ⟨y, hy, rfl⟩ := Option.map_eq_some_iff.mp hx
      have hi : i < ws.length := (List.getElem?_eq_some_iff.mp hy).1
      refine ⟨rfl, _, rfl, kvs, .inl y, rfl, eD, Nat.lt_of_le_of_lt (m := 60) (by omega) (by decide), ?_, _, upd_same, ?_, fun z hz => ?_⟩
      · intro b o hb
        rw [upd_ne (ne_of_none hb nad)]
        exact si _ _ hb
      · have := putK_le kvs (.inl y : Key) (.int 0)
        omega
      · rw [valV_put]
        by_cases g : z = y
        · subst g
          rw [if_pos rfl]
        · rw [if_neg (fun q => g (Sum.inl.inj q))]
          refine hv z ?_
          rw [List.take_add_one, hy] at hz
          rcases List.mem_append.mp hz with hz | hz
          · exact hz
          · exact absurd (List.mem_singleton.mp hz) g
    obtain ⟨s89, kva, eA9, lka, hva⟩ := hp
    rw [List.length_map] at lka
    rw [List.length_map, List.take_of_length_le (Nat.le_refl _)] at hva
    have s19 := s18.trans s89
    refine ⟨_, rfl, nl, xs, rfl, .of (s19 _ _ enl), ?_⟩
    have stg : ∀ {m : Nat} {b : Bd}, (Bd.lf false :: Bd.lf true :: acc)[m]? = some b → ((Bd.lf false :: Bd.lf true :: acc).map fun a => V.int ((pl ws a : Nat) : Int))[m]? = some (.int ((pl ws b : Nat) : Int)) := fun {m b} h => by rw [List.getElem?_map, h]; rfl
    have lok := (abvK_ok (ordF ws.length) 0 hws hws sub hord hwf hnds hself wA acc.length (Nat.le_refl _)).1
    have ad0 : ∀ e, adN (ordF ws.length) ws acc A e 0 = 0 := fun _ => rfl
    refine for_enumL (K := K) (a := nl) (xs := xs) (fun i σ Hi => Same H8 Hi ∧ (∃ kvs, Hi ad = some (.dK kvs) ∧ kvs.length ≤ 10 ∧ ∀ e ∈ ws, valV kvs (.inl e) = some (.int (adN (ordF ws.length) ws acc A e i))) ∧ ∃ z6 z7 z12 z15 z16 z17 z18 z19 z20 z21 z22 z23 z24 z25 z26 z27, σ = [some (.ref s.p), some (.int ((c : Nat) : Int)), some (.ref la), some (.ref nl), some (.int ((nmb acc A : Nat) : Int)), some (.int ((ws.length : Nat) : Int)), z6, z7, some (.ref pd), some (.ref sl), some (.ref hl), some (.ref ll), z12, some (.ref od), some (.ref ad), z15, z16, z17, z18, z19, z20, z21, z22, z23, z24, z25, z26, z27]) ⟨s89, ⟨kva, eA9, by omega, hva⟩, _, _, _, _, _, _, _, _, _, _, _, _, _, _, _, _, rfl⟩ (fun i σ Hi _ hp => .of (hp.1 _ _ (s18 _ _ enl))) (fun i y T σ Hi hy hp nT => ?_) (fun σ Hn hp => ?_)
    · obtain ⟨si, ⟨kvs, eAi, lki, hvi⟩, z6, z7, z12, z15, z16, z17, z18, z19, z20, z21, z22, z23, z24, z25, z26, z27, rfl⟩ := hp
      obtain ⟨e, wt, tt', ra, rfl, hgi, hwi, hsq, k1, k2⟩ := node (s18.trans si) hy
      have hi : i < acc.length := (List.getElem?_eq_some_iff.mp hgi).1
      have sT := same_upd nT (o := .tup [.int ((i : Nat) : Int), .ref ra])
      have eT : (upd Hi T (.tup [.int ((i : Nat) : Int), .ref ra])) T = some (.tup [.int ((i : Nat) : Int), .ref ra]) := upd_same
      generalize upd Hi T (.tup [.int ((i : Nat) : Int), .ref ra]) = Hj at sT eT ⊢
      have s8j := si.trans sT
      refine ⟨T, _, rfl, .of eT, rfl, _, _, rfl, _, _, rfl, ra, _, rfl, SqT.ext sT hsq, rfl, _, _, rfl, _, _, rfl, _, _, rfl, rfl, rfl, ?_⟩
      have eslj := s8j _ _ (s78 _ _ esl7)
      have hee : e ∈ ws := hwi.none_of
      refine ⟨_, rfl, _, rfl, _, _, rfl, rfl, sl, _, _, _, rfl, rfl, .of eslj, (show atI _ (((i + 2 : Nat) : Int)) = _ from atI_nat (stg (m := i + 2) (b := .nd e wt tt') hgi)), _, _, rfl, rfl, ?_⟩
      rw [show pl ws (.nd e wt tt') = ws.idxOf e from rfl]
      obtain ⟨p1', p2'⟩ := pl_lt hws hws sub hwi
      have hidx := List.idxOf_lt_length_of_mem hee
      have pw := pl_le ws wt
      have pt' := pl_le ws tt'
      obtain ⟨w1, w2⟩ := wf_kids hwi
      have bl1 := bel_len hws hws sub w1
      have bl2 := bel_len hws hws sub w2
      have cast : ∀ b, ws.idxOf e + 1 ≤ pl ws b → ((pl ws b : Nat) : Int) - (((ws.idxOf e : Nat) : Int) + 1) = ((pl ws b - (ws.idxOf e + 1) : Nat) : Int) := fun b h => by omega
      have pt := List.take_prefix i acc
      have f1 := kw_get (knw_pre pt k1)
      have f2 := kw_get (knw_pre pt k2)
      have hblj := hbl7.ext (s78.trans s8j)
      obtain ⟨as, b2, ekn, hb2, nb2, eb2⟩ := hblj.get f2
      refine ⟨_, rfl, _, rfl, hl, _, _, _, rfl, rfl, .of ekn, atI_nat (by rw [List.getElem?_map, hb2]; rfl), _, rfl, _, rfl, sl, _, _, _, rfl, rfl, .of eslj, atI_nat (stg f2), _, rfl, _, _, rfl, rfl, b2, bel ws tt', pl ws tt' - (ws.idxOf e + 1), by show [V.ref b2, V.int (((pl ws tt' : Nat) : Int) - (((ws.idxOf e : Nat) : Int) + 1))] = _; rw [cast _ p2'], eb2, by omega, fun Ha ra1 sa _ ea => ?_⟩
      obtain ⟨as', b1, ekn', hb1, nb1, eb1⟩ := (hblj.ext sa).get f1
      refine ⟨_, rfl, _, rfl, hl, _, _, _, rfl, rfl, .of ekn', atI_nat (by rw [List.getElem?_map, hb1]; rfl), _, rfl, _, rfl, sl, _, _, _, rfl, rfl, .of (sa _ _ eslj), atI_nat (stg f1), _, rfl, _, _, rfl, rfl, b1, bel ws wt, pl ws wt - (ws.idxOf e + 1), by show [V.ref b1, V.int (((pl ws wt : Nat) : Int) - (((ws.idxOf e : Nat) : Int) + 1))] = _; rw [cast _ p1'], eb1, by omega, fun Hb rb1 sb _ eb => ?_⟩
      have ea' := sb _ _ ea
      have sjb := sa.trans sb
      have l5 := sprL_len (bel ws tt') (pl ws tt' - (ws.idxOf e + 1))
      have l6 := sprL_len (bel ws wt) (pl ws wt - (ws.idxOf e + 1))
      have eG : gnd ws e wt tt' = subL (sprL (bel ws tt') (pl ws tt' - (ws.idxOf e + 1))) (sprL (bel ws wt) (pl ws wt - (ws.idxOf e + 1))) := rfl
      generalize sprL (bel ws tt') (pl ws tt' - (ws.idxOf e + 1)) = X5 at ea' l5 eG
      generalize sprL (bel ws wt) (pl ws wt - (ws.idxOf e + 1)) = X6 at eb l6 eG
      have l56 : X5.length = X6.length := by omega
      -- gained
      refine ⟨_, rfl, _, rfl, ra1, rb1, _, _, rfl, .of ea', .of eb, fun gd ngd => ?_⟩
      refine lc_zip (K := K) (a := ra1) (b := rb1) (xs := X5.map V.int) (ys := X6.map V.int) (by rw [List.length_map, List.length_map]; exact l56) (fun j Hk => Same Hb Hk ∧ Hk gd = some (.lst (((gnd ws e wt tt').take j).map V.int))) ⟨same_upd ngd, upd_same⟩ (fun j Hk _ hp => ⟨.of (hp.1 _ _ ea'), .of (hp.1 _ _ eb)⟩) (fun j x y Hk T hx hy hp nT => ?_) (fun Hc hp => ?_)
      · obtain ⟨sk, eD⟩ := hp
        rw [List.getElem?_map] at hx hy
        obtain ⟨i1, hx1, rfl⟩ := Option.map_eq_some_iff.mp hx
        obtain ⟨i2, hy1, rfl⟩ := Option.map_eq_some_iff.mp hy
        have sT2 := same_upd nT (o := .tup [.int i1, .int i2])
        have hj := (List.getElem?_eq_some_iff.mp hx1).1
        have etk : (gnd ws e wt tt').take (j + 1) = (gnd ws e wt tt').take j ++ [i1 - i2] := by
          rw [List.take_add_one, eG]
          unfold subL
          rw [List.getElem?_zipWith, hx1, hy1]
          rfl
        refine ⟨T, _, rfl, .of upd_same, rfl, _, _, rfl, _, _, rfl, rfl, rfl, ?_⟩
        refine ⟨_, rfl, _, rfl, _, _, rfl, rfl, _, sT2 _ _ eD, ?_, fun z o hz => ?_, ?_⟩
        · rw [List.length_map, List.length_take]
          exact Nat.lt_of_le_of_lt (m := 1000) (by omega) (by decide)
        · rw [upd_ne (ne_of_none hz ngd)]
          exact sT2 _ _ (sk _ _ hz)
        · rw [upd_same, etk, List.map_append]
          rfl
      obtain ⟨sc, eGd⟩ := hp
      have lG : (gnd ws e wt tt').length = X5.length := by rw [eG, subL_len l56]
      rw [List.length_map, List.take_of_length_le (by omega)] at eGd
      have hrep := gnd_rep hws hws sub hwi
      have lgr := hrep.1
      rw [List.length_drop] at lgr
      have lrs : (ws.drop (ws.idxOf e + 1)).length = ws.length - (ws.idxOf e + 1) := List.length_drop
      have ead : ∀ e', adN (ordF ws.length) ws acc A e' (i + 1) = adN (ordF ws.length) ws acc A e' i + if e = e' then pr (pr (ordF ws.length) (gnd ws e wt tt')) ((abvK ws acc A acc.length).getD (i + 2) []) 0 else 0 := fun e' => by
        rw [adN_step (ordF ws.length) A e' hgi]
        congr 1
        show pr (if e = e' then _ else _) _ 0 = _
        by_cases h : e = e'
        · rw [if_pos h, if_pos h]
        · rw [if_neg h, if_neg h, pr_zero]
      generalize gnd ws e wt tt' = G at eGd lG hrep lgr ead
      have s8c := (s8j.trans sjb).trans sc
      have sjc := sjb.trans sc
      -- the sizes before
      have hllc := hll.ext (s78.trans s8c)
      have llk := lok.2 (i + 2) _ (show (Bd.lf false :: Bd.lf true :: acc)[i + 2]? = some (.nd e wt tt') from hgi)
      have llk' : ((abvK ws acc A acc.length).getD (i + 2) []).length = ws.idxOf e + 1 := llk
      have lok1 : (abvK ws acc A acc.length).length = acc.length + 2 := lok.1
      obtain ⟨as3, bF, ekl, las3, hbF, nbF, ebF⟩ := hllc.get (i := i + 2) (by omega)
      generalize (abvK ws acc A acc.length).getD (i + 2) [] = Ld at llk' ebF ead
      refine ⟨_, rfl, _, rfl, _, _, rfl, rfl, ll, _, _, _, rfl, rfl, .of ekl, (show atI _ (((i + 2 : Nat) : Int)) = _ from atI_nat (by rw [List.getElem?_map, hbF]; rfl)), bF, _, rfl, .of ebF, ?_⟩
      have eAc := sjc _ _ (sT _ _ eAi)
      have nbA : bF ≠ ad := fun z => by rw [z, eAc] at ebF; cases ebF
      have ngA : gd ≠ ad := fun z => by rw [z, eAc] at eGd; cases eGd
      have eOc := s8c _ _ eO8
      have noA : od ≠ ad := fun z => by rw [z, eAc] at eOc; cases eOc
      refine for_enumL (K := K) (a := bF) (xs := Ld.map V.int) (fun j σ Hk => Fd ad Hc Hk ∧ (∃ kvs, Hk ad = some (.dK kvs) ∧ kvs.length ≤ 10 ∧ ∀ e' ∈ ws, valV kvs (.inl e') = some (.int (adN (ordF ws.length) ws acc A e' i + if e = e' then pr (pr (ordF ws.length) G) (Ld.take j) 0 else 0))) ∧ ∃ z12 z21 z22 z26 z27, σ = [some (.ref s.p), some (.int ((c : Nat) : Int)), some (.ref la), some (.ref nl), some (.int ((nmb acc A : Nat) : Int)), some (.int ((ws.length : Nat) : Int)), some (.int ((i : Nat) : Int)), some (.int e), some (.ref pd), some (.ref sl), some (.ref hl), some (.ref ll), z12, some (.ref od), some (.ref ad), some (.int ((nmb acc wt : Nat) : Int)), some (.int ((nmb acc tt' : Nat) : Int)), some (.int (((ws.idxOf e : Nat) : Int) + 1)), some (.ref ra1), some (.ref rb1), some (.ref gd), z21, z22, z23, z24, z25, z26, z27]) ⟨Fd.refl _ _, ⟨kvs, eAc, lki, fun e' he' => by
          rw [hvi e' he']
          congr 2
          show _ = _ + if e = e' then pr _ [] 0 else 0
          split
          · show _ = _ + 0
            omega
          · omega⟩, _, _, _, _, _, rfl⟩ (fun j σ Hk _ hp => .of (hp.1 _ _ nbA ebF)) (fun j y T2 σ Hk hy hp nT2 => ?_) (fun σ Hk hp => ?_)
      · obtain ⟨fk, ⟨kvk, eAk, lkk, hvk⟩, z12, z21, z22, z26, z27, rfl⟩ := hp
        rw [List.getElem?_map] at hy
        obtain ⟨x, hx, rfl⟩ := Option.map_eq_some_iff.mp hy
        have hj : j < Ld.length := (List.getElem?_eq_some_iff.mp hx).1
        have sT2 := same_upd nT2 (o := .tup [.int ((j : Nat) : Int), .int x])
        have eT2 : (upd Hk T2 (.tup [.int ((j : Nat) : Int), .int x])) T2 = some (.tup [.int ((j : Nat) : Int), .int x]) := upd_same
        generalize upd Hk T2 (.tup [.int ((j : Nat) : Int), .int x]) = Hl at sT2 eT2 ⊢
        have eGl := sT2 _ _ (fk _ _ ngA eGd)
        have eOl := sT2 _ _ (fk _ _ noA eOc)
        have eAl := sT2 _ _ eAk
        refine ⟨T2, _, rfl, .of eT2, rfl, _, _, rfl, _, _, rfl, rfl, ?_⟩
        refine ⟨_, rfl, gd, _, rfl, .of eGl, fun wd nwd => ?_⟩
        refine lc_enum (K := K) (a := gd) (xs := G.map V.int) (fun k Hm => Same Hl Hm ∧ Hm wd = some (.lst (((wlL (ordF ws.length) j G).take k).map V.int))) ⟨same_upd nwd, upd_same⟩ (fun k Hm _ hp => .of (hp.1 _ _ eGl)) (fun k y Hm T3 hy hp nT3 => ?_) (fun Hm hp => ?_)
        · obtain ⟨sm, eD⟩ := hp
          rw [List.getElem?_map] at hy
          obtain ⟨g, hg, rfl⟩ := Option.map_eq_some_iff.mp hy
          have hk : k < G.length := (List.getElem?_eq_some_iff.mp hg).1
          have sT3 := same_upd nT3 (o := .tup [.int ((k : Nat) : Int), .int g])
          have etk : (wlL (ordF ws.length) j G).take (k + 1) = (wlL (ordF ws.length) j G).take k ++ [g * ordF ws.length (j + k)] := by
            rw [List.take_add_one, wlL_get, hg]
            rfl
          have hjk : j + k < ws.length := by omega
          have hos := ordF_small (s := j + k) hwl
          have hos2 := hos.2 (by omega)
          refine ⟨T3, _, rfl, .of upd_same, rfl, _, _, rfl, _, _, rfl, rfl, rfl, ?_⟩
          refine ⟨_, rfl, _, rfl, _, rfl, _, rfl, _, _, rfl, rfl, od, _, _, .int (ordF ws.length (j + k)), rfl, rfl, .of (sT3 _ _ (sm _ _ eOl)), (show atI _ (((j + k : Nat) : Int)) = _ from atI_nat (by rw [List.getElem?_map, List.getElem?_map, List.getElem?_range hjk]; rfl)), ?_⟩
          refine ⟨_, _, rfl, rfl, .inr ⟨by omega, by omega⟩, ?_⟩
          refine ⟨_, sT3 _ _ eD, ?_, fun z o hz => ?_, ?_⟩
          · rw [List.length_map, List.length_take]
            exact Nat.lt_of_le_of_lt (m := 1000) (by omega) (by decide)
          · rw [upd_ne (ne_of_none hz nwd)]
            exact sT3 _ _ (sm _ _ hz)
          · rw [upd_same, etk, List.map_append]
            rfl
        obtain ⟨sm, eW⟩ := hp
        rw [List.length_map, List.take_of_length_le (by unfold wlL; rw [List.length_mapIdx]; exact Nat.le_refl _)] at eW
        have eAm := sm _ _ eAl
        have hsm := pr_small (j := j) hrep hwl (by omega) (by omega)
        refine ⟨_, rfl, _, rfl, ad, _, rfl, .inl ⟨kvk, .inl e, .inl eAm, rfl, (hvk e hee).symm⟩, ?_⟩
        refine ⟨_, rfl, _, rfl, wd, _, rfl, .of eW, _, _, rfl, rfl, .inr (by rw [wlL_sum]; exact hsm), ?_⟩
        refine ⟨_, _, rfl, rfl, _, DPut.k (k := .inl e) eAm (Nat.lt_of_le_of_lt (m := 10) (by omega) (by decide)), ?_⟩
        rw [wlL_sum]
        refine ⟨fun b o hb hbo => ?_, ⟨_, upd_same, by rw [putK_same_len (hvk e hee)]; exact lkk, fun e' he' => ?_⟩, _, _, _, _, _, rfl⟩
        · rw [upd_ne hb]
          exact sm _ _ (sT2 _ _ (fk _ _ hb hbo))
        · rw [valV_put]
          by_cases h : e = e'
          · subst h
            rw [if_pos rfl, if_pos rfl, if_pos rfl, List.take_add_one, hx, show (some x).toList = [x] from rfl, pr_snoc, List.length_take, Nat.min_eq_left (by omega), Nat.zero_add, Int.add_assoc]
          · rw [if_neg (fun q => h (Sum.inl.inj q).symm), hvk e' he', if_neg h, if_neg h]
      · obtain ⟨fk, ⟨kvk, eAk, lkk, hvk⟩, z12, z21, z22, z26, z27, rfl⟩ := hp
        rw [List.length_map, List.take_of_length_le (Nat.le_refl _)] at hvk
        refine ⟨fun b o hb => fk _ _ (ne_of_none hb nad) (s8c _ _ hb), ⟨kvk, eAk, lkk, fun e' he' => ?_⟩, _, _, _, _, _, _, _, _, _, _, _, _, _, _, _, _, rfl⟩
        rw [hvk e' he', ead]
    · obtain ⟨sn, ⟨kvs, eAn, lkn, hvn⟩, z6, z7, z12, z15, z16, z17, z18, z19, z20, z21, z22, z23, z24, z25, z26, z27, rfl⟩ := hp
      refine ⟨_, rfl, q Hn ad kvs ((s1.trans s18).trans sn) eAn fun e he => ?_⟩
      rw [hvn e he, lxs, adN_all (ordF ws.length) e hws hws sub hord hwf hnds hself wA]
end

/-! ### a condition once it is known whether an input row is there -/
def rst (x : Int) (b : Bool) : Bd → Bd
  | .lf v => .lf v
  | .nd e w t => if e = x then (if b = true then rst x b t else rst x b w) else mkB e (rst x b w) (rst x b t)
theorem rst_wf {x : Int} {b : Bool} {es : List Int} {a : Bd} (h : Wf es a) : Wf es (rst x b a) := by
  induction h with
  | lf => exact .lf
  | @here y es w t hw ht hn iw it =>
    show Wf _ (if y = x then (if b = true then rst x b t else rst x b w) else mkB y (rst x b w) (rst x b t))
    split
    · split
      · exact .skip it
      · exact .skip iw
    · exact mkB_wf iw it
  | skip _ ih => exact .skip ih
theorem rst_ev (x : Int) (b : Bool) : ∀ (a : Bd) (r : Int → Bool), (rst x b a).ev r = a.ev (setR r x b)
  | .lf _, _ => rfl
  | .nd e w t, r => by
    have h1 := rst_ev x b w r
    have h2 := rst_ev x b t r
    unfold rst
    show _ = if setR r x b e = true then t.ev (setR r x b) else w.ev (setR r x b)
    by_cases he : e = x
    · subst he
      rw [if_pos rfl, setR_same]
      cases b with
      | true => rw [if_pos rfl, if_pos rfl, h2]
      | false => rw [if_neg Bool.false_ne_true, if_neg Bool.false_ne_true, h1]
    · rw [if_neg he, mkB_ev, setR_ne he, h1, h2]
/-- a node stands behind both sides -/
theorem kn_get {N : Nds} {x : Int} {b : Bool} {ks : List Nat} {bs : List Bd} {a : Bd} (h : Rel2 N ks (.lf false :: .lf true :: bs.map (rst x b))) (hk : knw bs a = true) : ∃ c, ks[nmb bs a]? = some c ∧ At N c (rst x b a) := by
  match ks, h with
  | c0 :: c1 :: ks, h =>
    cases a with
    | lf v =>
      cases v with
      | false => exact ⟨c0, rfl, h.1⟩
      | true => exact ⟨c1, rfl, h.2.1⟩
    | nd e w t =>
      have hm := knw_nd.mp hk
      have hj := List.idxOf_lt_length_of_mem hm
      have hl := h.2.2.len
      rw [List.length_map] at hl
      have e1 : (bs.map (rst x b))[bs.idxOf (.nd e w t)]? = some (rst x b (.nd e w t)) := by
        rw [List.getElem?_map, List.getElem?_eq_getElem hj, List.getElem_idxOf hj]
        rfl
      refine ⟨ks[bs.idxOf (.nd e w t)], ?_, Rel2.get h.2.2 (List.getElem?_eq_getElem (by omega)) e1⟩
      show (c0 :: c1 :: ks)[bs.idxOf (.nd e w t) + 2]? = _
      rw [List.getElem?_cons_succ, List.getElem?_cons_succ]
      exact List.getElem?_eq_getElem (by omega)
def sp_rstr (C : Addr) (K : PySem.W.Frag) : Sp := fun vs H Q _ => ∃ s N es L c a x b, vs = [.ref s.p, .int ((c : Nat) : Int), .int x, .bl b] ∧ Sto C K H s N es L ∧ At N c a ∧ a.sz ≤ 1000 ∧ N.length + 1002 < sizeLine ∧
  ∀ H' M r, FdS s H H' → M.length ≤ 1000 → Sto C K H' s (N ++ M) es L → At (N ++ M) r (rst x b a) → Q (.int ((r : Nat) : Int)) H'
def sp_impl (C : Addr) (K : PySem.W.Frag) (n : Nat) : Sp := fun vs H Q _ => ∃ s N es L a b A B, vs = [.ref s.p, .int ((a : Nat) : Int), .int ((b : Nat) : Int)] ∧ Sto C K H s N es L ∧ es.length < n ∧ At N a A ∧ At N b B ∧ Wf es A ∧ Wf es B ∧ N.length + 2 ^ es.length < sizeLine ∧ L + 2 ^ es.length < sizeLine ∧
  ∀ H' M v, FdS s H H' → M.length ≤ 2 ^ es.length → Sto C K H' s (N ++ M) es (L + 2 ^ es.length) → (v = true ↔ ∀ ρ, A.ev ρ = true → B.ev ρ = true) → Q (.bl v) H'
/-- helps (with it, not without it), hurts (the other way round) -/
def sp_hlp (C : Addr) (K : PySem.W.Frag) (n : Nat) (h : Bool) : Sp := fun vs H Q _ => ∃ s N es L a A x, vs = [.ref s.p, .int ((a : Nat) : Int), .int x] ∧ Sto C K H s N es L ∧ es.length < n ∧ At N a A ∧ Wf es A ∧ A.sz ≤ 1000 ∧ N.length + 2003 + 2 ^ es.length < sizeLine ∧ L + 2 ^ es.length < sizeLine ∧
  ∀ H' M v, FdS s H H' → M.length ≤ 2000 + 2 ^ es.length → Sto C K H' s (N ++ M) es (L + 2 ^ es.length) → (v = true ↔ ∃ ρ, A.ev (setR ρ x h) = true ∧ A.ev (setR ρ x (!h)) = false) → Q (.bl v) H'
section
variable {P : Program} {w : World} {K : PySem.W.Frag} {mg : Str → Option Value} {base : Heap}
set_option maxHeartbeats 4000000 in
theorem ok_rstr {f C : Addr} {fd : FuncData} (F : Fun K "restrict" "Diagrams.restrict" s_Diagrams_restrict f fd) (M : Mg mg) (G : DgC K C mg) (c_Diagrams_table : ClM P w K mg base 3 C "table" (sp_table C K)) (c_Diagrams_node : ClM P w K mg base 1 C "node" (sp_node C K)) : FnOk P w K mg base CX0 4 f fd ["self", "condition", "entry", "is_there"] (sp_rstr C K) := by
  refine F.ok sc_Diagrams_restrict (fun vs H Q E h => ?_) (fun cdv A outer s H vs Q E hr h => ?_)
  · obtain ⟨s, N, es, L, c, a, x, b, rfl, _⟩ := h
    rfl
  · obtain ⟨s, N, es, L, c, a, x, b, rfl, st, hA, hsz, hz, q⟩ := h
    refine ⟨_, (pss_cons (ps_asg (pe_mt c_Diagrams_table hr (by first | decide | omega) (pv 0) (pa_cons (pv 1) pa_nil)) (pg_tup (by rfl) (pgs_cons (pg_name (i := 4) sc_Diagrams_restrict.nd rfl (.inl rfl)) (pgs_cons (pg_name (i := 5) sc_Diagrams_restrict.nd rfl (.inl rfl)) pgs_nil))))
      (pss_cons (ps_set (i := 6) sc_Diagrams_restrict.nd rfl (.inl rfl) (pe_lst (pa_cons (C8.pe_gc (by rfl) G.NEVER) (pa_cons (C8.pe_gc (by rfl) G.ALWAYS) pa_nil))))
      (pss_cons (ps_for PassesOwn.never rfl (pi_list (pv 4)) (pg_tup (by rfl) (pgs_cons (pg_name (i := 7) sc_Diagrams_restrict.nd rfl (.inl rfl)) (pgs_cons (pg_name (i := 8) sc_Diagrams_restrict.nd rfl (.inl rfl)) (pgs_cons (pg_name (i := 9) sc_Diagrams_restrict.nd rfl (.inl rfl)) pgs_nil)))) (pss_one (ps_if (pt_cmpR op_ne (pv 7) (pv 2) (nomark _)) (pss_one (ps_expr (pe_bmK K PySem.F.plainAttrs_list PySem.F.slot_list_append PySem.F.type_list_append mt_append (pv 6) (pa_cons (pe_mt c_Diagrams_node hr (by first | decide | omega) (pv 0) (pa_cons (pv 7) (pa_cons (pe_ix (ix_listK K) (pv 6) (pv 8) (fun _ _ => rfl)) (pa_cons (pe_ix (ix_listK K) (pv 6) (pv 9) (fun _ _ => rfl)) pa_nil)))) pa_nil)))) (pss_one (ps_expr (pe_bmK K PySem.F.plainAttrs_list PySem.F.slot_list_append PySem.F.type_list_append mt_append (pv 6) (pa_cons (pe_ix (ix_listK K) (pv 6) (pe_ifExp (pt_val (pv 3)) (pv 9) (pv 8)) (fun _ _ => rfl)) pa_nil)))))))
      (pss_one (ps_ret (pe_ix (ix_listK K) (pv 6) (pv 5) (fun _ _ => rfl))))))), ?_⟩
    refine ⟨_, rfl, st.go (by decide +kernel) (by decide +kernel) (by decide +kernel) ⟨_, rfl, ?_⟩⟩
    refine ⟨s, N, es, L, c, a, rfl, st, hA, hsz, fun H1 q1 nl xs s1 e1 nnl enl dxs => ?_⟩
    have hlen := post_len a []
    have hord : Ordd (post [] a) := post_ord a [] (by intro _ _ _ _ h; simp at h)
    have hnds := post_nds a [] (by intro _ h; cases h)
    have hself := post_self a []
    generalize post [] a = acc at e1 dxs hlen hord hnds hself
    have h00 : ([] : List Bd).length = 0 := rfl
    refine ⟨q1, _, rfl, .of e1, rfl, _, _, rfl, _, _, rfl, rfl, ?_⟩
    refine ⟨by show 2 ≤ sizeLine; decide, fun kn nkn => ?_⟩
    have st1 := st.ext s1
    have nls := bu_ne st nnl
    have kns := bu_ne st1 nkn
    have nkl : kn ≠ nl := (ne_of_none enl nkn).symm
    have s2 := same_upd nkn (o := .lst [.int 0, .int 1])
    have lxs : xs.length = acc.length := by rw [DpAll.len dxs, List.length_map]
    refine ⟨_, rfl, nl, rfl, ⟨_, .of (s2 _ _ enl)⟩, ?_⟩
    refine for_list (K := K) (a := nl) (xs := xs) (fun i σ Hi => FdS s H1 Hi ∧ (∃ z7 z8 z9, σ = [some (.ref s.p), some (.int ((c : Nat) : Int)), some (.int x), some (.bl b), some (.ref nl), some (.int ((nmb acc a : Nat) : Int)), some (.ref kn), z7, z8, z9]) ∧ ∃ M ks, Sto C K Hi s (N ++ M) es L ∧ Hi kn = some (.lst (natsV ks)) ∧ Rel2 (N ++ M) ks (.lf false :: .lf true :: (acc.take i).map (rst x b)) ∧ M.length ≤ i)
      ⟨FdS.of s2, ⟨_, _, _, rfl⟩, [], [0, 1], by rw [List.append_nil]; exact st1.ext s2, upd_same, ⟨.f, .t, trivial⟩, Nat.le_refl _⟩ (fun i σ Hi _ hp => .of (hp.1 _ _ nls.1 nls.2.1 nls.2.2 enl)) (fun i y σ Hi hy hp => ?_) (fun σ Hn hp => ?_)
    · obtain ⟨fi, ⟨z7, z8, z9, rfl⟩, M, ks, sti, ekn, rel, ln⟩ := hp
      have hi : i < acc.length := by rw [← lxs]; exact (List.getElem?_eq_some_iff.mp hy).1
      obtain ⟨u, hu, hd⟩ := DpAll.get dxs (show (acc.map (rowD acc))[i]? = some (rowD acc acc[i]) by rw [List.getElem?_map, List.getElem?_eq_getElem hi]; rfl)
      obtain rfl : u = y := Option.some.inj (hu.symm.trans hy)
      obtain ⟨e, wt, tt', hei⟩ := hnds acc[i] (List.getElem_mem hi)
      obtain ⟨k1, k2⟩ := hord i e wt tt' (by rw [List.getElem?_eq_getElem hi, hei])
      have pt := List.take_prefix i acc
      rw [hei] at hd
      have hd' : Dp K H1 u (.tuple [.int e, .int ((nmb (acc.take i) wt : Nat) : Int), .int ((nmb (acc.take i) tt' : Nat) : Int)]) := by
        rw [← nmb_pre pt k1, ← nmb_pre pt k2]
        exact hd
      obtain ⟨ra, rs, rfl, hrs, hra⟩ := dp_tup hd'
      have hrs' : SqT K Hi ra [.int e, .int ((nmb (acc.take i) wt : Nat) : Int), .int ((nmb (acc.take i) tt' : Nat) : Int)] := by
        have : rs = [.int e, .int ((nmb (acc.take i) wt : Nat) : Int), .int ((nmb (acc.take i) tt' : Nat) : Int)] := by
          cases hra with
          | cons g1 g2 =>
            cases g1
            cases g2 with
            | cons g3 g4 =>
              cases g3
              cases g4 with
              | cons g5 g6 =>
                cases g5
                cases g6
                rfl
        rw [this] at hrs
        exact SqT.tsn (st1.tup fi) hrs
      obtain ⟨cw, hcw, acw⟩ := kn_get rel k1
      obtain ⟨ct, hct, act⟩ := kn_get rel k2
      have atw : atI (natsV ks) ((nmb (acc.take i) wt : Nat) : Int) = some (.int ((cw : Nat) : Int)) := atI_nat (by unfold natsV; rw [List.getElem?_map, hcw]; rfl)
      have att : atI (natsV ks) ((nmb (acc.take i) tt' : Nat) : Int) = some (.int ((ct : Nat) : Int)) := atI_nat (by unfold natsV; rw [List.getElem?_map, hct]; rfl)
      have lks : ks.length = i + 2 := by
        rw [rel.len, List.length_cons, List.length_cons, List.length_map, List.length_take]
        omega
      have etk : (acc.take (i + 1)).map (rst x b) = (acc.take i).map (rst x b) ++ [rst x b (.nd e wt tt')] := by
        rw [List.take_add_one, List.getElem?_eq_getElem hi, hei, List.map_append]
        rfl
      -- what is put behind the others
      have fin : ∀ (H' : Hp) (M' : Nds) (r : Nat), FdS s Hi H' → Sto C K H' s (N ++ M ++ M') es L → M'.length ≤ 1 → At (N ++ M ++ M') r (rst x b (.nd e wt tt')) → (∀ b' o, Hi b' = some o → b' ≠ s.k → b' ≠ s.u → b' ≠ s.m → H' b' = some o) →
          FdS s H1 (upd H' kn (.lst (natsV ks ++ [.int ((r : Nat) : Int)]))) ∧ ∃ M ks', Sto C K (upd H' kn (.lst (natsV ks ++ [.int ((r : Nat) : Int)]))) s (N ++ M) es L ∧ (upd H' kn (.lst (natsV ks ++ [.int ((r : Nat) : Int)]))) kn = some (.lst (natsV ks')) ∧ Rel2 (N ++ M) ks' (.lf false :: .lf true :: (acc.take (i + 1)).map (rst x b)) ∧ M.length ≤ i + 1 := fun H' M' r f' st' l' a' fr => by
        have ek' := fr _ _ ekn kns.1 kns.2.1 kns.2.2
        refine ⟨fun b' o n1 n2 n3 e' => ?_, M ++ M', ks ++ [r], ?_, ?_, ?_, ?_⟩
        · rw [upd_ne (ne_of_none e' nkn)]
          exact f' _ _ n1 n2 n3 (fi _ _ n1 n2 n3 e')
        · rw [← List.append_assoc]
          exact st'.fd ⟨_, ek'⟩ kns.1 Fd.at
        · rw [upd_same, natsV_app]
          rfl
        · rw [etk, ← List.append_assoc]
          have rel' : Rel2 (N ++ M ++ M') ks (.lf false :: .lf true :: (acc.take i).map (rst x b)) := by
            have mono : ∀ {cs : List Nat} {as : List Bd}, Rel2 (N ++ M) cs as → Rel2 (N ++ M ++ M') cs as := by
              intro cs
              induction cs with
              | nil => intro as h; cases as with
                | nil => trivial
                | cons _ _ => exact h.elim
              | cons c cs ih => intro as h; cases as with
                | nil => exact h.elim
                | cons a as => exact ⟨h.1.mono, ih h.2⟩
            exact mono rel
          exact Rel2.app rel' (⟨a', trivial⟩ : Rel2 _ [r] [rst x b (.nd e wt tt')])
        · rw [List.length_append]
          omega
      refine ⟨ra, _, rfl, hrs', rfl, _, _, rfl, _, _, rfl, _, _, rfl, rfl, ?_⟩
      refine ⟨_, rfl, _, rfl, rfl, _, rfl, ite2 (fun he => ?_) (fun he => ?_)⟩
      · have hne : e ≠ x := fun z => by
          subst z
          simp at he
        refine ⟨_, rfl, .inl ⟨rfl, _, .inl (.inl ekn)⟩, _, rfl, sti.go (by decide +kernel) (by decide +kernel) (by decide +kernel) ⟨_, rfl, _, rfl, _, rfl, kn, _, _, _, rfl, rfl, .of ekn, atw, _, rfl, _, rfl, kn, _, _, _, rfl, rfl, .of ekn, att, ?_⟩⟩
        refine ⟨s, N ++ M, es, L, e, cw, ct, _, _, rfl, sti, acw, act, by rw [List.length_append]; omega, fun H2 M2 r f2 l2 st2 a2 => ?_⟩
        have er : rst x b (.nd e wt tt') = mkB e (rst x b wt) (rst x b tt') := by rw [rst, if_neg hne]
        rw [← er] at a2
        have ek2 := f2 _ _ kns.1 kns.2.1 kns.2.2 ekn
        obtain ⟨g1, g2⟩ := fin H2 M2 r f2 st2 l2 a2 fun b' o e' n1 n2 n3 => f2 b' o n1 n2 n3 e'
        refine ⟨kn, _, _, rfl, rfl, ek2, ?_, g1, ⟨_, _, _, rfl⟩, g2⟩
        unfold natsV
        rw [List.length_map, lks]
        exact Nat.lt_of_le_of_lt (m := 1002) (by omega) (by decide)
      · have heq : e = x := by
          by_cases z : e = x
          · exact z
          · exfalso
            exact he (by simp [z])
        have er : rst x b (.nd e wt tt') = if b = true then rst x b tt' else rst x b wt := by rw [rst, if_pos heq]
        refine ⟨_, rfl, .inl ⟨rfl, _, .inl (.inl ekn)⟩, _, rfl, _, rfl, _, rfl, ?_⟩
        have main : ∀ (r : Nat), At (N ++ M) r (rst x b (.nd e wt tt')) → natsV ks = natsV ks → rAppend (.ref kn) [.int ((r : Nat) : Int)] Hi fun v H' => FdS s H1 H' ∧ (∃ z7 z8 z9, ([some (.ref s.p), some (.int ((c : Nat) : Int)), some (.int x), some (.bl b), some (.ref nl), some (.int ((nmb acc a : Nat) : Int)), some (.ref kn), some (.int e), some (.int ((nmb (acc.take i) wt : Nat) : Int)), some (.int ((nmb (acc.take i) tt' : Nat) : Int))] : L2.St) = [some (.ref s.p), some (.int ((c : Nat) : Int)), some (.int x), some (.bl b), some (.ref nl), some (.int ((nmb acc a : Nat) : Int)), some (.ref kn), z7, z8, z9]) ∧ ∃ M ks', Sto C K H' s (N ++ M) es L ∧ H' kn = some (.lst (natsV ks')) ∧ Rel2 (N ++ M) ks' (.lf false :: .lf true :: (acc.take (i + 1)).map (rst x b)) ∧ M.length ≤ i + 1 := fun r ar _ => by
          obtain ⟨g1, g2⟩ := fin Hi [] r (FdS.refl s Hi) (by rw [List.append_nil]; exact sti) (Nat.zero_le _) (by rw [List.append_nil]; exact ar) fun b' o e' _ _ _ => e'
          refine ⟨kn, _, _, rfl, rfl, ekn, ?_, g1, ⟨_, _, _, rfl⟩, g2⟩
          unfold natsV
          rw [List.length_map, lks]
          exact Nat.lt_of_le_of_lt (m := 1002) (by omega) (by decide)
        cases b with
        | true => exact iteT ⟨_, rfl, kn, _, _, _, rfl, rfl, .of ekn, att, main ct (by rw [er]; exact act) rfl⟩
        | false => exact iteF ⟨_, rfl, kn, _, _, _, rfl, rfl, .of ekn, atw, main cw (by rw [er]; exact acw) rfl⟩
    · obtain ⟨fn, ⟨z7, z8, z9, rfl⟩, M, ks, stn, ekn, rel, ln⟩ := hp
      rw [lxs] at ln
      rw [lxs, List.take_of_length_le (Nat.le_refl _)] at rel
      obtain ⟨cr, hcr, acr⟩ := kn_get rel hself
      have atr : atI (natsV ks) ((nmb acc a : Nat) : Int) = some (.int ((cr : Nat) : Int)) := atI_nat (by unfold natsV; rw [List.getElem?_map, hcr]; rfl)
      refine ⟨_, rfl, _, rfl, kn, _, _, _, rfl, rfl, .of ekn, atr, ?_⟩
      exact q Hn M cr ((FdS.of s1).trans fn) (by omega) stn acr
theorem impl_not {A : Bd} {x : Int} {v1 h1 h2 : Bool} (e : v1 = true ↔ ∀ ρ, (rst x h1 A).ev ρ = true → (rst x h2 A).ev ρ = true) : (!v1) = true ↔ ∃ ρ, A.ev (setR ρ x h1) = true ∧ A.ev (setR ρ x h2) = false := by
  constructor
  · intro hv
    apply Classical.byContradiction
    intro hn
    have : v1 = true := e.mpr fun ρ h => by
      rw [rst_ev] at h ⊢
      cases hh : A.ev (setR ρ x h2) with
      | true => rfl
      | false => exact absurd ⟨ρ, h, hh⟩ hn
    rw [this] at hv
    cases hv
  · rintro ⟨ρ, g1, g2⟩
    cases hv : v1 with
    | false => rfl
    | true =>
      have := e.mp hv ρ (by rw [rst_ev]; exact g1)
      rw [rst_ev, g2] at this
      cases this
end

/-! ### a set of numbers, made by a comprehension without tests (the way of PpSet's sets of truth values, over L2.SetO) -/
section
open PpSet
variable {X : Cx}
/-- the new set is at D; W tells of the turn, of a measure, of the heap -/
def tScI (w : World) (wi : TI) (g : TG) (te : TE) (vs : List Nat) : TE := fun σ H Q =>
  wi σ H fun J Hi => ∀ D, Hi D = none → ∃ W : Nat → Nat → Hp → Prop,
    (∃ m, W 0 m (upd Hi D (SetO w D (fun _ => false) 0))) ∧
    ∀ i m Hw, W i m Hw →
      (J.stop i Hw ∧ Q (.ref D) Hw) ∨
      (J.go i Hw ∧ ∃ Nx : Hp → Prop, (∀ Hn, Nx Hn → ∃ m2, m2 < m ∧ W (i + 1) m2 Hn) ∧
        ∀ x Hy, J.yld i Hw x Hy → g x (wipe σ vs) Hy fun τ Hz => wipe τ vs = wipe σ vs ∧
          te τ Hz fun y Ha => ∃ (k : Int) (S : Int → Bool) (n : Nat), y = .int k ∧ Ha D = some (SetO w D S n) ∧ n + 1 < scanBound ∧
            Nx (upd Ha D (SetO w D (fun j => S j || decide (j = k)) (if S k = true then n else n + 1))))
theorem pe_scI {elt tg iter : Expr} {scope : Scope} {own : List (PySem.Str × Nat)} {pos : Pos} {wi : TI} {g : TG} {te : TE} (hc : X.calm = true) (hN : X.N.Nodup) (hi : PI X tg iter wi) (ok : BlkOk X.N X.env.scope scope own)
    (hg : ∀ s0 H0 C0 cl0 fp0, PG (X.blk s0 H0 scope (compEnvC scope cl0 C0 X.env) fp0) tg g)
    (he : ∀ s0 H0 C0 cl0 fp0, PE (X.blk s0 H0 scope (compEnvC scope cl0 C0 X.env) fp0) elt te)
    (hs : ∀ x, foldedSetIterable iter X.env x = pure x := by intro _; rfl) : PE X (.SetComp elt [⟨tg, iter, [], 0⟩] scope pos) (tScI X.w wi g te (own.map (·.2))) := by
  refine ⟨fun pins s σ H Q I q0 => ?_⟩
  rw [eval_SetComp]
  have cellsThere : ∀ nk ∈ scope.names, nk.2 = .free → ∃ c, X.env.cells.lookup nk.1 = some c := by
    intro nk hm hk
    cases ok.free nk hm hk with
    | inl z => exact I.ok.has _ (.inl z)
    | inr z => exact I.ok.has _ (.inr z)
  refine wpAny_comprehension_free (use := none) rfl hs (closure_ok cellsThere) ok.kind
    (fun nk hm hk => by rw [ok.uniq nk hm, hk])
    (thn (hi.run pins s σ H _ I q0) fun v0 t1 w1 => thn w1 fun itv t2 w2 => ?_)
  obtain ⟨ia, fp, tn, J, Hj, e0, Ij, T, sj, fj, qj⟩ := w2
  subst e0
  refine newSet_ok (newEnv_comp ?_)
  generalize eD : t2.heap.objs.size = D
  have nD : Hj D = none := Ij.hok.fresh (Nat.le_of_eq eD)
  obtain ⟨W, ⟨m0, w0⟩, turn⟩ := qj D nD
  generalize et3 : ({ t2 with heap := t2.heap.push { cls := .type "set", dict := none, data := .set #[] 0 (.fresh 0 0 (!X.w.params.followText "set-order")) } } : Shared) = t3
  have heap3 : t3.heap = t2.heap.push { cls := .type "set", dict := none, data := .set #[] 0 (.fresh 0 0 (!X.w.params.followText "set-order")) } := by
    rw [← et3]
  have Id : Inv X pins σ (upd Hj D (SetO X.w D (fun _ => false) 0)) t3 := by
    rw [← et3]
    refine Ij.laid (t' := t2.toks) (fun bb oo ee => Heap.get?_push_of_some _ ee) (Nat.le_of_eq eD) ?_
    rw [← eD]
    exact setO_new (setR_fresh X.w)
  have below : ∀ b ∈ fp, b < t2.heap.objs.size := by
    intro b hb
    obtain ⟨oo, ee, _⟩ := T.obj _ _ sj b hb
    exact Heap.lt_size ee
  have fd3 : ∀ b ∈ fp, FpOk X pins (upd Hj D (SetO X.w D (fun _ => false) 0)) b ∧ b < t3.heap.objs.size := by
    intro b hb
    have lt := below b hb
    constructor
    · refine ⟨?_, (fj b hb).2⟩
      rw [upd_ne (by rw [← eD]; exact Nat.ne_of_lt lt)]
      exact (fj b hb).1
    · rw [heap3, Heap.size_push]
      exact Nat.lt_succ_of_lt lt
  have sj3 : tn 0 t3.heap := T.keep _ _ _ sj fun b _ oo ee => by
    rw [heap3]
    exact Heap.get?_push_of_some _ ee
  have Ib := block_start Id ok hN fd3
  have G := hg t3 (upd Hj D (SetO X.w D (fun _ => false) 0)) t3.heap.objs.size
    (cellsFrom (t3.heap.objs.size + 1) scope.names (cloFrom X.env.cells scope.names [])) fp
  have EE := he t3 (upd Hj D (SetO X.w D (fun _ => false) 0)) t3.heap.objs.size
    (cellsFrom (t3.heap.objs.size + 1) scope.names (cloFrom X.env.cells scope.names [])) fp
  have off : ∀ b ∈ fp, (upd Hj D (SetO X.w D (fun _ => false) 0)) b = none := fun b hb => (fd3 b hb).1.1
  show codeAny _ _ (.compStart (.SetComp elt [⟨tg, iter, [], 0⟩] scope pos) 0 (.ref ia) (.ref D)
    (compEnvC scope (cellsFrom (t3.heap.objs.size + 1) scope.names (cloFrom X.env.cells scope.names [])) t3.heap.objs.size X.env)) _
    { t3 with heap := pushCells (t3.heap.push { cls := .type "dict", data := .dict #[] }) scope.names }
  generalize ece : compEnvC scope (cellsFrom (t3.heap.objs.size + 1) scope.names (cloFrom X.env.cells scope.names []))
    t3.heap.objs.size X.env = ce at Ib G EE ⊢
  have locC : ce.locals = t3.heap.objs.size := by
    subst ece
    rfl
  generalize eHd : upd Hj D (SetO X.w D (fun _ => false) 0) = Hd at Id Ib G EE w0 off fd3
  generalize et4 : ({ t3 with heap := pushCells (t3.heap.push { cls := .type "dict", data := .dict #[] }) scope.names } : Shared) = t4 at Ib ⊢
  have sj4 : tn 0 t4.heap := T.keep _ _ _ sj3 fun b _ oo ee => by
    rw [← et4]
    exact pushCells_keeps _ _ _ _ (Heap.get?_push_of_some _ ee)
  have iterOk : ∀ {τ : L2.St} {Hx : Hp} {sx : Shared}, Inv (X.blk t3 Hd scope ce fp) [] τ Hx sx → (∀ b ∈ fp, Hx b = none) →
      ∀ b ∈ fp, FpOk (X.blk t3 Hd scope ce fp) [] Hx b := by
    intro τ Hx sx Ix hx b hb
    refine ⟨hx b hb, (Ix.ok.exf b hb).1, Ix.ok.exfs b hb, .inl hb, fun y c ee => (Ix.ok.exf b hb).2 y c ee, fun pp hpp => ?_⟩
    exact absurd (show pp ∈ ([] : List (Addr × Obj)) ++ [] from hpp) (by simp)
  refine codeAny_compStart_set ?lp (T.self X.A 0 _ _ _ sj4 ?lp)
  refine compLoopS_any (fun n sx => ∃ i Hx, Inv (X.blk t3 Hd scope ce fp) [] (wipe σ (own.map (·.2))) Hx sx ∧ tn i sx.heap ∧ (∀ b ∈ fp, Hx b = none) ∧ W i n Hx)
    ?_ m0 ⟨0, Hd, Ib, sj4, off, w0⟩
  rintro n t5 ⟨i, H5, I5, sj5, off5, w5⟩
  rcases turn i n H5 w5 with ⟨stop, fin⟩ | ⟨go, Nx, hNx, step⟩
  · have done := T.done (X.blk t3 Hd scope ce fp) rfl rfl rfl hc i [] t5 _ H5 (fun _ _ => False) I5 (iterOk I5 off5) sj5 stop
    refine thnF done fun r t6 ⟨er, I6⟩ => ?_
    subst er
    have Iout : Inv X pins σ H5 t6 := Id.call' (ch := fp) I6.os I6.base I6.hok I6.bare fun b hb =>
      ⟨(fd3 b hb).1.2.2.2.1, (fd3 b hb).1.2.1, (fd3 b hb).1.2.2.2.2.1, (fd3 b hb).1.2.2.2.2.2⟩
    have freeC : H5 t3.heap.objs.size = none := by
      have z : H5 ce.locals = none := I6.free
      rwa [locC] at z
    obtain ⟨mm, hns, _⟩ := I6.loc
    have hns : t6.heap.Ns ce.locals mm := hns
    rw [locC] at hns
    obtain ⟨f0, f1, f2, f3, f4, f5⟩ := Id.fpOk (Nat.le_refl _) freeC
    exact ⟨mm, hns, fun h'' sb => ⟨.ref D, H5, Iout.turned (t' := t6.toks) (fun bb oo hb ee => (sb.2 bb hb).trans ee) f0 f1 f3 f4 f5, rfl, fin⟩⟩
  · have item := T.item (X.blk t3 Hd scope ce fp) rfl rfl rfl hc i [] t5 _ H5 (fun _ _ => False) I5 (iterOk I5 off5) sj5 go
    refine thnF item fun r t6 ⟨u, er, w6⟩ => ?_
    subst er
    refine thnF w6 fun _ t7 ⟨y, H7, I7, r7, y7, sj7, off7⟩ => ?_
    have I7p := I7.pinned (iterOk I7 off7) (T.obj _ _ sj7)
    refine thnF (G.run _ t7 _ H7 y u _ I7p r7 (step y H7 y7)) fun _ t8 ⟨τ, H8, I8, hw, q8⟩ => ?_
    refine wpAny_tests_nil ?_
    rw [if_pos rfl]
    refine thnF (EE.run _ t8 τ H8 _ I8 q8) fun z t9 ⟨yv, H9, I9, r9, k, S, m, ey, eD9, room, nx⟩ => ?_
    subst ey
    refine thnF (mt_sadd (X := X.blk t3 Hd scope ce fp) _ t9 τ H9 (.ref D) [.int k] (.ref D) [z] (fun _ Hx => Nx Hx) I9 rfl (.cons r9 .nil) ⟨D, k, S, m, rfl, rfl, eD9, room, nx⟩) fun _ t10 ⟨_, H10, I10, _, nx10⟩ => ?_
    obtain ⟨m2, lt, w10⟩ := hNx H10 nx10
    have kept : ∀ b ∈ fp, ∀ oo, t7.heap.get? b = some oo → t10.heap.get? b = some oo ∧ H10 b = none := by
      intro b hb oo ee
      have pp := I10.pin (b, oo) (List.mem_append_right _ (List.mem_append_right _ (mem_pinsAt hb ee)))
      exact ⟨pp.1, pp.2.1⟩
    have len8 : (wipe σ (own.map (·.2))).length = τ.length := by rw [← hw, wipe_length]
    refine ⟨m2, lt, i + 1, H10, (I10.unpinned (pins := [])).weak len8 (fun j v ee => ?_), T.keep _ _ _ sj7 fun b hb oo ee => (kept b hb oo ee).1, fun b hb => ?_, w10⟩
    · rw [← hw] at ee
      exact (wipe_some ee).1
    · obtain ⟨oo, ee, _⟩ := T.obj _ _ sj7 b hb
      exact (kept b hb oo ee).2
end

/-- a walk over a list that fills a set of numbers -/
theorem scl_list {w : World} {K : PySem.W.Frag} {a D : Addr} {xs : List V} {g : TG} {te : TE} {vs : List Nat} {σ : L2.St} {H1 : Hp} {Qd : Hp → Prop} (Pv : Nat → Hp → Prop) (h0 : Pv 0 (upd H1 D (SetO w D (fun _ => false) 0)))
    (hl : ∀ i H, i ≤ xs.length → Pv i H → SqL K H a xs)
    (hs : ∀ i x H, xs[i]? = some x → Pv i H → g x (wipe σ vs) H fun τ Hz => wipe τ vs = wipe σ vs ∧ te τ Hz fun y Ha => ∃ (k : Int) (S : Int → Bool) (n : Nat), y = .int k ∧ Ha D = some (SetO w D S n) ∧ n + 1 < scanBound ∧
      Pv (i + 1) (upd Ha D (SetO w D (fun j => S j || decide (j = k)) (if S k = true then n else n + 1))))
    (hd : ∀ H, Pv xs.length H → Qd H) :
    ∃ W : Nat → Nat → Hp → Prop, (∃ m, W 0 m (upd H1 D (SetO w D (fun _ => false) 0))) ∧
    ∀ i m Hw, W i m Hw →
      ((Itl K a).stop i Hw ∧ Qd Hw) ∨
      ((Itl K a).go i Hw ∧ ∃ Nx : Hp → Prop, (∀ Hn, Nx Hn → ∃ m2, m2 < m ∧ W (i + 1) m2 Hn) ∧
        ∀ x Hy, (Itl K a).yld i Hw x Hy → g x (wipe σ vs) Hy fun τ Hz => wipe τ vs = wipe σ vs ∧
          te τ Hz fun y Ha => ∃ (k : Int) (S : Int → Bool) (n : Nat), y = .int k ∧ Ha D = some (SetO w D S n) ∧ n + 1 < scanBound ∧
            Nx (upd Ha D (SetO w D (fun j => S j || decide (j = k)) (if S k = true then n else n + 1)))) := by
  refine ⟨fun i m H => m = xs.length - i ∧ i ≤ xs.length ∧ Pv i H, ⟨xs.length, rfl, Nat.zero_le _, h0⟩, ?_⟩
  rintro i m H ⟨em, hi, pv⟩
  subst em
  have sq := hl i H hi pv
  by_cases lt : i < xs.length
  · right
    refine ⟨⟨xs, xs[i], sq, by simp [lt]⟩, Pv (i + 1), fun Hn pn => ⟨xs.length - (i + 1), by omega, rfl, lt, pn⟩, fun x Hy yl => ?_⟩
    obtain ⟨e, yl⟩ := yl
    subst e
    exact hs i x _ (yl xs sq) pv
  · left
    have e : i = xs.length := by omega
    subst e
    exact ⟨⟨xs, sq, Nat.le_refl _⟩, hd H pv⟩
/-! ### on which input rows a condition depends -/
def dpn (a : Bd) (e : Int) : Prop := ∃ w t, Bd.nd e w t ∈ subN a
theorem indep : ∀ {a : Bd} {e : Int}, ¬ dpn a e → ∀ (r : Int → Bool) (b : Bool), a.ev (setR r e b) = a.ev r
  | .lf _, _, _, _, _ => rfl
  | .nd x w t, e, h, r, b => by
    have hx : x ≠ e := fun z => h ⟨w, t, by subst z; exact List.mem_cons_self⟩
    have hw : ¬ dpn w e := fun ⟨p, q, hm⟩ => h ⟨p, q, List.mem_cons_of_mem _ (List.mem_append_left _ hm)⟩
    have ht : ¬ dpn t e := fun ⟨p, q, hm⟩ => h ⟨p, q, List.mem_cons_of_mem _ (List.mem_append_right _ hm)⟩
    show (if setR r e b x = true then t.ev (setR r e b) else w.ev (setR r e b)) = if r x = true then t.ev r else w.ev r
    rw [setR_ne hx, indep hw, indep ht]
theorem sub_wf {es : List Int} : ∀ {a x : Bd}, Wf es a → x ∈ subN a → Wf es x
  | .lf _, _, _, h => by cases h
  | .nd e w t, x, hw, h => by
    obtain ⟨w1, w2⟩ := wf_kids hw
    rcases List.mem_cons.mp h with rfl | h
    · exact hw
    · rcases List.mem_append.mp h with h | h
      · exact sub_wf w1 h
      · exact sub_wf w2 h
theorem setR_comm {r : Int → Bool} {x y : Int} {b c : Bool} (h : x ≠ y) : setR (setR r x b) y c = setR (setR r y c) x b := by
  funext z
  unfold setR
  by_cases h1 : z = x
  · subst h1
    rw [if_neg h, if_pos rfl, if_pos rfl]
  · rw [if_neg h1]
    by_cases h2 : z = y
    · have h3 : ¬ y = x := fun z => h z.symm
      simp [h1, h2, h3]
    · simp [h1, h2]
theorem dpn_iff {es : List Int} (hn : es.Nodup) {a : Bd} (h : Wf es a) {e : Int} : dpn a e ↔ ∃ r, a.ev (setR r e true) ≠ a.ev (setR r e false) := by
  constructor
  · induction h with
    | lf => rintro ⟨_, _, hm⟩; cases hm
    | @skip y es a _ ih =>
      rw [List.nodup_cons] at hn
      exact ih hn.2
    | @here x es w t hw ht hne iw it =>
      have hn0 := hn
      rw [List.nodup_cons] at hn
      rintro ⟨p, q, hm⟩
      have ev : ∀ (r : Int → Bool), (Bd.nd x w t).ev r = if r x = true then t.ev r else w.ev r := fun _ => rfl
      rcases List.mem_cons.mp hm with z | hm
      · cases z
        have : ∃ r, w.ev r ≠ t.ev r := by
          apply Classical.byContradiction
          intro hh
          exact hne (canon hn.2 hw ht fun r => Classical.byContradiction fun z => hh ⟨r, z⟩)
        obtain ⟨r, hr⟩ := this
        refine ⟨r, ?_⟩
        rw [ev, ev, setR_same, setR_same, if_pos rfl, if_neg Bool.false_ne_true, hw.away hn.1, ht.away hn.1]
        exact fun z => hr z.symm
      · rcases List.mem_append.mp hm with hm2 | hm2
        · have hex : e ≠ x := fun z => by
            subst z
            exact hn.1 (sub_wf hw hm2).none_of
          obtain ⟨r, hr⟩ := iw hn.2 ⟨p, q, hm2⟩
          refine ⟨setR r x false, ?_⟩
          rw [ev, ev, setR_ne (Ne.symm hex), setR_ne (Ne.symm hex), setR_same, if_neg Bool.false_ne_true, if_neg Bool.false_ne_true, setR_comm (Ne.symm hex), setR_comm (Ne.symm hex), hw.away hn.1, hw.away hn.1]
          exact hr
        · have hex : e ≠ x := fun z => by
            subst z
            exact hn.1 (sub_wf ht hm2).none_of
          obtain ⟨r, hr⟩ := it hn.2 ⟨p, q, hm2⟩
          refine ⟨setR r x true, ?_⟩
          rw [ev, ev, setR_ne (Ne.symm hex), setR_ne (Ne.symm hex), setR_same, if_pos rfl, if_pos rfl, setR_comm (Ne.symm hex), setR_comm (Ne.symm hex), ht.away hn.1, ht.away hn.1]
          exact hr
  · rintro ⟨r, hr⟩
    apply Classical.byContradiction
    intro hh
    exact hr (by rw [indep hh, indep hh])
theorem filter_add {es : List Int} (hn : es.Nodup) {k : Int} (hk : k ∈ es) (S : Int → Bool) : (es.filter fun j => S j || decide (j = k)).length = if S k = true then (es.filter S).length else (es.filter S).length + 1 := by
  have none : ∀ {l : List Int}, k ∉ l → l.filter (fun j => S j || decide (j = k)) = l.filter S := fun {l} h => List.filter_congr fun x hx => by
    rw [decide_eq_false (fun z => h (by subst z; exact hx)), Bool.or_false]
  induction es with
  | nil => cases hk
  | cons x es ih =>
    rw [List.nodup_cons] at hn
    rw [List.filter_cons, List.filter_cons]
    rcases List.mem_cons.mp hk with z | hk
    · subst z
      rw [decide_eq_true rfl, Bool.or_true, if_pos rfl, none hn.1]
      cases S k <;> simp
    · have hxk : x ≠ k := fun z => by subst z; exact hn.1 hk
      rw [decide_eq_false hxk, Bool.or_false]
      have := ih hn.2 hk
      cases S x with
      | true =>
        rw [if_pos rfl, if_pos rfl, List.length_cons, List.length_cons, this]
        split <;> rfl
      | false => rw [if_neg Bool.false_ne_true, if_neg Bool.false_ne_true, this]
def sp_dep (C : Addr) (K : PySem.W.Frag) : Sp := fun vs H Q _ => ∃ s N es L c a, vs = [.ref s.p, .int ((c : Nat) : Int)] ∧ Sto C K H s N es L ∧ At N c a ∧ Wf es a ∧ a.sz ≤ 1000 ∧ es.length < 60 ∧
  ∀ H' p (ds : List Int), Same H H' → H p = none → H' p = some (.lst (ds.map V.int)) → ds.Pairwise (· < ·) → (∀ e, e ∈ ds ↔ dpn a e) → Q (.ref p) H'
section
variable {P : Program} {w : World} {K : PySem.W.Frag} {mg : Str → Option Value} {base : Heap}
theorem ok_dep {f C : Addr} {fd : FuncData} (F : Fun K "depends" "Diagrams.depends" s_Diagrams_depends f fd) (M : Mg mg) (G : DgC K C mg) (c_Diagrams_table : ClM P w K mg base 3 C "table" (sp_table C K)) : FnOk P w K mg base CX0 4 f fd ["self", "condition"] (sp_dep C K) := by
  refine F.ok sc_Diagrams_depends (fun vs H Q E h => ?_) (fun cdv A outer s H vs Q E hr h => ?_)
  · obtain ⟨s, N, es, L, c, a, rfl, _⟩ := h
    rfl
  · obtain ⟨s, N, es, L, c, a, rfl, st, hA, wA, hsz, hl, q⟩ := h
    have hn := st.es_nd
    refine ⟨_, (pss_cons (ps_asg (pe_mt c_Diagrams_table hr (by first | decide | omega) (pv 0) (pa_cons (pv 1) pa_nil)) (pg_tup (by rfl) (pgs_cons (pg_name (i := 2) sc_Diagrams_depends.nd rfl (.inl rfl)) (pgs_cons (pg_name (i := 3) sc_Diagrams_depends.nd rfl (.inl rfl)) pgs_nil))))
      (pss_one (ps_ret (pe_callB (cr_sortedSet rfl) (by rfl) M.sorted (by decide +kernel) (pa_cons (pe_scI (own := [("entry", 4), ("_", 3), ("_", 3)]) (g := gTup K 3 (gCons (gName 4) (gCons (gName 3) (gCons (gName 3) (gNil))))) rfl sc_Diagrams_depends.nd (pi_list (pv 2)) (blkOk_by (N := N_Diagrams_depends) (sc := defScope s_Diagrams_depends) (by decide +kernel)) (fun _ _ _ _ _ => (pg_tup (by rfl) (pgs_cons (pg_name (i := 4) sc_Diagrams_depends.nd rfl (.inl rfl)) (pgs_cons (pg_name (i := 3) sc_Diagrams_depends.nd rfl (.inl rfl)) (pgs_cons (pg_name (i := 3) sc_Diagrams_depends.nd rfl (.inl rfl)) pgs_nil))))) (fun _ _ _ _ _ => (pv 4))) pa_nil))))), ?_⟩
    refine ⟨_, rfl, st.go (by decide +kernel) (by decide +kernel) (by decide +kernel) ⟨_, rfl, ?_⟩⟩
    refine ⟨s, N, es, L, c, a, rfl, st, hA, hsz, fun H1 q1 nl xs s1 e1 nnl enl dxs => ?_⟩
    have hiff := post_iff (a := a) (acc := []) (by intro _ _ _ h; cases h)
    have hnds := post_nds a [] (by intro _ h; cases h)
    have hwf := post_wf a [] wA (by intro _ h; cases h)
    generalize post [] a = acc at e1 dxs hiff hnds hwf
    refine ⟨q1, _, rfl, .of e1, rfl, _, _, rfl, _, _, rfl, rfl, ?_⟩
    have lxs : xs.length = acc.length := by rw [DpAll.len dxs, List.length_map]
    refine ⟨_, rfl, nl, rfl, ⟨_, .of enl⟩, fun D nD => ?_⟩
    refine scl_list (K := K) (a := nl) (xs := xs) (fun i Hi => Same H1 Hi ∧ ∃ S : Int → Bool, Hi D = some (SetO w D S (es.filter S).length) ∧ ∀ e, S e = true ↔ ∃ b ∈ acc.take i, ∃ p q, b = Bd.nd e p q) ⟨same_upd nD, fun _ => false, ?_, fun e => ⟨fun h => (by cases h), fun ⟨b, hb, _⟩ => (by cases hb)⟩⟩ (fun i Hi _ hp => .of (hp.1 _ _ enl)) (fun i y Hi hy hp => ?_) (fun Hn hp => ?_)
    · rw [upd_same, show (es.filter fun _ : Int => false).length = 0 by rw [List.filter_eq_nil_iff.mpr (fun _ _ h => (by cases h))]; rfl]
      rfl
    · obtain ⟨si, S, eS, hS⟩ := hp
      have hi : i < acc.length := by rw [← lxs]; exact (List.getElem?_eq_some_iff.mp hy).1
      obtain ⟨u, hu, hd⟩ := DpAll.get dxs (show (acc.map (rowD acc))[i]? = some (rowD acc acc[i]) by rw [List.getElem?_map, List.getElem?_eq_getElem hi]; rfl)
      obtain rfl : u = y := Option.some.inj (hu.symm.trans hy)
      obtain ⟨e, wt, tt', hei⟩ := hnds acc[i] (List.getElem_mem hi)
      have hee : e ∈ es := by
        have := hwf acc[i] (List.getElem_mem hi)
        rw [hei] at this
        exact this.none_of
      rw [hei] at hd
      obtain ⟨ra, rs, rfl, hrs, hra⟩ := dp_tup (ds := [.int e, .int ((nmb acc wt : Nat) : Int), .int ((nmb acc tt' : Nat) : Int)]) hd
      have : rs = [.int e, .int ((nmb acc wt : Nat) : Int), .int ((nmb acc tt' : Nat) : Int)] := by
        cases hra with
        | cons g1 g2 =>
          cases g1
          cases g2 with
          | cons g3 g4 =>
            cases g3
            cases g4 with
            | cons g5 g6 =>
              cases g5
              cases g6
              rfl
      subst this
      refine ⟨ra, _, rfl, SqT.ext si hrs, rfl, _, _, rfl, _, _, rfl, _, _, rfl, rfl, rfl, ?_⟩
      refine ⟨_, rfl, e, S, _, rfl, eS, ?_, ?_, fun j => S j || decide (j = e), ?_, fun j => ?_⟩
      · have := List.length_filter_le S es
        exact Nat.lt_of_le_of_lt (m := 100) (by omega) (by decide)
      · intro z o hz
        rw [upd_ne (ne_of_none hz nD)]
        exact si _ _ hz
      · rw [upd_same, filter_add hn hee]
        rfl
      · show (S j || decide (j = e)) = true ↔ _
        rw [Bool.or_eq_true, hS, decide_eq_true_iff, List.take_add_one, List.getElem?_eq_getElem hi, hei]
        constructor
        · rintro (⟨b, hb, p, q, rfl⟩ | rfl)
          · exact ⟨_, List.mem_append_left _ hb, p, q, rfl⟩
          · exact ⟨_, List.mem_append_right _ (List.mem_singleton.mpr rfl), wt, tt', rfl⟩
        · rintro ⟨b, hb, p, q, rfl⟩
          rcases List.mem_append.mp hb with hb | hb
          · exact .inl ⟨_, hb, p, q, rfl⟩
          · have := List.mem_singleton.mp hb
            cases this
            exact .inr rfl
    · obtain ⟨sn, S, eS, hS⟩ := hp
      rw [lxs, List.take_of_length_le (Nat.le_refl _)] at hS
      refine ⟨D, S, _, rfl, eS, ?_, fun ds p hds hmem hlen np => ?_⟩
      · have := List.length_filter_le S es
        omega
      · refine q _ p ds ((s1.trans sn).trans (same_upd np)) (s1.free (sn.free np)) upd_same hds fun e => ?_
        rw [hmem, hS]
        constructor
        · rintro ⟨b, hb, p, q, rfl⟩
          rcases (hiff _).mp hb with h | h
          · cases h
          · exact ⟨p, q, h⟩
        · rintro ⟨p, q, h⟩
          exact ⟨_, (hiff _).mpr (.inr h), p, q, rfl⟩
end

/-! ### shares of rows -/
theorem op_catTK {X : Cx} (K : PySem.W.Frag) (h : X.K = K := by rfl) : OpR X (binaryOp .Add) (rCatT K) := by subst h; exact op_catT
theorem wf_filter {es : List Int} {a : Bd} (h : Wf es a) : ∀ (p : Int → Bool), (∀ e, dpn a e → p e = true) → Wf (es.filter p) a := by
  induction h with
  | lf => intro _ _; exact .lf
  | @here x es w t hw ht hn iw it =>
    intro p hp
    have hx : p x = true := hp x ⟨w, t, List.mem_cons_self⟩
    rw [List.filter_cons_of_pos hx]
    refine .here (iw p fun e he => hp e ?_) (it p fun e he => hp e ?_) hn
    · obtain ⟨w', t', h⟩ := he
      exact ⟨w', t', List.mem_cons_of_mem _ (List.mem_append_left _ h)⟩
    · obtain ⟨w', t', h⟩ := he
      exact ⟨w', t', List.mem_cons_of_mem _ (List.mem_append_right _ h)⟩
  | @skip x es a _ ih =>
    intro p hp
    cases hx : p x with
    | true => rw [List.filter_cons_of_pos hx]; exact .skip (ih p hp)
    | false => rw [List.filter_cons_of_neg (by rw [hx]; exact Bool.false_ne_true)]; exact ih p hp
/-- none of the rows xs is there -/
def rsL (xs : List Int) (A : Bd) : Bd := xs.foldl (fun T x => rst x false T) A
theorem rsL_snoc (xs : List Int) (x : Int) (A : Bd) : rsL (xs ++ [x]) A = rst x false (rsL xs A) := by
  unfold rsL
  rw [List.foldl_append]
  rfl
theorem rsL_wf {es : List Int} : ∀ (xs : List Int) {A : Bd}, Wf es A → Wf es (rsL xs A)
  | [], _, h => h
  | x :: xs, A, h => rsL_wf xs (A := rst x false A) (rst_wf h)
theorem rsL_ev : ∀ (xs : List Int) (A : Bd) (r : Int → Bool), (rsL xs A).ev r = A.ev fun y => if y ∈ xs then false else r y
  | [], A, r => by
    show A.ev r = _
    congr 1
  | x :: xs, A, r => by
    show (rsL xs (rst x false A)).ev r = _
    rw [rsL_ev xs, rst_ev]
    congr 1
    funext y
    unfold setR
    by_cases hy : y = x
    · rw [if_pos hy, if_pos (by rw [hy]; exact List.mem_cons_self)]
    · rw [if_neg hy]
      show (if y ∈ xs then false else r y) = _
      by_cases hm : y ∈ xs
      · rw [if_pos hm, if_pos (List.mem_cons_of_mem _ hm)]
      · rw [if_neg hm, if_neg fun z => hm ((List.mem_cons.mp z).resolve_left hy)]
theorem rsL_dpn {es : List Int} (hn : es.Nodup) {A : Bd} (h : Wf es A) (xs : List Int) {e : Int} (hd : dpn (rsL xs A) e) : dpn A e ∧ e ∉ xs := by
  obtain ⟨r, hr⟩ := (dpn_iff hn (rsL_wf xs h)).mp hd
  rw [rsL_ev, rsL_ev] at hr
  have hx : e ∉ xs := fun z => hr (by
    congr 1
    funext y
    unfold setR
    by_cases hy : y = e
    · subst hy
      rw [if_pos z, if_pos z]
    · rw [if_neg hy, if_neg hy])
  refine ⟨(dpn_iff hn h).mpr ⟨fun y => if y ∈ xs then false else r y, ?_⟩, hx⟩
  have k : ∀ b, (fun y => if y ∈ xs then false else setR r e b y) = setR (fun y => if y ∈ xs then false else r y) e b := fun b => by
    funext y
    unfold setR
    by_cases hy : y = e
    · subst hy
      rw [if_neg hx, if_pos rfl, if_pos rfl]
    · rw [if_neg hy, if_neg hy]
  rw [k, k] at hr
  exact hr
theorem pw_len {a b : List Int} (ha : a.Pairwise (· < ·)) (hb : b.Pairwise (· < ·)) (h : ∀ x ∈ a, x ∈ b) : a.length ≤ b.length := by
  have h1 : (b.filter fun x => decide (x ∈ a)).Perm a := by
    refine (List.perm_ext_iff_of_nodup ((hb.imp fun h => by omega : b.Nodup).sublist List.filter_sublist) (ha.imp fun h => by omega)).mpr fun x => ?_
    rw [List.mem_filter, decide_eq_true_eq]
    exact ⟨fun h => h.2, fun z => ⟨h x z, z⟩⟩
  rw [← h1.length_eq]
  exact List.length_filter_le _ _
theorem pw_ext3 : ∀ {a b : List Int}, a.Pairwise (· < ·) → b.Pairwise (· < ·) → (∀ x, x ∈ a ↔ x ∈ b) → a = b
  | [], [], _, _, _ => rfl
  | [], y :: b, _, _, h => absurd ((h y).mpr List.mem_cons_self) (by simp)
  | x :: a, [], _, _, h => absurd ((h x).mp List.mem_cons_self) (by simp)
  | x :: a, y :: b, ha, hb, h => by
    obtain ⟨a1, a2⟩ := List.pairwise_cons.mp ha
    obtain ⟨b1, b2⟩ := List.pairwise_cons.mp hb
    have e : x = y := by
      have h1 := (h x).mp List.mem_cons_self
      have h2 := (h y).mpr List.mem_cons_self
      rcases List.mem_cons.mp h1 with h1 | h1
      · exact h1
      · rcases List.mem_cons.mp h2 with h2 | h2
        · exact h2.symm
        · have := b1 x h1
          have := a1 y h2
          omega
    subst e
    rw [pw_ext3 a2 b2 fun z => ⟨fun hz => ?_, fun hz => ?_⟩]
    · rcases List.mem_cons.mp ((h z).mp (List.mem_cons_of_mem _ hz)) with g | g
      · have := a1 z hz
        omega
      · exact g
    · rcases List.mem_cons.mp ((h z).mpr (List.mem_cons_of_mem _ hz)) with g | g
      · have := b1 z hz
        omega
      · exact g
theorem fac_pos : ∀ n, 0 < fac n
  | 0 => by decide
  | n + 1 => Nat.mul_pos (Nat.succ_pos n) (fac_pos n)
/-- a fraction in lowest terms, the numerator of any sign -/
def qlow (x : Int) (d : Nat) : Int × Int := (x / ((x.natAbs.gcd d : Nat) : Int), (d : Int) / ((x.natAbs.gcd d : Nat) : Int))
def shD (e : Int) (y : Int × Int) : PyData := .tuple [.int e, .int y.1, .int y.2]
theorem shD_only (g : Int → Int × Int) : ∀ l : List Int, tupOnlys (l.map fun x => shD x (g x)) = true
  | [] => rfl
  | x :: l => by
    rw [List.map_cons]
    unfold tupOnlys
    rw [shD_only g l]
    rfl
def sp_lowZ : Sp := fun vs H Q _ => ∃ (x : Int) (d : Nat), vs = [.int x, .int ((d : Nat) : Int)] ∧ 0 < d ∧ d < 2 ^ 200 ∧ ∀ H' t, Same H H' → H' t = some (.tup [.int (qlow x d).1, .int (qlow x d).2]) → Q (.ref t) H'
/-- the share of the row e: over the rows ws, which the condition depends on -/
def shQ (ws : List Int) (A : Bd) (e : Int) : Int × Int := qlow (DD (ordF ws.length) e (vl A) ws 0) (fac ws.length)
def sp_shr (C : Addr) (K : PySem.W.Frag) : Sp := fun vs H Q _ => ∃ s N es L c A, ∃ (pa : Addr) (ps : List Int), vs = [.ref s.p, .int ((c : Nat) : Int), .ref pa] ∧ Sto C K H s N es L ∧ At N c A ∧ Wf es A ∧ A.sz ≤ 1000 ∧ es.length ≤ 8 ∧ H pa = some (.lst (ps.map V.int)) ∧ (pa ≠ s.k ∧ pa ≠ s.u ∧ pa ≠ s.m) ∧ N.length + 10000 < sizeLine ∧
  ∀ H' r us (ws : List Int), FdS s H H' → H' r = some (.lst us) → ws.Pairwise (· < ·) → (∀ e, e ∈ ws ↔ dpn A e ∧ e ∈ ps) → DpAll K H' us (ws.map fun e => shD e (shQ ws A e)) → Q (.ref r) H'
section
variable {P : Program} {w : World} {K : PySem.W.Frag} {mg : Str → Option Value} {base : Heap}
theorem ok_lowZ {f : Addr} {fd : FuncData} (F : Fun K "lowest_terms" "lowest_terms" s_lowest_terms f fd) (M : Mg mg) (h_gcd : mg "gcd" = some (.builtin "math.gcd")) : FnOk P w K mg base CX0 1 f fd ["numerator", "denominator"] sp_lowZ := by
  refine F.ok sc_lowest_terms (fun vs H Q E h => ?_) (fun cdv A0 outer s H vs Q E hr h => ?_)
  · obtain ⟨n, d, rfl, _⟩ := h
    rfl
  · obtain ⟨n, d, rfl, h1, h2, q⟩ := h
    refine ⟨_, (pss_cons (ps_set (i := 2) sc_lowest_terms.nd rfl (.inl rfl) (pe_callBfun cr_gcd (by rfl) h_gcd (pa_cons (pv 0) (pa_cons (pv 1) pa_nil))))
      (pss_one (ps_ret (pe_tup (pa_cons (pe_op op_fdivW (pv 0) (pv 2)) (pa_cons (pe_op op_fdivW (pv 1) (pv 2)) pa_nil)))))), ?_⟩
    refine ⟨_, rfl, _, rfl, _, _, rfl, ?_⟩
    rw [Int.natAbs_natCast]
    have g0 : 0 < n.natAbs.gcd d := Nat.gcd_pos_of_pos_right _ h1
    have g1 : n.natAbs.gcd d < 2 ^ 200 := Nat.lt_of_le_of_lt (Nat.le_of_dvd h1 (Nat.gcd_dvd_right _ _)) h2
    have cd : ∀ i : Int, CDivW i ((n.natAbs.gcd d : Nat) : Int) := fun i => wide_div (b := 200) (by omega) (by rw [Int.natAbs_natCast]; exact g1) (by decide) (by decide)
    refine ⟨_, rfl, _, rfl, _, _, rfl, rfl, cd _, ?_⟩
    refine ⟨_, rfl, _, rfl, _, _, rfl, rfl, cd _, ?_⟩
    refine ⟨by show 2 ≤ sizeLine; decide, fun t nt => ?_⟩
    exact q _ t (same_upd nt) upd_same
set_option maxHeartbeats 4000000 in
theorem ok_shr {f C : Addr} {fd : FuncData} (F : Fun K "shares" "shares" s_shares f fd) (M : Mg mg) (h_factorial : mg "factorial" = some (.builtin "math.factorial")) (c_Diagrams_depends : ClM P w K mg base 4 C "depends" (sp_dep C K)) (c_Diagrams_restrict : ClM P w K mg base 4 C "restrict" (sp_rstr C K)) (c_added_by_entries : Cl P w K mg base 4 "added_by_entries" (sp_added C K)) (c_lowest_terms : Cl P w K mg base 1 "lowest_terms" sp_lowZ) : FnOk P w K mg base CX0 5 f fd ["store", "condition", "present"] (sp_shr C K) := by
  refine F.ok sc_shares (fun vs H Q E h => ?_) (fun cdv A0 outer s0 H vs Q E hr h => ?_)
  · obtain ⟨s, N, es, L, c, A, pa, ps, rfl, _⟩ := h
    rfl
  · obtain ⟨s, N, es, L, c, A, pa, ps, rfl, st, hA, wA, hsz, hl8, hpa, npa, bN, q⟩ := h
    have hnd := st.es_nd
    refine ⟨_, (pss_cons (ps_set (i := 3) sc_shares.nd rfl (.inl rfl) (pe_lst pa_nil))
      (pss_cons (ps_set (i := 4) sc_shares.nd rfl (.inl rfl) (pv 1))
      (pss_cons (ps_for PassesOwn.never rfl (pi_list (pe_mt c_Diagrams_depends hr (by first | decide | omega) (pv 0) (pa_cons (pv 1) pa_nil))) (pg_name (i := 5) sc_shares.nd rfl (.inl rfl)) (pss_one (ps_if (pt_cmpR (inK K) (pv 5) (pv 2) (by rfl)) (pss_one (ps_expr (pe_bmK K PySem.F.plainAttrs_list PySem.F.slot_list_append PySem.F.type_list_append mt_append (pv 3) (pa_cons (pv 5) pa_nil)))) (pss_one (ps_set (i := 4) sc_shares.nd rfl (.inl rfl) (pe_mt c_Diagrams_restrict hr (by first | decide | omega) (pv 0) (pa_cons (pv 4) (pa_cons (pv 5) (pa_cons pe_bl pa_nil)))))))))
      (pss_cons (ps_set (i := 6) sc_shares.nd rfl (.inr rfl) (pe_u c_added_by_entries hr (by first | decide | omega) (by rfl) (pa_cons (pv 0) (pa_cons (pv 4) (pa_cons (pv 3) pa_nil)))))
      (pss_cons (ps_set (i := 7) sc_shares.nd rfl (.inr rfl) (pe_callB (len_seqK K) (by rfl) M.len PySem.boot_len (pa_cons (pv 3) pa_nil)))
      (pss_one (ps_ret (pe_lc (own := [("entry", 5)]) (g := gName 5) (tt := tYes) rfl sc_shares.nd (pi_list (pv 3)) (blkOk_by (N := N_shares) (sc := defScope s_shares) (by decide +kernel)) (fun _ _ _ _ _ => (pg_name (i := 5) sc_shares.nd rfl (.inl rfl))) (fun _ _ _ _ _ => pts_nil) (fun _ _ _ _ _ => (pe_op (op_catTK K) (pe_tup (pa_cons (pv 5) pa_nil)) (pe_u c_lowest_terms hr (by first | decide | omega) (by rfl) (pa_cons (pe_dget (hu_of hr) (pv 6) (pv 5) (fun _ _ => rfl)) (pa_cons (pe_callBfun cr_fac (by rfl) h_factorial (pa_cons (pv 7) pa_nil)) pa_nil))))))))))))), ?_⟩
    have nke0 : ∀ {b : Addr}, H b = none → b ≠ s.k ∧ b ≠ s.u ∧ b ≠ s.m := fun n => bu_ne st n
    refine ⟨Nat.zero_le _, fun en nen => ?_⟩
    have nke := nke0 nen
    have s1 := same_upd nen (o := .lst [])
    have een : (upd H en (.lst [])) en = some (.lst (([] : List Int).map V.int)) := upd_same
    generalize upd H en (.lst []) = H1 at s1 een ⊢
    have st1 := st.ext s1
    refine ⟨_, rfl, ?_⟩
    refine ⟨_, rfl, st1.go (by decide +kernel) (by decide +kernel) (by decide +kernel) ⟨_, rfl, s, N, es, L, c, A, rfl, st1, hA, wA, hsz, by omega, fun H2 dl ds s2 ndl edl hds hdm => ?_⟩⟩
    have nde : dl ≠ en := fun z => by rw [z, een] at ndl; cases ndl
    have nkd := bu_ne st1 ndl
    have een2 := s2 _ _ een
    have st2 := st1.ext s2
    have hdes : ∀ e ∈ ds, e ∈ es := fun e he => by
      obtain ⟨w, t, h⟩ := (hdm e).mp he
      exact (sub_wf wA h).none_of
    have lds : ds.length ≤ 8 := by
      have h1 : ds.length ≤ es.length := pw_len hds (by have := st.2.2.2.2.2.2; exact this) hdes
      omega
    have wsz : ∀ T, Wf es T → T.sz ≤ 1000 := fun T hT => by
      have h1 := wf_sz hT
      have h2 : 2 ^ es.length ≤ 2 ^ 8 := Nat.pow_le_pow_right (by decide) hl8
      omega
    refine ⟨dl, rfl, ⟨_, .of edl⟩, ?_⟩
    refine for_list (K := K) (a := dl) (xs := ds.map V.int) (fun i σ Hi => FdS s H Hi ∧ Hi dl = some (.lst (ds.map V.int)) ∧ Hi en = some (.lst (((ds.take i).filter fun x => decide (x ∈ ps)).map V.int)) ∧ ∃ M l z5, M.length ≤ 1000 * i ∧ Sto C K Hi s (N ++ M) es L ∧ At (N ++ M) l (rsL ((ds.take i).filter fun x => !decide (x ∈ ps)) A) ∧ σ = [some (.ref s.p), some (.int ((c : Nat) : Int)), some (.ref pa), some (.ref en), some (.int ((l : Nat) : Int)), z5, none, none]) ⟨FdS.of (s1.trans s2), edl, een2, [], c, none, Nat.zero_le _, by rw [List.append_nil]; exact st2, by rw [List.append_nil]; exact hA, rfl⟩ (fun i σ Hi _ hp => .of hp.2.1) (fun i y σ Hi hy hp => ?_) (fun σ Hn hp => ?_)
    · obtain ⟨fi, edi, eei, M, l, z5, lM, sti, ati, rfl⟩ := hp
      rw [List.getElem?_map] at hy
      obtain ⟨x, hx, rfl⟩ := Option.map_eq_some_iff.mp hy
      have hi : i < ds.length := (List.getElem?_eq_some_iff.mp hx).1
      have hpi := fi _ _ npa.1 npa.2.1 npa.2.2 hpa
      have etk : ds.take (i + 1) = ds.take i ++ [x] := by
        rw [List.take_add_one, hx]
        rfl
      refine ⟨_, rfl, _, rfl, pa, _, rfl, .inl (.of hpi), rfl, ints_flat ps, _, rfl, ?_⟩
      rw [if_neg Bool.false_ne_true, inV_int]
      refine ite2 (fun e => ?_) (fun e => ?_)
      · refine ⟨_, rfl, .inl ⟨rfl, _, .inl (.inl eei)⟩, _, rfl, en, _, _, rfl, rfl, eei, ?_, ?_⟩
        · rw [List.length_map]
          exact Nat.lt_of_le_of_lt (m := 8) (Nat.le_trans (List.length_filter_le _ _) (by rw [List.length_take]; omega)) (by decide)
        · refine ⟨fun b o h1 h2 h3 hb => ?_, ?_, ?_, M, l, _, by omega, sti.fd ⟨_, eei⟩ nke.1 Fd.at, ?_, rfl⟩
          · rw [upd_ne (ne_of_none hb nen)]
            exact fi _ _ h1 h2 h3 hb
          · rw [upd_ne nde]
            exact edi
          · rw [upd_same, etk, List.filter_append, List.map_append, List.filter_cons_of_pos (by exact e)]
            rfl
          · rw [etk, List.filter_append, List.filter_cons_of_neg (by rw [e]; exact Bool.false_ne_true), List.filter_nil, List.append_nil]
            exact ati
      · have ef : decide (x ∈ ps) = false := by
          cases h : decide (x ∈ ps) with
          | false => rfl
          | true => exact absurd h e
        have wT := rsL_wf ((ds.take i).filter fun x => !decide (x ∈ ps)) wA
        refine ⟨_, rfl, sti.go (by decide +kernel) (by decide +kernel) (by decide +kernel) ⟨_, rfl, _, rfl, s, N ++ M, es, L, l, _, x, false, rfl, sti, ati, wsz _ wT, by rw [List.length_append]; omega, fun H3 M3 r f3 l3 st3 at3 => ?_⟩⟩
        refine ⟨fi.trans f3, f3 _ _ nkd.1 nkd.2.1 nkd.2.2 edi, ?_, M ++ M3, r, _, by rw [List.length_append]; omega, by rw [← List.append_assoc]; exact st3, ?_, rfl⟩
        · rw [etk, List.filter_append, List.filter_cons_of_neg (by rw [ef]; exact Bool.false_ne_true), List.filter_nil, List.append_nil]
          exact f3 _ _ nke.1 nke.2.1 nke.2.2 eei
        · rw [etk, List.filter_append, List.filter_cons_of_pos (by rw [ef]; rfl), List.filter_nil, rsL_snoc, ← List.append_assoc]
          exact at3
    · obtain ⟨fn, edn, een3, M, l, z5, lM, stn, atn, rfl⟩ := hp
      rw [List.length_map, List.take_of_length_le (Nat.le_refl _)] at een3 atn
      rw [List.length_map] at lM
      have hws : (ds.filter fun x => decide (x ∈ ps)).Pairwise (· < ·) := hds.sublist List.filter_sublist
      have hwm : ∀ e, e ∈ (ds.filter fun x => decide (x ∈ ps)) ↔ dpn A e ∧ e ∈ ps := fun e => by
        rw [List.mem_filter, hdm, decide_eq_true_eq]
      have lws : (ds.filter fun x => decide (x ∈ ps)).length ≤ 8 := Nat.le_trans (List.length_filter_le _ _) lds
      have hnot : ∀ e, e ∈ (ds.filter fun x => !decide (x ∈ ps)) ↔ dpn A e ∧ e ∉ ps := fun e => by
        rw [List.mem_filter, hdm]
        by_cases h : e ∈ ps <;> simp [h]
      have wT := rsL_wf (ds.filter fun x => !decide (x ∈ ps)) wA
      have ePf : es.filter (fun x => decide (x ∈ ds.filter fun x => decide (x ∈ ps))) = ds.filter fun x => decide (x ∈ ps) := pw_ext3 ((st.2.2.2.2.2.2).sublist List.filter_sublist) hws fun x => by
        rw [List.mem_filter, decide_eq_true_eq]
        exact ⟨fun h => h.2, fun h => ⟨hdes x (List.mem_filter.mp h).1, h⟩⟩
      have wTw : Wf (ds.filter fun x => decide (x ∈ ps)) (rsL (ds.filter fun x => !decide (x ∈ ps)) A) := by
        have := wf_filter wT (fun x => decide (x ∈ ds.filter fun x => decide (x ∈ ps))) fun e he => by
          obtain ⟨h1, h2⟩ := rsL_dpn hnd wA _ he
          refine decide_eq_true ((hwm e).mpr ⟨h1, ?_⟩)
          by_cases h : e ∈ ps
          · exact h
          · exact absurd ((hnot e).mpr ⟨h1, h⟩) h2
        rw [ePf] at this
        exact this
      have eV : ∀ S, S.Sublist (ds.filter fun x => decide (x ∈ ps)) → vl (rsL (ds.filter fun x => !decide (x ∈ ps)) A) S = vl A S := fun S hS => by
        unfold vl evP
        rw [rsL_ev]
        have : (fun y => if y ∈ (ds.filter fun x => !decide (x ∈ ps)) then false else decide (y ∈ S)) = fun y => decide (y ∈ S) := by
          funext y
          by_cases h : y ∈ (ds.filter fun x => !decide (x ∈ ps))
          · rw [if_pos h]
            symm
            refine decide_eq_false fun z => ?_
            exact ((hnot y).mp h).2 ((hwm y).mp (hS.subset z)).2
          · rw [if_neg h]
        rw [this]
      generalize (ds.filter fun x => decide (x ∈ ps)) = ws at een3 hws hwm lws ePf wTw eV
      generalize rsL (ds.filter fun x => !decide (x ∈ ps)) A = T at atn wT wTw eV
      refine ⟨_, rfl, _, rfl, _, rfl, s, N ++ M, es, L, l, T, en, ws, rfl, stn, atn, wTw, wsz _ wT, een3, hws, by omega, fun H3 ad kvs s3 ead hkv => ?_⟩
      have een4 := s3 _ _ een3
      refine ⟨_, rfl, en, _, rfl, .inl (.of een4), ?_⟩
      rw [List.length_map]
      refine ⟨_, rfl, en, rfl, ⟨_, .of een4⟩, fun R nR => ?_⟩
      refine lc_list (K := K) (a := en) (xs := ws.map V.int) (fun j Hj => Same H3 Hj ∧ ∃ us, Hj R = some (.lst us) ∧ DpAll K Hj us ((ws.take j).map fun e => shD e (shQ ws A e))) ⟨same_upd nR, [], upd_same, .nil⟩ (fun j Hj _ hp => .of (hp.1 _ _ een4)) (fun j y Hj hy hp => ?_) (fun Hm hp => ?_)
      · obtain ⟨sj, us, eR, dus⟩ := hp
        rw [List.getElem?_map] at hy
        obtain ⟨e, he, rfl⟩ := Option.map_eq_some_iff.mp hy
        have hj : j < ws.length := (List.getElem?_eq_some_iff.mp he).1
        have hew : e ∈ ws := List.mem_of_getElem? he
        have hf1 := fac_ten ws.length (by omega)
        have hf0 : 0 < fac ws.length := fac_pos _
        refine ⟨rfl, _, rfl, by show 1 ≤ sizeLine; decide, fun t6 n6 => ?_⟩
        have s6 := same_upd n6 (o := .tup [.int e])
        have e6 : (upd Hj t6 (.tup [.int e])) t6 = some (.tup [.int e]) := upd_same
        generalize upd Hj t6 (.tup [.int e]) = H6 at s6 e6 ⊢
        refine ⟨_, rfl, _, rfl, ad, _, rfl, .inl ⟨kvs, .inl e, .of ((sj.trans s6) _ _ ead), rfl, (hkv e hew).symm⟩, ?_⟩
        refine ⟨_, rfl, ws.length, rfl, by omega, ?_⟩
        refine ⟨_, fac ws.length, rfl, hf0, Nat.lt_of_le_of_lt hf1 (by decide), fun H7 t7 s7 e7 => ?_⟩
        have eQ : qlow (DD (ordF ws.length) e (vl T) ws 0) (fac ws.length) = shQ ws A e := by
          unfold shQ
          rw [DD_congr eV]
        rw [eQ] at e7
        refine ⟨t6, t7, _, _, rfl, rfl, .of (s7 _ _ e6), .of e7, (fun z => by cases z), by show 3 ≤ sizeLine; decide, (fun z => by cases z), fun _ t8 n8 => ?_⟩
        have s8 := same_upd n8 (o := .tup ([.int e] ++ [.int (shQ ws A e).1, .int (shQ ws A e).2]))
        have d8 : Dp K (upd H7 t8 (.tup ([.int e] ++ [.int (shQ ws A e).1, .int (shQ ws A e).2]))) (.ref t8) (shD e (shQ ws A e)) := .tup (.of upd_same) (.cons (.int _) (.cons (.int _) (.cons (.int _) .nil)))
        generalize upd H7 t8 (.tup ([.int e] ++ [.int (shQ ws A e).1, .int (shQ ws A e).2])) = H8 at s8 d8 ⊢
        have s68 := (s6.trans s7).trans s8
        have eR8 := s68 _ _ eR
        have dus8 := DpAll.ext s68 _ _ dus
        have lus : us.length = j := by
          rw [DpAll.len dus, List.length_map, List.length_take]
          omega
        refine ⟨us, eR8, Nat.lt_of_le_of_lt (m := 8) (by omega) (by decide), fun b o hb => ?_, us ++ [.ref t8], upd_same, ?_⟩
        · rw [upd_ne (ne_of_none hb nR)]
          exact s68 _ _ (sj _ _ hb)
        · have etk : (ws.take (j + 1)).map (fun e => shD e (shQ ws A e)) = (ws.take j).map (fun e => shD e (shQ ws A e)) ++ [shD e (shQ ws A e)] := by
            rw [List.take_add_one, he, List.map_append]
            rfl
          rw [etk]
          exact DpAll.snoc (DpAll.away eR8 _ _ (shD_only _ _) dus8) (Dp.away eR8 _ _ rfl d8)
      · obtain ⟨sm, us, eR, dus⟩ := hp
        rw [List.length_map, List.take_of_length_le (Nat.le_refl _)] at dus
        exact q Hm R us ws ((fn.trans (FdS.of s3)).trans (FdS.of sm)) eR hws hwm dus
end

/-! ### the law's common divisor -/
theorem small64n {n : Nat} (h : n < 2 ^ 60) : -(2 ^ 64) < ((n : Nat) : Int) ∧ ((n : Nat) : Int) < 2 ^ 64 := by
  have e : (2 : Nat) ^ 60 = 1152921504606846976 := by decide
  constructor
  · have : (0 : Int) ≤ (n : Int) := Int.natCast_nonneg n
    have : -((2 : Int) ^ 64) < 0 := by decide
    omega
  · have : ((2 : Int) ^ 64) = 18446744073709551616 := by decide
    omega
def sp_com : Sp := fun vs H Q _ => ∃ a b : Nat, vs = [.int ((a : Nat) : Int), .int ((b : Nat) : Int)] ∧ a < 2 ^ 60 ∧ b < 2 ^ 60 ∧ ∀ H', Same H H' → Q (.int ((a.gcd b : Nat) : Int)) H'
section
variable {P : Program} {w : World} {K : PySem.W.Frag} {mg : Str → Option Value} {base : Heap}
theorem ok_com {f : Addr} {fd : FuncData} (F : Fun K "_law_common" "_law_common" s__law_common f fd) (M : Mg mg) : FnOk P w K mg base CX0 1 f fd ["first", "second"] sp_com := by
  refine F.ok sc__law_common (fun vs H Q E h => ?_) (fun cdv A0 outer s H vs Q E hr h => ?_)
  · obtain ⟨a, b, rfl, _⟩ := h
    rfl
  · obtain ⟨a, b, rfl, ha, hb, q⟩ := h
    have hab : a * b < 2 ^ 120 := Nat.lt_of_lt_of_le (Nat.mul_lt_mul'' ha hb) (by decide)
    refine ⟨_, (pss_cons (ps_for PassesOwn.never rfl (pi_range1 (by rfl) M.range (pa_cons pe_int pa_nil)) (pg_name (i := 2) sc__law_common.nd rfl (.inl rfl)) (pss_cons (ps_if (pt_cmpR op_eq (pv 1) pe_int (nomark _)) (pss_one ps_break) pss_nil)
      (pss_cons (ps_set (i := 3) sc__law_common.nd rfl (.inl rfl) (pe_op op_fdivW (pv 0) (pv 1)))
      (pss_one (ps_par (i := 0) (j := 1) rfl sc__law_common.nd rfl rfl (by decide) rfl rfl (pa_cons (pv 1) (pa_cons (pe_op op_sub (pv 0) (pe_op op_mul (pv 1) (pv 3))) pa_nil)) (by rfl))))))
      (pss_one (ps_ret (pv 0)))), ?_⟩
    refine ⟨_, rfl, by decide, by decide, ?_⟩
    refine for_range (lo := 0) (n := 400) (fun j σ Hj => Same H Hj ∧ ∃ (x y : Nat) (z2 z3 : Option V), σ = [some (.int ((x : Nat) : Int)), some (.int ((y : Nat) : Int)), z2, z3] ∧ x.gcd y = a.gcd b ∧ x < 2 ^ 60 ∧ y < 2 ^ 60 ∧ ((j = 0 ∧ x = a ∧ y = b) ∨ (1 ≤ j ∧ y < x ∧ x * y * 2 ^ (j - 1) ≤ a * b))) ⟨fun _ _ e => e, a, b, none, none, rfl, rfl, ha, hb, .inl ⟨rfl, rfl, rfl⟩⟩ (fun j σ Hj hj hp => ?_) (fun σ Hj hp => ?_)
    · obtain ⟨sj, x, y, z2, z3, rfl, hg, hx, hy, hm⟩ := hp
      refine ⟨_, rfl, rfl, _, rfl, ite2 (fun e => ?_) (fun e => ?_)⟩
      · have y0 : y = 0 := by
          have := V.int.inj (of_decide_eq_true e)
          omega
        subst y0
        rw [Nat.gcd_zero_right] at hg
        refine ⟨_, rfl, ?_⟩
        rw [hg]
        exact q _ sj
      · have y0 : 0 < y := by
          rcases Nat.eq_zero_or_pos y with z | z
          · subst z; exact absurd (decide_eq_true rfl) e
          · exact z
        refine ⟨_, rfl, _, rfl, _, _, rfl, rfl, wide_div (b := 60) (by omega) (by rw [Int.natAbs_natCast]; exact hy) (by decide) (by decide), ?_⟩
        refine ⟨_, rfl, _, rfl, _, rfl, _, rfl, _, _, rfl, rfl, .inl (small64n hy), ?_⟩
        refine ⟨_, _, rfl, rfl, _, _, rfl, ?_⟩
        have er : (x : Int) - (y : Int) * ((x : Int) / (y : Int)) = ((x % y : Nat) : Int) := by
          rw [Int.natCast_emod, Int.emod_def]
        dsimp only
        rw [er]
        have hr1 := Nat.mod_lt x y0
        refine ⟨sj, y, x % y, _, _, rfl, ?_, hy, Nat.lt_trans hr1 hy, .inr ⟨by omega, hr1, ?_⟩⟩
        · rw [← hg, Nat.gcd_comm x y, Nat.gcd_rec y x, Nat.gcd_comm]
        · show y * (x % y) * 2 ^ j ≤ a * b
          rcases hm with ⟨rfl, rfl, rfl⟩ | ⟨j1, hyx, hpot⟩
          · rw [Nat.pow_zero, Nat.mul_one, Nat.mul_comm x y]
            exact Nat.mul_le_mul_left _ (Nat.mod_le _ _)
          · have h2 : 2 * (x % y) ≤ x := by
              have e1 := Nat.div_add_mod x y
              have e2 : 1 ≤ x / y := (Nat.one_le_div_iff y0).mpr (Nat.le_of_lt hyx)
              have e3 : y * 1 ≤ y * (x / y) := Nat.mul_le_mul_left _ e2
              omega
            have e4 : 2 ^ j = 2 * 2 ^ (j - 1) := by
              rw [show j = (j - 1) + 1 by omega, Nat.pow_succ, Nat.mul_comm]
              rfl
            refine Nat.le_trans ?_ hpot
            calc y * (x % y) * 2 ^ j = y * (2 * (x % y)) * 2 ^ (j - 1) := by rw [e4]; ac_rfl
              _ ≤ y * x * 2 ^ (j - 1) := Nat.mul_le_mul_right _ (Nat.mul_le_mul_left _ h2)
              _ = x * y * 2 ^ (j - 1) := by ac_rfl
    · obtain ⟨sj, x, y, z2, z3, rfl, hg, hx, hy, hm⟩ := hp
      have y0 : y = 0 := by
        rcases hm with ⟨h, _⟩ | ⟨_, hyx, hpot⟩
        · cases h
        · rcases Nat.eq_zero_or_pos y with z | z
          · exact z
          · exfalso
            have h1 : 1 * 2 ^ (400 - 1) ≤ x * y * 2 ^ (400 - 1) := Nat.mul_le_mul_right _ (Nat.mul_pos (by omega) z)
            have h2 := Nat.lt_of_le_of_lt (Nat.le_trans h1 hpot) hab
            rw [Nat.one_mul] at h2
            exact absurd ((Nat.pow_lt_pow_iff_right (by decide)).mp h2) (by decide)
      subst y0
      rw [Nat.gcd_zero_right] at hg
      refine ⟨_, rfl, ?_⟩
      rw [hg]
      exact q _ sj
end

/-- what is added along one order -/
theorem tele : ∀ (q : List Int) (g : List Int → Int), q.Nodup → (q.map fun e => g (bef e q ++ [e]) - g (bef e q)).sum = g q - g []
  | [], g, _ => by show 0 = g [] - g []; omega
  | x :: q, g, hn => by
    rw [List.nodup_cons] at hn
    have ih := tele q (fun S => g (x :: S)) hn.2
    rw [List.map_cons, List.sum_cons, bef_head]
    have : (q.map fun e => g (bef e (x :: q) ++ [e]) - g (bef e (x :: q))) = q.map fun e => g (x :: (bef e q ++ [e])) - g (x :: bef e q) := List.map_inj_left.mpr fun e he => by
      have hne : x ≠ e := fun z => hn.1 (by rw [z]; exact he)
      rw [bef_tail hne]
      rfl
    rw [this, ih]
    show g [x] - g [] + (g (x :: q) - g [x]) = _
    omega
theorem sum_osum (os : List (List Int)) (G : Int → List Int → Int) : ∀ ws : List Int, (ws.map fun e => osum os (G e)).sum = osum os fun q => (ws.map fun e => G e q).sum
  | [] => by
    show 0 = osum os fun _ => 0
    rw [osum_const]
    omega
  | x :: ws => by
    rw [List.map_cons, List.sum_cons, sum_osum os G ws, ← osum_add]
    rfl
theorem perm_sum {l l' : List Int} (h : l.Perm l') : l.sum = l'.sum := by
  induction h with
  | nil => rfl
  | cons x _ ih => rw [List.sum_cons, List.sum_cons, ih]
  | swap x y l =>
    rw [List.sum_cons, List.sum_cons, List.sum_cons, List.sum_cons]
    omega
  | trans _ _ a b => exact a.trans b
theorem tele_all (g : List Int → Int) (hg : PInv g) {ws : List Int} (hn : ws.Nodup) (C : Int → Int) (hC : ∀ e ∈ ws, (osum (ords ws) fun q => g (bef e q ++ [e]) - g (bef e q)) = C e) : (ws.map C).sum = (((ords ws).length : Nat) : Int) * (g ws - g []) := by
  rw [← osum_const, List.map_inj_left.mpr (fun e he => (hC e he).symm : ∀ e ∈ ws, C e = _), sum_osum]
  refine osum_congr _ fun q hq => ?_
  have hp := ords_perm ws q hq
  rw [← perm_sum (hp.map fun e => g (bef e q ++ [e]) - g (bef e q)), tele q g (hp.nodup_iff.mpr hn), hg q ws hp]
theorem qlow_facts {x : Int} {d : Nat} (hd : 0 < d) (hx : x.natAbs ≤ d) : ∃ (m : Int) (k : Nat), qlow x d = (m, ((k : Nat) : Int)) ∧ 1 ≤ k ∧ k ≤ d ∧ m.natAbs ≤ k ∧ m.natAbs.gcd k = 1 ∧ m * ((d : Nat) : Int) = x * ((k : Nat) : Int) := by
  have g0 : 0 < x.natAbs.gcd d := Nat.gcd_pos_of_pos_right _ hd
  obtain ⟨p, hp⟩ := Nat.gcd_dvd_left x.natAbs d
  obtain ⟨k, hk⟩ := Nat.gcd_dvd_right x.natAbs d
  have hc : Nat.Coprime p k := by
    have := Nat.coprime_div_gcd_div_gcd (m := x.natAbs) (n := d) g0
    rw [Nat.div_eq_of_eq_mul_right g0 hp, Nat.div_eq_of_eq_mul_right g0 hk] at this
    exact this
  obtain ⟨m, hm, hmp⟩ : ∃ m : Int, x = ((x.natAbs.gcd d : Nat) : Int) * m ∧ m.natAbs = p := by
    rcases Int.natAbs_eq x with h | h
    · refine ⟨(p : Int), ?_, by simp⟩
      rw [← Int.natCast_mul, ← hp]
      exact h
    · refine ⟨-(p : Int), ?_, by simp⟩
      rw [Int.mul_neg, ← Int.natCast_mul, ← hp]
      exact h
  have e1 : x / ((x.natAbs.gcd d : Nat) : Int) = m := by
    have : ((x.natAbs.gcd d : Nat) : Int) ≠ 0 := by omega
    exact Int.ediv_eq_of_eq_mul_right this hm
  have e2 : ((d : Nat) : Int) / ((x.natAbs.gcd d : Nat) : Int) = ((k : Nat) : Int) := by
    rw [← Int.natCast_ediv, Nat.div_eq_of_eq_mul_right g0 hk]
  refine ⟨m, k, by unfold qlow; rw [e1, e2], ?_, ?_, ?_, by rw [hmp]; exact hc, ?_⟩
  · rcases Nat.eq_zero_or_pos k with z | z
    · rw [z, Nat.mul_zero] at hk
      omega
    · exact z
  · generalize x.natAbs.gcd d = g at g0 hk
    rw [hk]
    exact Nat.le_mul_of_pos_left _ g0
  · rw [hmp]
    generalize x.natAbs.gcd d = g at g0 hp hk
    rw [hp, hk] at hx
    exact Nat.le_of_mul_le_mul_left hx g0
  · generalize x.natAbs.gcd d = g at hm hk
    rw [hk, hm, Int.natCast_mul]
    grind
/-- only the rows on which a condition depends count -/
theorem ev_dep {es : List Int} {A : Bd} (h : Wf es A) (hn : es.Nodup) {r q : Int → Bool} (e : ∀ x, dpn A x → r x = q x) : A.ev r = A.ev q := by
  classical
  have h2 := wf_filter h (fun x => decide (dpn A x)) fun x hx => decide_eq_true hx
  refine wf_agree h2 fun x hx => e x ?_
  have := (List.mem_filter.mp hx).2
  exact of_decide_eq_true this
theorem osum_abs : ∀ (os : List (List Int)) (F : List Int → Int), (∀ q ∈ os, -1 ≤ F q ∧ F q ≤ 1) → -(os.length : Int) ≤ osum os F ∧ osum os F ≤ (os.length : Int)
  | [], _, _ => ⟨Int.le_refl _, Int.le_refl _⟩
  | q :: os, F, h => by
    have h1 := osum_abs os F fun x hx => h x (List.mem_cons_of_mem _ hx)
    have h2 := h q List.mem_cons_self
    rw [osum_cons, List.length_cons]
    omega
def sp_law (K : PySem.W.Frag) : Sp := fun vs H Q _ => ∃ (a : Addr) (ns : List Int), vs = [.ref a] ∧ SqL K H a (ns.map V.int) ∧ ns.length ≤ 63 ∧ ∀ H', Q (.bl true) H'
section
variable {P : Program} {w : World} {K : PySem.W.Frag} {mg : Str → Option Value} {base : Heap}
set_option maxHeartbeats 8000000 in
theorem ok_law {f C : Addr} {fd : FuncData} (F : Fun K "law" "law" s_law f fd) (M : Mg mg) (c__law_draw : Cl P w K mg base 1 "_law_draw" (sp_draw K)) (c__law_next : Cl P w K mg base 1 "_law_next" sp_next) (c__law_entries : Cl P w K mg base 2 "_law_entries" (sp_ents 8)) (c__law_tree : Cl P w K mg base 7 "_law_tree" (sp_ltr K 6)) (c_Diagrams___init__ : ClC P w K mg base 1 "Diagrams" C (sp_dinit C K))
    (c__law_build : Cl P w K mg base 22 "_law_build" (sp_build C K 9 9)) (c__law_true : Cl P w K mg base 9 "_law_true" (sp_true K 8)) (c__law_common : Cl P w K mg base 1 "_law_common" sp_com) (c_shares : Cl P w K mg base 5 "shares" (sp_shr C K)) : FnOk P w K mg base CX0 23 f fd ["script"] (sp_law K) := by
  refine F.ok sc_law (fun vs H Q E h => ?_) (fun cdv A0 outer s0 H vs Q E hr h => ?_)
  · obtain ⟨a, ns, rfl, _⟩ := h
    rfl
  obtain ⟨a, ns, rfl, hS, _, q⟩ := h
  refine ⟨_, (pss_cons (ps_set (i := 1) sc_law.nd rfl (.inr rfl) (pe_u c__law_draw hr (by first | decide | omega) (by rfl) (pa_cons (pv 0) pa_nil)))
      (pss_cons (ps_set (i := 2) sc_law.nd rfl (.inl rfl) (pe_u c__law_entries hr (by first | decide | omega) (by rfl) (pa_cons (pv 1) (pa_cons pe_int pa_nil))))
      (pss_cons (ps_set (i := 3) sc_law.nd rfl (.inl rfl) (pe_u c__law_tree hr (by first | decide | omega) (by rfl) (pa_cons (pv 1) (pa_cons (pv 2) (pa_cons (pe_op op_add pe_int (pe_u c__law_next hr (by first | decide | omega) (by rfl) (pa_cons (pv 1) (pa_cons pe_int pa_nil)))) pa_nil)))))
      (pss_cons (ps_setLc (i := 5) (own := [("entry", 4)]) (g := gName 4) rfl sc_law.nd rfl rfl (sw_true rfl rfl rfl (by decide +kernel)) (pi_list (pv 2)) (blkOk_by (N := N_law) (sc := defScope s_law) (by decide +kernel)) (fun _ _ _ _ _ => (pg_name (i := 4) sc_law.nd rfl (.inl rfl))) (fun _ _ _ _ _ => (pts_one (pt_truthK K (pe_u c__law_next hr (by first | decide | omega) (by rfl) (pa_cons (pv 1) (pa_cons pe_int pa_nil))) (by intro _; rfl)))) (fun _ _ _ _ _ => (pv 4)))
      (pss_cons (ps_set (i := 6) sc_law.nd rfl (.inl rfl) (pe_mk0 c_Diagrams___init__ hr (by first | decide | omega) (by rfl)))
      (pss_cons (ps_set (i := 7) sc_law.nd rfl (.inl rfl) (pe_u c__law_build hr (by first | decide | omega) (by rfl) (pa_cons (pv 6) (pa_cons (pv 3) pa_nil))))
      (pss_cons (ps_set (i := 8) sc_law.nd rfl (.inl rfl) pe_int)
      (pss_cons (ps_set (i := 9) sc_law.nd rfl (.inl rfl) pe_int)
      (pss_cons (ps_for PassesOwn.never rfl (pi_list (pe_u c_shares hr (by first | decide | omega) (by rfl) (pa_cons (pv 6) (pa_cons (pv 7) (pa_cons (pv 5) pa_nil))))) (pg_tup (by rfl) (pgs_cons (pg_name (i := 4) sc_law.nd rfl (.inl rfl)) (pgs_cons (pg_name (i := 10) sc_law.nd rfl (.inl rfl)) (pgs_cons (pg_name (i := 11) sc_law.nd rfl (.inl rfl)) pgs_nil)))) (pss_cons (ps_if (PW.pt (pw_or (pt_cmpR (notInK K) (pv 4) (pv 5) (by rfl)) (pw_or (pt_cmpR op_lt (pv 11) pe_int (nomark _)) (pw_or1 (pt_cmpR op_gt (pe_callB call_abs (by rfl) M.abs (by decide +kernel) (pa_cons (pv 10) pa_nil)) (pv 11) (nomark _)))))) (pss_one (ps_ret pe_bl)) pss_nil)
      (pss_cons (ps_if (pt_cmpR op_ne (pe_u c__law_common hr (by first | decide | omega) (by rfl) (pa_cons (pe_callB call_abs (by rfl) M.abs (by decide +kernel) (pa_cons (pv 10) pa_nil)) (pa_cons (pv 11) pa_nil))) pe_int (nomark _)) (pss_one (ps_ret pe_bl)) pss_nil)
      (pss_cons (ps_set (i := 9) sc_law.nd rfl (.inl rfl) (pe_op op_add (pe_op op_mul (pv 9) (pv 11)) (pe_op op_mul (pv 10) (pv 8))))
      (pss_one (ps_set (i := 8) sc_law.nd rfl (.inl rfl) (pe_op op_mul (pv 8) (pv 11))))))))
      (pss_cons (ps_set (i := 12) sc_law.nd rfl (.inl rfl) (pe_op op_sub (pe_callTy call_int1 (by rfl) M.int (by decide +kernel) (pa_cons (pe_u c__law_true hr (by first | decide | omega) (by rfl) (pa_cons (pv 3) (pa_cons (pv 5) pa_nil))) pa_nil)) (pe_callTy call_int1 (by rfl) M.int (by decide +kernel) (pa_cons (pe_u c__law_true hr (by first | decide | omega) (by rfl) (pa_cons (pv 3) (pa_cons (pe_lst pa_nil) pa_nil))) pa_nil))))
      (pss_one (ps_ret (pe_cmpR op_eq (pv 9) (pe_op op_mul (pv 12) (pv 8)) (nomark _)))))))))))))), ?_⟩
  refine ⟨_, rfl, a, ns, rfl, hS, fun H1 d c s1 nd dr => ?_⟩
  refine ⟨_, rfl, d, c, rfl, by decide, by decide, dr, fun H2 ea es f2 dr2 na en => ?_⟩
  have hl5 : es.length ≤ 8 := en.2.2.2.2.2.1
  refine ⟨_, rfl, _, rfl, _, rfl, d, c, 5, rfl, dr2, by decide, by decide, fun H3 r f3 _ dr3 r0 r1 => ?_⟩
  obtain ⟨k1, rfl⟩ := Int.eq_ofNat_of_zero_le r0
  have en3 := en.fd f3
  refine ⟨_, _, rfl, rfl, d, c, ea, es, 8, 1 + k1, rfl, by omega, dr3, en3, by decide, fun H4 v1 t1 f4 dr4 ok1 ht1 dp1 => ?_⟩
  have en4 := en3.fd f4
  have hsrt : es.Pairwise (· < ·) := en4.2.2.2.1
  have ee4 := en4.2.2.1
  -- who is there
  refine ⟨_, rfl, ea, rfl, ⟨_, .of ee4⟩, fun pa nP => ?_⟩
  have nPd := dr4.nd nP
  have nPc := dr4.nc nP
  refine lc_list (K := K) (a := ea) (xs := es.map V.int) (tt := fun σ H Q => tCall sp_next [] E0 (tCons (tVar 1) (tCons (tC (V.int 5)) tNil)) σ H fun x H' => ∃ k, TruV K x H' k ∧ Q k H') (fun j Hj => Dr Hj d c ∧ (∀ b u, b ≠ d → H4 b = some u → Hj b = some u) ∧ ∃ ps : List Int, Hj pa = some (.lst (ps.map V.int)) ∧ ps.Sublist (es.take j)) ⟨dr4.upd nPd nPc, fun b u n e => by rw [upd_ne (ne_of_none e nP)]; exact e, [], upd_same, List.nil_sublist _⟩ (fun j Hj _ hp => .of (hp.2.1 _ _ en4.1 ee4)) (fun j y Hj hy hp => ?_) (fun H5 hp => ?_)
  · obtain ⟨drj, fj, ps, ePj, hps⟩ := hp
    rw [List.getElem?_map] at hy
    obtain ⟨x, hx, rfl⟩ := Option.map_eq_some_iff.mp hy
    have hj := (List.getElem?_eq_some_iff.mp hx).1
    have etk : es.take (j + 1) = es.take j ++ [x] := by rw [List.take_add_one, hx]; rfl
    have lps := hps.length_le
    rw [List.length_take] at lps
    refine ⟨rfl, _, rfl, d, c, 5, rfl, drj, by decide, by decide, fun H' r f' _ dr' r0 r1 => ⟨_, rfl, ?_⟩⟩
    refine ite2 (fun g => ?_) (fun g => ?_)
    · refine ⟨_, rfl, _, f' _ _ nPd ePj, ?_, dr'.upd nPd nPc, fun b u n e => ?_, ps ++ [x], ?_, ?_⟩
      · rw [List.length_map]
        exact Nat.lt_of_le_of_lt (m := 8) (by omega) (by decide)
      · rw [upd_ne (ne_of_none e nP)]
        exact f' _ _ n (fj _ _ n e)
      · rw [upd_same, List.map_append]
        rfl
      · rw [etk]
        exact List.Sublist.append hps (List.Sublist.refl _)
    · exact ⟨dr', fun b u n e => f' _ _ n (fj _ _ n e), ps, f' _ _ nPd ePj, by rw [etk]; exact hps.trans (List.sublist_append_left _ _)⟩
  obtain ⟨dr5, f45, ps, eP5, hps⟩ := hp
  rw [List.length_map, List.take_of_length_le (Nat.le_refl _)] at hps
  have ee5 := f45 _ _ en4.1 ee4
  have dp5 := Dp.fd dr4.lst f45 _ _ (tr_only _) dp1
  have lps := hps.length_le
  -- the store
  refine fun x dx nx ndx nex => ⟨x, dx, rfl, upd_same, fun H7 sa hsp f7 hk hu hm stm => ⟨rfl, ?_⟩⟩
  subst hsp
  have s7 := made_same nx ndx f7
  have hk := made_free hk
  have hu := made_free hu
  have hm := made_free hm
  have st7 := stm es hsrt
  have pk : pa ≠ sa.k ∧ pa ≠ sa.u ∧ pa ≠ sa.m := ⟨ne_of_none eP5 hk, ne_of_none eP5 hu, ne_of_none eP5 hm⟩
  have ek : ea ≠ sa.k ∧ ea ≠ sa.u ∧ ea ≠ sa.m := ⟨ne_of_none ee5 hk, ne_of_none ee5 hu, ne_of_none ee5 hm⟩
  have dp7 := Dp.ext s7 _ _ dp5
  have eP7 := s7 _ _ eP5
  have ee7 := s7 _ _ ee5
  have hob : opB es ≤ 512 := by
    have hpow : 2 ^ es.length ≤ 2 ^ 8 := Nat.pow_le_pow_right (by decide) hl5
    unfold opB
    omega
  have sl : (500000 : Nat) < sizeLine := by decide
  have b1 : t1.sz * opB es ≤ 33000 := by
    have h1 := tr_sz t1
    have h2 : 2 ^ (t1.ht + 1) ≤ 2 ^ 6 := Nat.pow_le_pow_right (by decide) (by omega)
    have h3 : t1.sz * opB es ≤ 64 * 512 := Nat.mul_le_mul (by omega) hob
    omega
  refine ⟨_, rfl, _, rfl, sa, [], es, 0, v1, t1, rfl, st7, by omega, ok1, by omega, dp7, by rw [List.length_nil]; omega, by omega, fun H8 N nc T f8 l8 st8 aT wT vT => ?_⟩
  rw [List.nil_append] at st8 aT
  have dp8 := st7.dp f8 (tr_only _) dp7
  have eP8 := f8 _ _ pk.1 pk.2.1 pk.2.2 eP7
  have ee8 := f8 _ _ ek.1 ek.2.1 ek.2.2 ee7
  have hpow : 2 ^ es.length ≤ 2 ^ 8 := Nat.pow_le_pow_right (by decide) hl5
  have hsz : T.sz ≤ 1000 := by
    have := wf_sz wT
    omega
  have ev : T.ev = t1.ev := funext fun ρ => vT ρ
  have hnd : es.Nodup := hsrt.imp fun h => by omega
  refine ⟨_, rfl, _, rfl, _, rfl, sa, N, es, _, nc, T, pa, ps, rfl, st8, aT, wT, hsz, by omega, eP8, pk, by omega, fun H9 r us ws f9 er hws hwm dus => ?_⟩
  have eP9 := f9 _ _ pk.1 pk.2.1 pk.2.2 eP8
  have dp9 := st8.dp f9 (tr_only _) dp8
  have wnd : ws.Nodup := hws.imp fun h => by omega
  have hpw : ps.Pairwise (· < ·) := hsrt.sublist hps
  have lws : ws.length ≤ 8 := by
    have := pw_len hws hsrt fun x hx => hps.subset ((hwm x).mp hx).2
    omega
  have f0 := fac_pos ws.length
  have f8! := fac_ten ws.length (by omega)
  -- all shares of one row
  have etot : ∀ e ∈ ws, (osum (ords ws) fun q => vl T (bef e q ++ [e]) - vl T (bef e q)) = DD (ordF ws.length) e (vl T) ws 0 := fun e hew => by
    rw [bef_sum e ws (fun S => vl T (S ++ [e]) - vl T S) (fun S S' hS => by dsimp only; rw [vl_perm T _ _ (hS.append_right [e]), vl_perm T _ _ hS]) wnd hew, DD_sum hew (vl_perm T)]
    refine ssum_congr _ fun S _ => ?_
    rw [Nat.zero_add]
    unfold ordF
    rw [Int.natCast_mul]
  have hbd : ∀ e ∈ ws, (DD (ordF ws.length) e (vl T) ws 0).natAbs ≤ fac ws.length := fun e hew => by
    rw [← etot e hew]
    have := osum_abs (ords ws) (fun q => vl T (bef e q ++ [e]) - vl T (bef e q)) fun q _ => by
      have h1 := vl_01 T (bef e q ++ [e])
      have h2 := vl_01 T (bef e q)
      omega
    rw [ords_len] at this
    omega
  have hall : (ws.map fun e => DD (ordF ws.length) e (vl T) ws 0).sum = ((fac ws.length : Nat) : Int) * (vl T ws - vl T []) := by
    rw [← ords_len]
    exact tele_all (vl T) (vl_perm T) wnd _ etot
  have lus : us.length = ws.length := by rw [DpAll.len dus, List.length_map]
  refine ⟨r, rfl, ⟨_, .of er⟩, ?_⟩
  refine for_list (K := K) (a := r) (xs := us) (fun j σ Hj => Same H9 Hj ∧ ∃ z4 z10 z11 un, ∃ tt : Int, σ = [some (.ref a), some (.ref d), some (.ref ea), some v1, z4, some (.ref pa), some (.ref sa.p), some (.int ((nc : Nat) : Int)), some (.int un), some (.int tt), z10, z11, none] ∧ 0 < un ∧ tt * ((fac ws.length : Nat) : Int) = un * ((ws.take j).map fun e => DD (ordF ws.length) e (vl T) ws 0).sum) ⟨fun _ _ h => h, none, none, none, 1, 0, rfl, by decide, by rw [Int.zero_mul]; rfl⟩ (fun j σ Hj _ hp => .of (hp.1 _ _ er)) (fun j y σ Hj hy hp => ?_) (fun σ Hn hp => ?_)
  · obtain ⟨sj, z4, z10, z11, un, tt, rfl, un0, htt⟩ := hp
    have hj : j < ws.length := by rw [← lus]; exact (List.getElem?_eq_some_iff.mp hy).1
    have hew : ws[j] ∈ ws := List.getElem_mem hj
    obtain ⟨u, hu, hd⟩ := DpAll.get dus (show (ws.map fun e => shD e (shQ ws T e))[j]? = some (shD ws[j] (shQ ws T ws[j])) by rw [List.getElem?_map, List.getElem?_eq_getElem hj]; rfl)
    obtain rfl : u = y := Option.some.inj (hu.symm.trans hy)
    obtain ⟨m, k, eQ, k1', k2, k3, k4, k5⟩ := qlow_facts f0 (hbd _ hew)
    have etk : (ws.take (j + 1)).map (fun e => DD (ordF ws.length) e (vl T) ws 0) = (ws.take j).map (fun e => DD (ordF ws.length) e (vl T) ws 0) ++ [DD (ordF ws.length) ws[j] (vl T) ws 0] := by
      rw [List.take_add_one, List.getElem?_eq_getElem hj, List.map_append]
      rfl
    unfold shQ at hd
    rw [eQ] at hd
    rw [etk, List.sum_append]
    generalize DD (ordF ws.length) ws[j] (vl T) ws 0 = c1 at k5
    have hep : ws[j] ∈ ps := ((hwm _).mp hew).2
    generalize ws[j] = e at hd hep
    obtain ⟨ra, rs, rfl, hrs, hra⟩ := dp_tup hd
    have : rs = [.int e, .int m, .int ((k : Nat) : Int)] := by
      cases hra with
      | cons g1 g2 =>
        cases g1
        cases g2 with
        | cons g3 g4 =>
          cases g3
          cases g4 with
          | cons g5 g6 =>
            cases g5
            cases g6
            rfl
    subst this
    have eab : (if m < 0 then -m else m) = ((m.natAbs : Nat) : Int) := by split <;> omega
    refine ⟨ra, _, rfl, SqT.ext sj hrs, rfl, _, _, rfl, _, _, rfl, _, _, rfl, rfl, ?_⟩
    refine ⟨_, rfl, _, rfl, pa, _, rfl, .inl (.of (sj _ _ eP9)), rfl, ints_flat ps, _, rfl, ?_⟩
    rw [if_pos rfl, inV_int, decide_eq_true hep]
    refine iteF ⟨_, rfl, _, _, rfl, rfl, _, rfl, ?_⟩
    rw [decide_eq_false (by omega : ¬ ((k : Nat) : Int) < 1)]
    refine iteF ⟨_, rfl, _, rfl, ?_⟩
    rw [eab]
    refine ⟨_, rfl, _, _, rfl, rfl, _, rfl, ?_⟩
    rw [decide_eq_false (by omega : ¬ ((k : Nat) : Int) < ((m.natAbs : Nat) : Int))]
    refine iteF ?_
    refine ⟨_, rfl, _, rfl, ?_⟩
    rw [eab]
    refine ⟨_, rfl, m.natAbs, k, rfl, Nat.lt_of_le_of_lt (m := 3628800) (by omega) (by decide), Nat.lt_of_le_of_lt (m := 3628800) (by omega) (by decide), fun Ha sa' => ⟨rfl, _, rfl, ?_⟩⟩
    rw [k4]
    refine iteF ?_
    have kb : -(2 ^ 64) < ((k : Nat) : Int) ∧ ((k : Nat) : Int) < 2 ^ 64 := ⟨by omega, by omega⟩
    refine ⟨_, rfl, _, rfl, _, _, rfl, rfl, .inr kb, _, rfl, _, rfl, _, _, rfl, rfl, .inl ⟨by omega, by omega⟩, _, _, rfl, rfl, ?_⟩
    refine ⟨_, rfl, _, rfl, _, _, rfl, rfl, .inr kb, ?_⟩
    refine ⟨sj.trans sa', _, _, _, _, _, rfl, Int.mul_pos un0 (by omega), ?_⟩
    generalize ((ws.take j).map fun e => DD (ordF ws.length) e (vl T) ws 0).sum = S at htt ⊢
    generalize ((fac ws.length : Nat) : Int) = F at htt k5 ⊢
    generalize ((k : Nat) : Int) = kk at k5 ⊢
    show (tt * kk + m * un) * F = un * kk * (S + (c1 + 0))
    have e1 : tt * kk * F = un * S * kk := by rw [Int.mul_right_comm, htt]
    have e2 : m * un * F = un * (c1 * kk) := by rw [← k5]; grind
    rw [Int.add_mul, e1, e2]
    grind
  · obtain ⟨sn, z4, z10, z11, un, tt, rfl, un0, htt⟩ := hp
    rw [lus, List.take_of_length_le (Nat.le_refl _), hall] at htt
    have dpn' := Dp.ext sn _ _ dp9
    have ePn := sn _ _ eP9
    refine ⟨_, rfl, _, rfl, v1, pa, t1, ps, rfl, dpn', .of ePn, by omega, .inr ⟨_, rfl, ?_⟩⟩
    refine ⟨_, rfl, Nat.zero_le _, fun p0 n0 => ?_⟩
    have s0' := same_upd n0 (o := .lst [])
    have e0 : (upd Hn p0 (.lst [])) p0 = some (.lst (([] : List Int).map V.int)) := upd_same
    refine ⟨v1, p0, t1, [], rfl, Dp.ext s0' _ _ dpn', .of e0, by omega, .inr ⟨_, rfl, _, _, rfl, rfl, ?_⟩⟩
    have eva : ∀ S : List Int, (if (t1.ev fun x => decide (x ∈ S)) = true then (1 : Int) else 0) = vl T S := fun S => by
      unfold vl evP
      rw [ev]
    rw [eva, eva]
    have evw : vl T ps = vl T ws := by
      unfold vl evP
      have : T.ev (fun x => decide (x ∈ ps)) = T.ev fun x => decide (x ∈ ws) := ev_dep (wT) hnd fun x hx => by
        by_cases hp' : x ∈ ps
        · rw [decide_eq_true hp', decide_eq_true ((hwm x).mpr ⟨hx, hp'⟩)]
        · rw [decide_eq_false hp', decide_eq_false fun z => hp' ((hwm x).mp z).2]
      rw [this]
    have h1 := vl_01 T ps
    have h2 := vl_01 T []
    refine ⟨_, rfl, _, rfl, _, rfl, _, _, rfl, rfl, .inl ⟨by omega, by omega⟩, rfl, ?_⟩
    rw [evw] at *
    have fin : tt = (vl T ws - vl T []) * un := by
      have h3 : tt * ((fac ws.length : Nat) : Int) = ((vl T ws - vl T []) * un) * ((fac ws.length : Nat) : Int) := by rw [htt]; grind
      exact Int.eq_of_mul_eq_mul_right (by omega) h3
    rw [fin]
    dsimp only
    rw [decide_eq_true rfl]
    exact q _
end

set_option maxHeartbeats 0 in
theorem all_mk {l : PySem.W.OpenLaw} {w : World} {K : PySem.W.Frag} {h : Heap} {mg : Str → Option Value} {fa : Addr} (X : K.In h) (G : h.Ns mainGlobals mg) (hfa : mg "law" = some (.ref fa))
    {od0 an0 : Option Addr} {sl0 : Array (Option Value)} {oc0 kV0 dc0 pm0 cd0 ct0 : Value} {f0 : Addr}
    {od1 an1 : Option Addr} {sl1 : Array (Option Value)} {oc1 kV1 dc1 pm1 cd1 ct1 : Value} {f1 : Addr}
    {od2 an2 : Option Addr} {sl2 : Array (Option Value)} {oc2 kV2 dc2 pm2 cd2 ct2 : Value} {f2 : Addr}
    {od3 an3 : Option Addr} {sl3 : Array (Option Value)} {oc3 kV3 dc3 pm3 cd3 ct3 : Value} {f3 : Addr}
    {od4 an4 : Option Addr} {sl4 : Array (Option Value)} {oc4 kV4 dc4 pm4 cd4 ct4 : Value} {f4 : Addr}
    {od5 an5 : Option Addr} {sl5 : Array (Option Value)} {oc5 kV5 dc5 pm5 cd5 ct5 : Value} {f5 : Addr}
    {od6 an6 : Option Addr} {sl6 : Array (Option Value)} {oc6 kV6 dc6 pm6 cd6 ct6 : Value} {f6 : Addr}
    {od7 an7 : Option Addr} {sl7 : Array (Option Value)} {oc7 kV7 dc7 pm7 cd7 ct7 : Value} {f7 : Addr}
    {od8 an8 : Option Addr} {sl8 : Array (Option Value)} {oc8 kV8 dc8 pm8 cd8 ct8 : Value} {f8 : Addr}
    {od9 an9 : Option Addr} {sl9 : Array (Option Value)} {oc9 kV9 dc9 pm9 cd9 ct9 : Value} {f9 : Addr}
    {od10 an10 : Option Addr} {sl10 : Array (Option Value)} {oc10 kV10 dc10 pm10 cd10 ct10 : Value} {f10 : Addr}
    {od11 an11 : Option Addr} {sl11 : Array (Option Value)} {oc11 kV11 dc11 pm11 cd11 ct11 : Value} {f11 : Addr}
    {od12 an12 : Option Addr} {sl12 : Array (Option Value)} {oc12 kV12 dc12 pm12 cd12 ct12 : Value} {f12 : Addr}
    {od13 an13 : Option Addr} {sl13 : Array (Option Value)} {oc13 kV13 dc13 pm13 cd13 ct13 : Value} {f13 : Addr}
    {od14 an14 : Option Addr} {sl14 : Array (Option Value)} {oc14 kV14 dc14 pm14 cd14 ct14 : Value} {f14 : Addr}
    {od15 an15 : Option Addr} {sl15 : Array (Option Value)} {oc15 kV15 dc15 pm15 cd15 ct15 : Value} {f15 : Addr}
    {od16 an16 : Option Addr} {sl16 : Array (Option Value)} {oc16 kV16 dc16 pm16 cd16 ct16 : Value} {f16 : Addr}
    {od17 an17 : Option Addr} {sl17 : Array (Option Value)} {oc17 kV17 dc17 pm17 cd17 ct17 : Value} {f17 : Addr}
    {od18 an18 : Option Addr} {sl18 : Array (Option Value)} {oc18 kV18 dc18 pm18 cd18 ct18 : Value} {f18 : Addr}
    {od19 an19 : Option Addr} {sl19 : Array (Option Value)} {oc19 kV19 dc19 pm19 cd19 ct19 : Value} {f19 : Addr}
    {od20 an20 : Option Addr} {sl20 : Array (Option Value)} {oc20 kV20 dc20 pm20 cd20 ct20 : Value} {f20 : Addr}
    {od21 an21 : Option Addr} {sl21 : Array (Option Value)} {oc21 kV21 dc21 pm21 cd21 ct21 : Value} {f21 : Addr}
    {od22 an22 : Option Addr} {sl22 : Array (Option Value)} {oc22 kV22 dc22 pm22 cd22 ct22 : Value} {f22 : Addr}
    {od23 an23 : Option Addr} {sl23 : Array (Option Value)} {oc23 kV23 dc23 pm23 cd23 ct23 : Value} {f23 : Addr}
    {od24 an24 : Option Addr} {sl24 : Array (Option Value)} {oc24 kV24 dc24 pm24 cd24 ct24 : Value} {f24 : Addr}
    {od25 an25 : Option Addr} {sl25 : Array (Option Value)} {oc25 kV25 dc25 pm25 cd25 ct25 : Value} {f25 : Addr}
    {od26 an26 : Option Addr} {sl26 : Array (Option Value)} {oc26 kV26 dc26 pm26 cd26 ct26 : Value} {f26 : Addr}
    {od27 an27 : Option Addr} {sl27 : Array (Option Value)} {oc27 kV27 dc27 pm27 cd27 ct27 : Value} {f27 : Addr}
    {od28 an28 : Option Addr} {sl28 : Array (Option Value)} {oc28 kV28 dc28 pm28 cd28 ct28 : Value} {f28 : Addr}
    {od29 an29 : Option Addr} {sl29 : Array (Option Value)} {oc29 kV29 dc29 pm29 cd29 ct29 : Value} {f29 : Addr}
    {C_Diagrams : Addr}
    (a0 : PySem.W.nsIn K mainGlobals "lowest_terms" = some (some (.ref f0))) (l0 : K.lookup f0 = some ⟨oc0, od0, .func (PySem.W.fnOf "lowest_terms" "lowest_terms" (defArgs s_lowest_terms) (defBody s_lowest_terms) (defScope s_lowest_terms) .none kV0 dc0 pm0 an0 cd0 ct0), sl0⟩) (c0 : PySem.W.codeIn K cd0 "lowest_terms" = true) (k0 : PySem.W.keepIn K (.ref f0) = true)
    (a1 : PySem.W.nsIn K mainGlobals "shares" = some (some (.ref f1))) (l1 : K.lookup f1 = some ⟨oc1, od1, .func (PySem.W.fnOf "shares" "shares" (defArgs s_shares) (defBody s_shares) (defScope s_shares) .none kV1 dc1 pm1 an1 cd1 ct1), sl1⟩) (c1 : PySem.W.codeIn K cd1 "shares" = true) (k1 : PySem.W.keepIn K (.ref f1) = true)
    (a2 : PySem.W.nsIn K mainGlobals "added_by_entries" = some (some (.ref f2))) (l2 : K.lookup f2 = some ⟨oc2, od2, .func (PySem.W.fnOf "added_by_entries" "added_by_entries" (defArgs s_added_by_entries) (defBody s_added_by_entries) (defScope s_added_by_entries) .none kV2 dc2 pm2 an2 cd2 ct2), sl2⟩) (c2 : PySem.W.codeIn K cd2 "added_by_entries" = true) (k2 : PySem.W.keepIn K (.ref f2) = true)
    (a3 : PySem.W.nsIn K mainGlobals "sets_below" = some (some (.ref f3))) (l3 : K.lookup f3 = some ⟨oc3, od3, .func (PySem.W.fnOf "sets_below" "sets_below" (defArgs s_sets_below) (defBody s_sets_below) (defScope s_sets_below) .none kV3 dc3 pm3 an3 cd3 ct3), sl3⟩) (c3 : PySem.W.codeIn K cd3 "sets_below" = true) (k3 : PySem.W.keepIn K (.ref f3) = true)
    (a4 : PySem.W.nsIn K mainGlobals "sets_above" = some (some (.ref f4))) (l4 : K.lookup f4 = some ⟨oc4, od4, .func (PySem.W.fnOf "sets_above" "sets_above" (defArgs s_sets_above) (defBody s_sets_above) (defScope s_sets_above) .none kV4 dc4 pm4 an4 cd4 ct4), sl4⟩) (c4 : PySem.W.codeIn K cd4 "sets_above" = true) (k4 : PySem.W.keepIn K (.ref f4) = true)
    (a5 : PySem.W.nsIn K mainGlobals "spread" = some (some (.ref f5))) (l5 : K.lookup f5 = some ⟨oc5, od5, .func (PySem.W.fnOf "spread" "spread" (defArgs s_spread) (defBody s_spread) (defScope s_spread) .none kV5 dc5 pm5 an5 cd5 ct5), sl5⟩) (c5 : PySem.W.codeIn K cd5 "spread" = true) (k5 : PySem.W.keepIn K (.ref f5) = true)
    (a6 : PySem.W.nsIn K mainGlobals "sums" = some (some (.ref f6))) (l6 : K.lookup f6 = some ⟨oc6, od6, .func (PySem.W.fnOf "sums" "sums" (defArgs s_sums) (defBody s_sums) (defScope s_sums) .none kV6 dc6 pm6 an6 cd6 ct6), sl6⟩) (c6 : PySem.W.codeIn K cd6 "sums" = true) (k6 : PySem.W.keepIn K (.ref f6) = true)
    (a7 : PySem.W.findIn K (.ref C_Diagrams) "__init__" = some (some (.ref f7))) (i7 : PySem.W.isFn K (.ref f7) = true) (l7 : K.lookup f7 = some ⟨oc7, od7, .func (PySem.W.fnOf "__init__" "Diagrams.__init__" (defArgs s_Diagrams___init__) (defBody s_Diagrams___init__) (defScope s_Diagrams___init__) .none kV7 dc7 pm7 an7 cd7 ct7), sl7⟩) (c7 : PySem.W.codeIn K cd7 "Diagrams.__init__" = true) (k7 : PySem.W.keepIn K (.ref f7) = true)
    (a8 : PySem.W.findIn K (.ref C_Diagrams) "there" = some (some (.ref f8))) (i8 : PySem.W.isFn K (.ref f8) = true) (l8 : K.lookup f8 = some ⟨oc8, od8, .func (PySem.W.fnOf "there" "Diagrams.there" (defArgs s_Diagrams_there) (defBody s_Diagrams_there) (defScope s_Diagrams_there) .none kV8 dc8 pm8 an8 cd8 ct8), sl8⟩) (c8 : PySem.W.codeIn K cd8 "Diagrams.there" = true) (k8 : PySem.W.keepIn K (.ref f8) = true)
    (a9 : PySem.W.findIn K (.ref C_Diagrams) "conjunction" = some (some (.ref f9))) (i9 : PySem.W.isFn K (.ref f9) = true) (l9 : K.lookup f9 = some ⟨oc9, od9, .func (PySem.W.fnOf "conjunction" "Diagrams.conjunction" (defArgs s_Diagrams_conjunction) (defBody s_Diagrams_conjunction) (defScope s_Diagrams_conjunction) .none kV9 dc9 pm9 an9 cd9 ct9), sl9⟩) (c9 : PySem.W.codeIn K cd9 "Diagrams.conjunction" = true) (k9 : PySem.W.keepIn K (.ref f9) = true)
    (a10 : PySem.W.findIn K (.ref C_Diagrams) "disjunction" = some (some (.ref f10))) (i10 : PySem.W.isFn K (.ref f10) = true) (l10 : K.lookup f10 = some ⟨oc10, od10, .func (PySem.W.fnOf "disjunction" "Diagrams.disjunction" (defArgs s_Diagrams_disjunction) (defBody s_Diagrams_disjunction) (defScope s_Diagrams_disjunction) .none kV10 dc10 pm10 an10 cd10 ct10), sl10⟩) (c10 : PySem.W.codeIn K cd10 "Diagrams.disjunction" = true) (k10 : PySem.W.keepIn K (.ref f10) = true)
    (a11 : PySem.W.findIn K (.ref C_Diagrams) "negation" = some (some (.ref f11))) (i11 : PySem.W.isFn K (.ref f11) = true) (l11 : K.lookup f11 = some ⟨oc11, od11, .func (PySem.W.fnOf "negation" "Diagrams.negation" (defArgs s_Diagrams_negation) (defBody s_Diagrams_negation) (defScope s_Diagrams_negation) .none kV11 dc11 pm11 an11 cd11 ct11), sl11⟩) (c11 : PySem.W.codeIn K cd11 "Diagrams.negation" = true) (k11 : PySem.W.keepIn K (.ref f11) = true)
    (a12 : PySem.W.findIn K (.ref C_Diagrams) "differs" = some (some (.ref f12))) (i12 : PySem.W.isFn K (.ref f12) = true) (l12 : K.lookup f12 = some ⟨oc12, od12, .func (PySem.W.fnOf "differs" "Diagrams.differs" (defArgs s_Diagrams_differs) (defBody s_Diagrams_differs) (defScope s_Diagrams_differs) .none kV12 dc12 pm12 an12 cd12 ct12), sl12⟩) (c12 : PySem.W.codeIn K cd12 "Diagrams.differs" = true) (k12 : PySem.W.keepIn K (.ref f12) = true)
    (a13 : PySem.W.findIn K (.ref C_Diagrams) "restrict" = some (some (.ref f13))) (i13 : PySem.W.isFn K (.ref f13) = true) (l13 : K.lookup f13 = some ⟨oc13, od13, .func (PySem.W.fnOf "restrict" "Diagrams.restrict" (defArgs s_Diagrams_restrict) (defBody s_Diagrams_restrict) (defScope s_Diagrams_restrict) .none kV13 dc13 pm13 an13 cd13 ct13), sl13⟩) (c13 : PySem.W.codeIn K cd13 "Diagrams.restrict" = true) (k13 : PySem.W.keepIn K (.ref f13) = true)
    (a14 : PySem.W.findIn K (.ref C_Diagrams) "depends" = some (some (.ref f14))) (i14 : PySem.W.isFn K (.ref f14) = true) (l14 : K.lookup f14 = some ⟨oc14, od14, .func (PySem.W.fnOf "depends" "Diagrams.depends" (defArgs s_Diagrams_depends) (defBody s_Diagrams_depends) (defScope s_Diagrams_depends) .none kV14 dc14 pm14 an14 cd14 ct14), sl14⟩) (c14 : PySem.W.codeIn K cd14 "Diagrams.depends" = true) (k14 : PySem.W.keepIn K (.ref f14) = true)
    (a15 : PySem.W.findIn K (.ref C_Diagrams) "table" = some (some (.ref f15))) (i15 : PySem.W.isFn K (.ref f15) = true) (l15 : K.lookup f15 = some ⟨oc15, od15, .func (PySem.W.fnOf "table" "Diagrams.table" (defArgs s_Diagrams_table) (defBody s_Diagrams_table) (defScope s_Diagrams_table) .none kV15 dc15 pm15 an15 cd15 ct15), sl15⟩) (c15 : PySem.W.codeIn K cd15 "Diagrams.table" = true) (k15 : PySem.W.keepIn K (.ref f15) = true)
    (a16 : PySem.W.findIn K (.ref C_Diagrams) "listed" = some (some (.ref f16))) (i16 : PySem.W.isFn K (.ref f16) = true) (l16 : K.lookup f16 = some ⟨oc16, od16, .func (PySem.W.fnOf "listed" "Diagrams.listed" (defArgs s_Diagrams_listed) (defBody s_Diagrams_listed) (defScope s_Diagrams_listed) .none kV16 dc16 pm16 an16 cd16 ct16), sl16⟩) (c16 : PySem.W.codeIn K cd16 "Diagrams.listed" = true) (k16 : PySem.W.keepIn K (.ref f16) = true)
    (a17 : PySem.W.findIn K (.ref C_Diagrams) "top" = some (some (.ref f17))) (i17 : PySem.W.isFn K (.ref f17) = true) (l17 : K.lookup f17 = some ⟨oc17, od17, .func (PySem.W.fnOf "top" "Diagrams.top" (defArgs s_Diagrams_top) (defBody s_Diagrams_top) (defScope s_Diagrams_top) .none kV17 dc17 pm17 an17 cd17 ct17), sl17⟩) (c17 : PySem.W.codeIn K cd17 "Diagrams.top" = true) (k17 : PySem.W.keepIn K (.ref f17) = true)
    (a18 : PySem.W.findIn K (.ref C_Diagrams) "branches" = some (some (.ref f18))) (i18 : PySem.W.isFn K (.ref f18) = true) (l18 : K.lookup f18 = some ⟨oc18, od18, .func (PySem.W.fnOf "branches" "Diagrams.branches" (defArgs s_Diagrams_branches) (defBody s_Diagrams_branches) (defScope s_Diagrams_branches) .none kV18 dc18 pm18 an18 cd18 ct18), sl18⟩) (c18 : PySem.W.codeIn K cd18 "Diagrams.branches" = true) (k18 : PySem.W.keepIn K (.ref f18) = true)
    (a19 : PySem.W.findIn K (.ref C_Diagrams) "node_of" = some (some (.ref f19))) (i19 : PySem.W.isFn K (.ref f19) = true) (l19 : K.lookup f19 = some ⟨oc19, od19, .func (PySem.W.fnOf "node_of" "Diagrams.node_of" (defArgs s_Diagrams_node_of) (defBody s_Diagrams_node_of) (defScope s_Diagrams_node_of) .none kV19 dc19 pm19 an19 cd19 ct19), sl19⟩) (c19 : PySem.W.codeIn K cd19 "Diagrams.node_of" = true) (k19 : PySem.W.keepIn K (.ref f19) = true)
    (a20 : PySem.W.findIn K (.ref C_Diagrams) "node" = some (some (.ref f20))) (i20 : PySem.W.isFn K (.ref f20) = true) (l20 : K.lookup f20 = some ⟨oc20, od20, .func (PySem.W.fnOf "node" "Diagrams.node" (defArgs s_Diagrams_node) (defBody s_Diagrams_node) (defScope s_Diagrams_node) .none kV20 dc20 pm20 an20 cd20 ct20), sl20⟩) (c20 : PySem.W.codeIn K cd20 "Diagrams.node" = true) (k20 : PySem.W.keepIn K (.ref f20) = true)
    (a21 : PySem.W.findIn K (.ref C_Diagrams) "combine" = some (some (.ref f21))) (i21 : PySem.W.isFn K (.ref f21) = true) (l21 : K.lookup f21 = some ⟨oc21, od21, .func (PySem.W.fnOf "combine" "Diagrams.combine" (defArgs s_Diagrams_combine) (defBody s_Diagrams_combine) (defScope s_Diagrams_combine) .none kV21 dc21 pm21 an21 cd21 ct21), sl21⟩) (c21 : PySem.W.codeIn K cd21 "Diagrams.combine" = true) (k21 : PySem.W.keepIn K (.ref f21) = true)
    (a22 : PySem.W.nsIn K mainGlobals "_law_draw" = some (some (.ref f22))) (l22 : K.lookup f22 = some ⟨oc22, od22, .func (PySem.W.fnOf "_law_draw" "_law_draw" (defArgs s__law_draw) (defBody s__law_draw) (defScope s__law_draw) .none kV22 dc22 pm22 an22 cd22 ct22), sl22⟩) (c22 : PySem.W.codeIn K cd22 "_law_draw" = true) (k22 : PySem.W.keepIn K (.ref f22) = true)
    (a23 : PySem.W.nsIn K mainGlobals "_law_next" = some (some (.ref f23))) (l23 : K.lookup f23 = some ⟨oc23, od23, .func (PySem.W.fnOf "_law_next" "_law_next" (defArgs s__law_next) (defBody s__law_next) (defScope s__law_next) .none kV23 dc23 pm23 an23 cd23 ct23), sl23⟩) (c23 : PySem.W.codeIn K cd23 "_law_next" = true) (k23 : PySem.W.keepIn K (.ref f23) = true)
    (a24 : PySem.W.nsIn K mainGlobals "_law_entries" = some (some (.ref f24))) (l24 : K.lookup f24 = some ⟨oc24, od24, .func (PySem.W.fnOf "_law_entries" "_law_entries" (defArgs s__law_entries) (defBody s__law_entries) (defScope s__law_entries) .none kV24 dc24 pm24 an24 cd24 ct24), sl24⟩) (c24 : PySem.W.codeIn K cd24 "_law_entries" = true) (k24 : PySem.W.keepIn K (.ref f24) = true)
    (a25 : PySem.W.nsIn K mainGlobals "_law_tree" = some (some (.ref f25))) (l25 : K.lookup f25 = some ⟨oc25, od25, .func (PySem.W.fnOf "_law_tree" "_law_tree" (defArgs s__law_tree) (defBody s__law_tree) (defScope s__law_tree) .none kV25 dc25 pm25 an25 cd25 ct25), sl25⟩) (c25 : PySem.W.codeIn K cd25 "_law_tree" = true) (k25 : PySem.W.keepIn K (.ref f25) = true)
    (a26 : PySem.W.nsIn K mainGlobals "_law_build" = some (some (.ref f26))) (l26 : K.lookup f26 = some ⟨oc26, od26, .func (PySem.W.fnOf "_law_build" "_law_build" (defArgs s__law_build) (defBody s__law_build) (defScope s__law_build) .none kV26 dc26 pm26 an26 cd26 ct26), sl26⟩) (c26 : PySem.W.codeIn K cd26 "_law_build" = true) (k26 : PySem.W.keepIn K (.ref f26) = true)
    (a27 : PySem.W.nsIn K mainGlobals "_law_true" = some (some (.ref f27))) (l27 : K.lookup f27 = some ⟨oc27, od27, .func (PySem.W.fnOf "_law_true" "_law_true" (defArgs s__law_true) (defBody s__law_true) (defScope s__law_true) .none kV27 dc27 pm27 an27 cd27 ct27), sl27⟩) (c27 : PySem.W.codeIn K cd27 "_law_true" = true) (k27 : PySem.W.keepIn K (.ref f27) = true)
    (a28 : PySem.W.nsIn K mainGlobals "_law_common" = some (some (.ref f28))) (l28 : K.lookup f28 = some ⟨oc28, od28, .func (PySem.W.fnOf "_law_common" "_law_common" (defArgs s__law_common) (defBody s__law_common) (defScope s__law_common) .none kV28 dc28 pm28 an28 cd28 ct28), sl28⟩) (c28 : PySem.W.codeIn K cd28 "_law_common" = true) (k28 : PySem.W.keepIn K (.ref f28) = true)
    (a29 : PySem.W.nsIn K mainGlobals "law" = some (some (.ref f29))) (l29 : K.lookup f29 = some ⟨oc29, od29, .func (PySem.W.fnOf "law" "law" (defArgs s_law) (defBody s_law) (defScope s_law) .none kV29 dc29 pm29 an29 cd29 ct29), sl29⟩) (c29 : PySem.W.codeIn K cd29 "law" = true) (k29 : PySem.W.keepIn K (.ref f29) = true)
    {tk_NEVER : Tok} (w_NEVER : PySem.W.nsIn K mainGlobals "NEVER" = some (some (.int 0 tk_NEVER))) {tk_ALWAYS : Tok} (w_ALWAYS : PySem.W.nsIn K mainGlobals "ALWAYS" = some (some (.int 1 tk_ALWAYS))) {tk_FIRST_NODE : Tok} (w_FIRST_NODE : PySem.W.nsIn K mainGlobals "FIRST_NODE" = some (some (.int 2 tk_FIRST_NODE))) (aC_Diagrams : PySem.W.nsIn K mainGlobals "Diagrams" = some (some (.ref C_Diagrams))) (pg_Diagrams : PySem.W.plainGet K C_Diagrams Str.empty = true) (hd_Diagrams : PySem.W.hasDictIn K C_Diagrams = true) (po_Diagrams : PySem.W.plainOver K C_Diagrams = true) (sa_Diagrams : PySem.W.findIn K (.ref C_Diagrams) "__setattr__" = some (some (.builtin "object.__setattr__"))) (mk_Diagrams : PySem.W.makesIn K C_Diagrams = true) (kc_Diagrams : PySem.W.keepIn K (.ref C_Diagrams) = true) (nf_Diagrams_combined : PySem.W.findIn K (.ref C_Diagrams) "combined" = some none) (nf_Diagrams_kept : PySem.W.findIn K (.ref C_Diagrams) "kept" = some none) (nf_Diagrams_numbers : PySem.W.findIn K (.ref C_Diagrams) "numbers" = some none) (bf_factorial : PySem.W.nsIn K mainGlobals "factorial" = some (some (.builtin "math.factorial"))) (bf_gcd : PySem.W.nsIn K mainGlobals "gcd" = some (some (.builtin "math.gcd"))) (z_abs : PySem.W.nsIn K mainGlobals "abs" = some none) (z_enumerate : PySem.W.nsIn K mainGlobals "enumerate" = some none) (z_int : PySem.W.nsIn K mainGlobals "int" = some none) (z_len : PySem.W.nsIn K mainGlobals "len" = some none) (z_list : PySem.W.nsIn K mainGlobals "list" = some none) (z_min : PySem.W.nsIn K mainGlobals "min" = some none) (z_range : PySem.W.nsIn K mainGlobals "range" = some none) (z_reversed : PySem.W.nsIn K mainGlobals "reversed" = some none) (z_sorted : PySem.W.nsIn K mainGlobals "sorted" = some none) (z_sum : PySem.W.nsIn K mainGlobals "sum" = some none) (z_zip : PySem.W.nsIn K mainGlobals "zip" = some none) :
    ∃ fd : FuncData, (∀ (s : Shared) (v : Value), BindsTo s fd ⟨[v], []⟩ [("script", v)]) ∧ ∀ base : Heap, K.In base → base.Ns mainGlobals mg → FnOk l.prog w K mg base CX0 23 fa fd ["script"] (sp_law K) := by
  have e := hfa.symm.trans (PySem.W.mg_of X G a29)
  cases e
  have F_lowest_terms := fun_mk (st := s_lowest_terms) l0 c0 k0
  have b_lowest_terms := F_lowest_terms.binds (ps := ["numerator", "denominator"]) fun _ _ _ _ _ _ us hl => match us, hl with | [_, _], _ => rfl
  have g_lowest_terms := PySem.W.mg_of X G a0
  have F_shares := fun_mk (st := s_shares) l1 c1 k1
  have b_shares := F_shares.binds (ps := ["store", "condition", "present"]) fun _ _ _ _ _ _ us hl => match us, hl with | [_, _, _], _ => rfl
  have g_shares := PySem.W.mg_of X G a1
  have F_added_by_entries := fun_mk (st := s_added_by_entries) l2 c2 k2
  have b_added_by_entries := F_added_by_entries.binds (ps := ["store", "condition", "entries"]) fun _ _ _ _ _ _ us hl => match us, hl with | [_, _, _], _ => rfl
  have g_added_by_entries := PySem.W.mg_of X G a2
  have F_sets_below := fun_mk (st := s_sets_below) l3 c3 k3
  have b_sets_below := F_sets_below.binds (ps := ["nodes", "starts"]) fun _ _ _ _ _ _ us hl => match us, hl with | [_, _], _ => rfl
  have g_sets_below := PySem.W.mg_of X G a3
  have F_sets_above := fun_mk (st := s_sets_above) l4 c4 k4
  have b_sets_above := F_sets_above.binds (ps := ["nodes", "starts", "root"]) fun _ _ _ _ _ _ us hl => match us, hl with | [_, _, _], _ => rfl
  have g_sets_above := PySem.W.mg_of X G a4
  have F_spread := fun_mk (st := s_spread) l5 c5 k5
  have b_spread := F_spread.binds (ps := ["counts", "free"]) fun _ _ _ _ _ _ us hl => match us, hl with | [_, _], _ => rfl
  have g_spread := PySem.W.mg_of X G a5
  have F_sums := fun_mk (st := s_sums) l6 c6 k6
  have b_sums := F_sums.binds (ps := ["first", "second"]) fun _ _ _ _ _ _ us hl => match us, hl with | [_, _], _ => rfl
  have g_sums := PySem.W.mg_of X G a6
  have F_Diagrams___init__ := fun_mk (st := s_Diagrams___init__) l7 c7 k7
  have b_Diagrams___init__ := F_Diagrams___init__.binds (ps := ["self"]) fun _ _ _ _ _ _ us hl => match us, hl with | [_], _ => rfl
  have mk0_Diagrams : Mk K C_Diagrams f7 := ⟨mk_Diagrams, a7, i7, kc_Diagrams⟩
  have F_Diagrams_there := fun_mk (st := s_Diagrams_there) l8 c8 k8
  have b_Diagrams_there := F_Diagrams_there.binds (ps := ["self", "entry"]) fun _ _ _ _ _ _ us hl => match us, hl with | [_, _], _ => rfl
  have m_Diagrams_there : Meth K C_Diagrams "there" f8 := ⟨a8, i8, k8⟩
  have F_Diagrams_conjunction := fun_mk (st := s_Diagrams_conjunction) l9 c9 k9
  have b_Diagrams_conjunction := F_Diagrams_conjunction.binds (ps := ["self", "first", "second"]) fun _ _ _ _ _ _ us hl => match us, hl with | [_, _, _], _ => rfl
  have m_Diagrams_conjunction : Meth K C_Diagrams "conjunction" f9 := ⟨a9, i9, k9⟩
  have F_Diagrams_disjunction := fun_mk (st := s_Diagrams_disjunction) l10 c10 k10
  have b_Diagrams_disjunction := F_Diagrams_disjunction.binds (ps := ["self", "first", "second"]) fun _ _ _ _ _ _ us hl => match us, hl with | [_, _, _], _ => rfl
  have m_Diagrams_disjunction : Meth K C_Diagrams "disjunction" f10 := ⟨a10, i10, k10⟩
  have F_Diagrams_negation := fun_mk (st := s_Diagrams_negation) l11 c11 k11
  have b_Diagrams_negation := F_Diagrams_negation.binds (ps := ["self", "condition"]) fun _ _ _ _ _ _ us hl => match us, hl with | [_, _], _ => rfl
  have m_Diagrams_negation : Meth K C_Diagrams "negation" f11 := ⟨a11, i11, k11⟩
  have F_Diagrams_differs := fun_mk (st := s_Diagrams_differs) l12 c12 k12
  have b_Diagrams_differs := F_Diagrams_differs.binds (ps := ["self", "first", "second"]) fun _ _ _ _ _ _ us hl => match us, hl with | [_, _, _], _ => rfl
  have m_Diagrams_differs : Meth K C_Diagrams "differs" f12 := ⟨a12, i12, k12⟩
  have F_Diagrams_restrict := fun_mk (st := s_Diagrams_restrict) l13 c13 k13
  have b_Diagrams_restrict := F_Diagrams_restrict.binds (ps := ["self", "condition", "entry", "is_there"]) fun _ _ _ _ _ _ us hl => match us, hl with | [_, _, _, _], _ => rfl
  have m_Diagrams_restrict : Meth K C_Diagrams "restrict" f13 := ⟨a13, i13, k13⟩
  have F_Diagrams_depends := fun_mk (st := s_Diagrams_depends) l14 c14 k14
  have b_Diagrams_depends := F_Diagrams_depends.binds (ps := ["self", "condition"]) fun _ _ _ _ _ _ us hl => match us, hl with | [_, _], _ => rfl
  have m_Diagrams_depends : Meth K C_Diagrams "depends" f14 := ⟨a14, i14, k14⟩
  have F_Diagrams_table := fun_mk (st := s_Diagrams_table) l15 c15 k15
  have b_Diagrams_table := F_Diagrams_table.binds (ps := ["self", "condition"]) fun _ _ _ _ _ _ us hl => match us, hl with | [_, _], _ => rfl
  have m_Diagrams_table : Meth K C_Diagrams "table" f15 := ⟨a15, i15, k15⟩
  have F_Diagrams_listed := fun_mk (st := s_Diagrams_listed) l16 c16 k16
  have b_Diagrams_listed := F_Diagrams_listed.binds (ps := ["self", "conditions"]) fun _ _ _ _ _ _ us hl => match us, hl with | [_, _], _ => rfl
  have m_Diagrams_listed : Meth K C_Diagrams "listed" f16 := ⟨a16, i16, k16⟩
  have F_Diagrams_top := fun_mk (st := s_Diagrams_top) l17 c17 k17
  have b_Diagrams_top := F_Diagrams_top.binds (ps := ["self", "conditions"]) fun _ _ _ _ _ _ us hl => match us, hl with | [_, _], _ => rfl
  have m_Diagrams_top : Meth K C_Diagrams "top" f17 := ⟨a17, i17, k17⟩
  have F_Diagrams_branches := fun_mk (st := s_Diagrams_branches) l18 c18 k18
  have b_Diagrams_branches := F_Diagrams_branches.binds (ps := ["self", "condition", "entry"]) fun _ _ _ _ _ _ us hl => match us, hl with | [_, _, _], _ => rfl
  have m_Diagrams_branches : Meth K C_Diagrams "branches" f18 := ⟨a18, i18, k18⟩
  have F_Diagrams_node_of := fun_mk (st := s_Diagrams_node_of) l19 c19 k19
  have b_Diagrams_node_of := F_Diagrams_node_of.binds (ps := ["self", "condition"]) fun _ _ _ _ _ _ us hl => match us, hl with | [_, _], _ => rfl
  have m_Diagrams_node_of : Meth K C_Diagrams "node_of" f19 := ⟨a19, i19, k19⟩
  have F_Diagrams_node := fun_mk (st := s_Diagrams_node) l20 c20 k20
  have b_Diagrams_node := F_Diagrams_node.binds (ps := ["self", "entry", "without", "there"]) fun _ _ _ _ _ _ us hl => match us, hl with | [_, _, _, _], _ => rfl
  have m_Diagrams_node : Meth K C_Diagrams "node" f20 := ⟨a20, i20, k20⟩
  have F_Diagrams_combine := fun_mk (st := s_Diagrams_combine) l21 c21 k21
  have b_Diagrams_combine := F_Diagrams_combine.binds (ps := ["self", "condition", "first", "second"]) fun _ _ _ _ _ _ us hl => match us, hl with | [_, _, _, _], _ => rfl
  have m_Diagrams_combine : Meth K C_Diagrams "combine" f21 := ⟨a21, i21, k21⟩
  have F__law_draw := fun_mk (st := s__law_draw) l22 c22 k22
  have b__law_draw := F__law_draw.binds (ps := ["script"]) fun _ _ _ _ _ _ us hl => match us, hl with | [_], _ => rfl
  have g__law_draw := PySem.W.mg_of X G a22
  have F__law_next := fun_mk (st := s__law_next) l23 c23 k23
  have b__law_next := F__law_next.binds (ps := ["draw", "many"]) fun _ _ _ _ _ _ us hl => match us, hl with | [_, _], _ => rfl
  have g__law_next := PySem.W.mg_of X G a23
  have F__law_entries := fun_mk (st := s__law_entries) l24 c24 k24
  have b__law_entries := F__law_entries.binds (ps := ["draw", "most"]) fun _ _ _ _ _ _ us hl => match us, hl with | [_, _], _ => rfl
  have g__law_entries := PySem.W.mg_of X G a24
  have F__law_tree := fun_mk (st := s__law_tree) l25 c25 k25
  have b__law_tree := F__law_tree.binds (ps := ["draw", "entries", "depth"]) fun _ _ _ _ _ _ us hl => match us, hl with | [_, _, _], _ => rfl
  have g__law_tree := PySem.W.mg_of X G a25
  have F__law_build := fun_mk (st := s__law_build) l26 c26 k26
  have b__law_build := F__law_build.binds (ps := ["store", "tree"]) fun _ _ _ _ _ _ us hl => match us, hl with | [_, _], _ => rfl
  have g__law_build := PySem.W.mg_of X G a26
  have F__law_true := fun_mk (st := s__law_true) l27 c27 k27
  have b__law_true := F__law_true.binds (ps := ["tree", "present"]) fun _ _ _ _ _ _ us hl => match us, hl with | [_, _], _ => rfl
  have g__law_true := PySem.W.mg_of X G a27
  have F__law_common := fun_mk (st := s__law_common) l28 c28 k28
  have b__law_common := F__law_common.binds (ps := ["first", "second"]) fun _ _ _ _ _ _ us hl => match us, hl with | [_, _], _ => rfl
  have g__law_common := PySem.W.mg_of X G a28
  have F_law := fun_mk (st := s_law) l29 c29 k29
  have h_factorial := PySem.W.mg_of X G bf_factorial
  have h_gcd := PySem.W.mg_of X G bf_gcd
  have cl_Diagrams : Cls K C_Diagrams := ⟨pg_Diagrams, hd_Diagrams, po_Diagrams, sa_Diagrams⟩
  have g_Diagrams := PySem.W.mg_of X G aC_Diagrams
  have M : Mg mg := ⟨PySem.W.mg_none_of X G z_abs, PySem.W.mg_none_of X G z_enumerate, PySem.W.mg_none_of X G z_int, PySem.W.mg_none_of X G z_len, PySem.W.mg_none_of X G z_list, PySem.W.mg_none_of X G z_min, PySem.W.mg_none_of X G z_range, PySem.W.mg_none_of X G z_reversed, PySem.W.mg_none_of X G z_sorted, PySem.W.mg_none_of X G z_sum, PySem.W.mg_none_of X G z_zip⟩
  exact ⟨PySem.W.fnOf "law" "law" (defArgs s_law) (defBody s_law) (defScope s_law) .none kV29 dc29 pm29 an29 cd29 ct29, fun s v => .of_eq rfl, fun base _ _ => by
  have GD : DgC K C_Diagrams mg := ⟨cl_Diagrams, nf_Diagrams_kept, nf_Diagrams_numbers, nf_Diagrams_combined, ⟨_, PySem.W.mg_of X G w_NEVER, _, rfl⟩, ⟨_, PySem.W.mg_of X G w_ALWAYS, _, rfl⟩, ⟨_, PySem.W.mg_of X G w_FIRST_NODE, _, rfl⟩⟩
  have NOF := FnOk.clm (P := l.prog) (w := w) (base := base) (ok_nof F_Diagrams_node_of M GD) m_Diagrams_node_of cl_Diagrams b_Diagrams_node_of
  have NDE := FnOk.clm (P := l.prog) (w := w) (base := base) (ok_node F_Diagrams_node M GD) m_Diagrams_node cl_Diagrams b_Diagrams_node
  have TOP := FnOk.clm (ok_top F_Diagrams_top M GD NOF) m_Diagrams_top cl_Diagrams b_Diagrams_top
  have BRA := FnOk.clm (ok_bra F_Diagrams_branches M GD NOF) m_Diagrams_branches cl_Diagrams b_Diagrams_branches
  have CMB := cl_comb F_Diagrams_combine M GD m_Diagrams_combine b_Diagrams_combine NDE TOP BRA 9
  have THE := FnOk.clm (ok_there F_Diagrams_there M GD NDE) m_Diagrams_there cl_Diagrams b_Diagrams_there
  have CON := FnOk.clm (ok_conj F_Diagrams_conjunction M GD CMB) m_Diagrams_conjunction cl_Diagrams b_Diagrams_conjunction
  have DIS := FnOk.clm (ok_disj F_Diagrams_disjunction M GD CMB) m_Diagrams_disjunction cl_Diagrams b_Diagrams_disjunction
  have NEG := FnOk.clm (ok_neg F_Diagrams_negation M GD CMB) m_Diagrams_negation cl_Diagrams b_Diagrams_negation
  have DIF := FnOk.clm (ok_diff F_Diagrams_differs M GD CMB NEG) m_Diagrams_differs cl_Diagrams b_Diagrams_differs
  have DIN : ClC l.prog w K mg base 1 "Diagrams" C_Diagrams (sp_dinit C_Diagrams K) := ⟨_, _, _, ok_dinit F_Diagrams___init__ GD, mk0_Diagrams, g_Diagrams, b_Diagrams___init__⟩
  have N := FnOk.cl (P := l.prog) (w := w) (base := base) (ok_next F__law_next M) F__law_next g__law_next b__law_next
  have DR := FnOk.cl (P := l.prog) (w := w) (base := base) (ok_draw F__law_draw M) F__law_draw g__law_draw b__law_draw
  have LTR := cl_ltr F__law_tree M g__law_tree b__law_tree N
  have LBU := cl_build 9 F__law_build M g__law_build b__law_build THE CON DIS NEG DIF
  have LTU := cl_true (P := l.prog) (w := w) (base := base) F__law_true M g__law_true b__law_true

  have LIS := FnOk.clm (ok_listed F_Diagrams_listed M GD NOF) m_Diagrams_listed cl_Diagrams b_Diagrams_listed
  have TAB := FnOk.clm (ok_table F_Diagrams_table M GD LIS) m_Diagrams_table cl_Diagrams b_Diagrams_table
  have RST := FnOk.clm (ok_rstr F_Diagrams_restrict M GD TAB NDE) m_Diagrams_restrict cl_Diagrams b_Diagrams_restrict
  have DEP := FnOk.clm (ok_dep F_Diagrams_depends M GD TAB) m_Diagrams_depends cl_Diagrams b_Diagrams_depends
  have SMS := FnOk.cl (P := l.prog) (w := w) (base := base) (ok_sums F_sums M) F_sums g_sums b_sums
  have SPR := FnOk.cl (ok_spread F_spread M SMS) F_spread g_spread b_spread
  have BEL := FnOk.cl (ok_below F_sets_below M SMS SPR) F_sets_below g_sets_below b_sets_below
  have ABV := FnOk.cl (ok_above F_sets_above M SMS SPR) F_sets_above g_sets_above b_sets_above
  have ADD := FnOk.cl (ok_added F_added_by_entries M TAB h_factorial SPR BEL ABV) F_added_by_entries g_added_by_entries b_added_by_entries
  have LOW := FnOk.cl (P := l.prog) (w := w) (base := base) (ok_lowZ F_lowest_terms M h_gcd) F_lowest_terms g_lowest_terms b_lowest_terms
  have SHR := FnOk.cl (ok_shr F_shares M h_factorial DEP RST ADD LOW) F_shares g_shares b_shares
  have LEN := FnOk.cl (ok_ents 8 F__law_entries M N) F__law_entries g__law_entries b__law_entries
  have LCM := FnOk.cl (P := l.prog) (w := w) (base := base) (ok_com F__law_common M) F__law_common g__law_common b__law_common
  exact ok_law F_law M DR N LEN (LTR 6) DIN (LBU 9) (LTU 8) LCM SHR⟩
end Lw
open PySem PySem.W PyProof.Rows
set_option maxHeartbeats 0 in
theorem PySem.Challenge.cw_lineworks_k74_shares_add_up_holds : PySem.Challenge.rw_lineworks_k74_shares_add_up.Holds := by
  w_on; o_law; k_head; (case hw => w_witness2)
  k_fill
  refine L2.walk_of (l := PySem.Challenge.rw_lineworks_k74_shares_add_up) (n := 63) (k := 23) (x := "script") (CX := fun _ => L2.CX0) (sp := fun w => Lw.sp_law _) rfl (by decide) rfl ⟨rfl, by decide, by decide⟩ (fun w h Y => PySem.W.kIn_of Y) ?F (fun _ _ a ns hl _ hS => ⟨a, ns, rfl, hS, hl, fun _ => rfl⟩) (fun _ _ _ _ _ h => h)
  case F =>
    intro w mg fa h KX G hmg
    refine' Lw.all_mk KX G hmg ?a0 ?l0 ?c0 ?k0 ?a1 ?l1 ?c1 ?k1 ?a2 ?l2 ?c2 ?k2 ?a3 ?l3 ?c3 ?k3 ?a4 ?l4 ?c4 ?k4 ?a5 ?l5 ?c5 ?k5 ?a6 ?l6 ?c6 ?k6 ?a7 ?i7 ?l7 ?c7 ?k7 ?a8 ?i8 ?l8 ?c8 ?k8 ?a9 ?i9 ?l9 ?c9 ?k9 ?a10 ?i10 ?l10 ?c10 ?k10 ?a11 ?i11 ?l11 ?c11 ?k11 ?a12 ?i12 ?l12 ?c12 ?k12 ?a13 ?i13 ?l13 ?c13 ?k13 ?a14 ?i14 ?l14 ?c14 ?k14 ?a15 ?i15 ?l15 ?c15 ?k15 ?a16 ?i16 ?l16 ?c16 ?k16 ?a17 ?i17 ?l17 ?c17 ?k17 ?a18 ?i18 ?l18 ?c18 ?k18 ?a19 ?i19 ?l19 ?c19 ?k19 ?a20 ?i20 ?l20 ?c20 ?k20 ?a21 ?i21 ?l21 ?c21 ?k21 ?a22 ?l22 ?c22 ?k22 ?a23 ?l23 ?c23 ?k23 ?a24 ?l24 ?c24 ?k24 ?a25 ?l25 ?c25 ?k25 ?a26 ?l26 ?c26 ?k26 ?a27 ?l27 ?c27 ?k27 ?a28 ?l28 ?c28 ?k28 ?a29 ?l29 ?c29 ?k29 ?w_NEVER ?w_ALWAYS ?w_FIRST_NODE ?aC_Diagrams ?pg_Diagrams ?hd_Diagrams ?po_Diagrams ?sa_Diagrams ?mk_Diagrams ?kc_Diagrams ?nf_Diagrams_combined ?nf_Diagrams_kept ?nf_Diagrams_numbers ?bf_factorial ?bf_gcd ?z_abs ?z_enumerate ?z_int ?z_len ?z_list ?z_min ?z_range ?z_reversed ?z_sorted ?z_sum ?z_zip
    (case aC_Diagrams => k_is)
    (case pg_Diagrams => k_is)
    (case hd_Diagrams => k_is)
    (case po_Diagrams => k_is)
    (case sa_Diagrams => k_is)
    (case mk_Diagrams => k_is)
    (case kc_Diagrams => k_is)
    (case nf_Diagrams_combined => k_is)
    (case nf_Diagrams_kept => k_is)
    (case nf_Diagrams_numbers => k_is)
    (case a0 => k_is); (case l0 => k_is); (case c0 => k_is); (case k0 => k_is)
    (case a1 => k_is); (case l1 => k_is); (case c1 => k_is); (case k1 => k_is)
    (case a2 => k_is); (case l2 => k_is); (case c2 => k_is); (case k2 => k_is)
    (case a3 => k_is); (case l3 => k_is); (case c3 => k_is); (case k3 => k_is)
    (case a4 => k_is); (case l4 => k_is); (case c4 => k_is); (case k4 => k_is)
    (case a5 => k_is); (case l5 => k_is); (case c5 => k_is); (case k5 => k_is)
    (case a6 => k_is); (case l6 => k_is); (case c6 => k_is); (case k6 => k_is)
    (case a7 => k_is); (case i7 => k_is); (case l7 => k_is); (case c7 => k_is); (case k7 => k_is)
    (case a8 => k_is); (case i8 => k_is); (case l8 => k_is); (case c8 => k_is); (case k8 => k_is)
    (case a9 => k_is); (case i9 => k_is); (case l9 => k_is); (case c9 => k_is); (case k9 => k_is)
    (case a10 => k_is); (case i10 => k_is); (case l10 => k_is); (case c10 => k_is); (case k10 => k_is)
    (case a11 => k_is); (case i11 => k_is); (case l11 => k_is); (case c11 => k_is); (case k11 => k_is)
    (case a12 => k_is); (case i12 => k_is); (case l12 => k_is); (case c12 => k_is); (case k12 => k_is)
    (case a13 => k_is); (case i13 => k_is); (case l13 => k_is); (case c13 => k_is); (case k13 => k_is)
    (case a14 => k_is); (case i14 => k_is); (case l14 => k_is); (case c14 => k_is); (case k14 => k_is)
    (case a15 => k_is); (case i15 => k_is); (case l15 => k_is); (case c15 => k_is); (case k15 => k_is)
    (case a16 => k_is); (case i16 => k_is); (case l16 => k_is); (case c16 => k_is); (case k16 => k_is)
    (case a17 => k_is); (case i17 => k_is); (case l17 => k_is); (case c17 => k_is); (case k17 => k_is)
    (case a18 => k_is); (case i18 => k_is); (case l18 => k_is); (case c18 => k_is); (case k18 => k_is)
    (case a19 => k_is); (case i19 => k_is); (case l19 => k_is); (case c19 => k_is); (case k19 => k_is)
    (case a20 => k_is); (case i20 => k_is); (case l20 => k_is); (case c20 => k_is); (case k20 => k_is)
    (case a21 => k_is); (case i21 => k_is); (case l21 => k_is); (case c21 => k_is); (case k21 => k_is)
    (case a22 => k_is); (case l22 => k_is); (case c22 => k_is); (case k22 => k_is)
    (case a23 => k_is); (case l23 => k_is); (case c23 => k_is); (case k23 => k_is)
    (case a24 => k_is); (case l24 => k_is); (case c24 => k_is); (case k24 => k_is)
    (case a25 => k_is); (case l25 => k_is); (case c25 => k_is); (case k25 => k_is)
    (case a26 => k_is); (case l26 => k_is); (case c26 => k_is); (case k26 => k_is)
    (case a27 => k_is); (case l27 => k_is); (case c27 => k_is); (case k27 => k_is)
    (case a28 => k_is); (case l28 => k_is); (case c28 => k_is); (case k28 => k_is)
    (case a29 => k_is); (case l29 => k_is); (case c29 => k_is); (case k29 => k_is)
    (case w_NEVER => k_is)
    (case w_ALWAYS => k_is)
    (case w_FIRST_NODE => k_is)
    (case bf_factorial => k_is)
    (case bf_gcd => k_is)
    (case z_abs => k_is); (case z_enumerate => k_is); (case z_int => k_is); (case z_len => k_is); (case z_list => k_is); (case z_min => k_is); (case z_range => k_is); (case z_reversed => k_is); (case z_sorted => k_is); (case z_sum => k_is); (case z_zip => k_is)

