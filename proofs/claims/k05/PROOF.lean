import PyProof.Rows.All
import Wide.All
import OpenK.AllK
import Wide.FinOn
import HandS.ForMost
import HandS.Wide
import HandS.IsInst
import HandS.Replace
import HandS.Codes
import HandS.StrMore
import HandS.More
import HandS.FStr
import PySem.Challenge.RW_lineworks_k05_expressions_are_printed
set_option Elab.async false
set_option linter.all false
set_option maxRecDepth 100000
namespace Lw
open PySem PySem.Spec PyProof.Rows L2
def topS (i : Nat) : Stmt := PySem.Challenge.pw_lineworks_k05_expressions_are_printed.main.body.getD i (.Pass ⟨0, 0, 0, 0⟩)
abbrev s_print_expression : Stmt := topS 5
abbrev N_print_expression : List Str := ["expression", "word", "_", "left", "right", "arguments", "part"]
theorem sc_print_expression : FnScope N_print_expression ["expression"] (defScope s_print_expression) := ⟨rfl, rfl, rfl, by decide +kernel, rfl, by decide +kernel, by decide +kernel⟩
abbrev s_inner_text : Stmt := topS 6
abbrev N_inner_text : List Str := ["expression", "least", "text"]
theorem sc_inner_text : FnScope N_inner_text ["expression", "least"] (defScope s_inner_text) := ⟨rfl, rfl, rfl, by decide +kernel, rfl, by decide +kernel, by decide +kernel⟩
abbrev s_closeness : Stmt := topS 7
abbrev N_closeness : List Str := ["expression", "word"]
theorem sc_closeness : FnScope N_closeness ["expression"] (defScope s_closeness) := ⟨rfl, rfl, rfl, by decide +kernel, rfl, by decide +kernel, by decide +kernel⟩
abbrev s_leaf_text : Stmt := topS 8
abbrev N_leaf_text : List Str := ["expression", "word", "doubled"]
theorem sc_leaf_text : FnScope N_leaf_text ["expression"] (defScope s_leaf_text) := ⟨rfl, rfl, rfl, by decide +kernel, rfl, by decide +kernel, by decide +kernel⟩
abbrev s__law_draw : Stmt := topS 10
abbrev N__law_draw : List Str := ["script"]
theorem sc__law_draw : FnScope N__law_draw ["script"] (defScope s__law_draw) := ⟨rfl, rfl, rfl, by decide +kernel, rfl, by decide +kernel, by decide +kernel⟩
abbrev s__law_next : Stmt := topS 11
abbrev N__law_next : List Str := ["draw", "many", "found", "cell"]
theorem sc__law_next : FnScope N__law_next ["draw", "many"] (defScope s__law_next) := ⟨rfl, rfl, rfl, by decide +kernel, rfl, by decide +kernel, by decide +kernel⟩
abbrev s__law_reserved : Stmt := topS 12
abbrev N__law_reserved : List Str := ["words"]
theorem sc__law_reserved : FnScope N__law_reserved [] (defScope s__law_reserved) := ⟨rfl, rfl, rfl, by decide +kernel, rfl, by decide +kernel, by decide +kernel⟩
abbrev s__law_name : Stmt := topS 13
abbrev N__law_name : List Str := ["draw", "letters", "size", "word", "k"]
theorem sc__law_name : FnScope N__law_name ["draw"] (defScope s__law_name) := ⟨rfl, rfl, rfl, by decide +kernel, rfl, by decide +kernel, by decide +kernel⟩
abbrev s__law_string : Stmt := topS 14
abbrev N__law_string : List Str := ["draw", "chars", "size", "k"]
theorem sc__law_string : FnScope N__law_string ["draw"] (defScope s__law_string) := ⟨rfl, rfl, rfl, by decide +kernel, rfl, by decide +kernel, by decide +kernel⟩
abbrev s__law_quoted : Stmt := topS 15
abbrev N__law_quoted : List Str := ["value"]
theorem sc__law_quoted : FnScope N__law_quoted ["value"] (defScope s__law_quoted) := ⟨rfl, rfl, rfl, by decide +kernel, rfl, by decide +kernel, by decide +kernel⟩
abbrev s__law_number : Stmt := topS 16
abbrev N__law_number : List Str := ["draw", "number", "k"]
theorem sc__law_number : FnScope N__law_number ["draw"] (defScope s__law_number) := ⟨rfl, rfl, rfl, by decide +kernel, rfl, by decide +kernel, by decide +kernel⟩
abbrev s__law_signs : Stmt := topS 17
abbrev N__law_signs : List Str := []
theorem sc__law_signs : FnScope N__law_signs [] (defScope s__law_signs) := ⟨rfl, rfl, rfl, by decide +kernel, rfl, by decide +kernel, by decide +kernel⟩
abbrev s__law_leaf : Stmt := topS 18
abbrev N__law_leaf : List Str := ["draw", "form"]
theorem sc__law_leaf : FnScope N__law_leaf ["draw"] (defScope s__law_leaf) := ⟨rfl, rfl, rfl, by decide +kernel, rfl, by decide +kernel, by decide +kernel⟩
abbrev s__law_expression : Stmt := topS 19
abbrev N__law_expression : List Str := ["draw", "depth", "form", "first", "second"]
theorem sc__law_expression : FnScope N__law_expression ["draw", "depth"] (defScope s__law_expression) := ⟨rfl, rfl, rfl, by decide +kernel, rfl, by decide +kernel, by decide +kernel⟩
abbrev s__law_level : Stmt := topS 20
abbrev N__law_level : List Str := ["expression", "levels"]
theorem sc__law_level : FnScope N__law_level ["expression"] (defScope s__law_level) := ⟨rfl, rfl, rfl, by decide +kernel, rfl, by decide +kernel, by decide +kernel⟩
abbrev s__law_print_atom : Stmt := topS 21
abbrev N__law_print_atom : List Str := ["expression", "form", "part"]
theorem sc__law_print_atom : FnScope N__law_print_atom ["expression"] (defScope s__law_print_atom) := ⟨rfl, rfl, rfl, by decide +kernel, rfl, by decide +kernel, by decide +kernel⟩
abbrev s__law_print : Stmt := topS 22
abbrev N__law_print : List Str := ["expression", "wanted", "level", "written", "first"]
theorem sc__law_print : FnScope N__law_print ["expression", "wanted"] (defScope s__law_print) := ⟨rfl, rfl, rfl, by decide +kernel, rfl, by decide +kernel, by decide +kernel⟩
abbrev s_law : Stmt := topS 23
abbrev N_law : List Str := ["script", "draw", "expression", "actual"]
theorem sc_law : FnScope N_law ["script"] (defScope s_law) := ⟨rfl, rfl, rfl, by decide +kernel, rfl, by decide +kernel, by decide +kernel⟩
/-! ### heaps and calls -/
theorem same_upd {H : Hp} {p : Addr} {o : HO} (h : H p = none) : Same H (upd H p o) := fun b x e => by
  rw [upd_ne (ne_of_none e h)]
  exact e
/-- what stood stands, but for the object at d -/
def Fd (d : Addr) (H H' : Hp) : Prop := ∀ b o, b ≠ d → H b = some o → H' b = some o
theorem Fd.refl (d : Addr) (H : Hp) : Fd d H H := fun _ _ _ e => e
theorem Fd.trans {d : Addr} {H H1 H2 : Hp} (a : Fd d H H1) (b : Fd d H1 H2) : Fd d H H2 := fun c o n e => b c o n (a c o n e)
theorem Fd.of {d : Addr} {H H' : Hp} (a : Same H H') : Fd d H H' := fun b o _ e => a b o e
theorem Fd.new {d : Addr} {H : Hp} {p : Addr} {o : HO} (h : H p = none) : Fd d H (upd H p o) := Fd.of (same_upd h)
theorem Fd.at {d : Addr} {H : Hp} {o : HO} : Fd d H (upd H d o) := fun b x n e => by
  rw [upd_ne n]
  exact e
/-- a def that may be called by its name -/
structure Cl (P : Program) (w : World) (K : PySem.W.Frag) (mg : Str → Option Value) (base : Heap) (k : Nat) (x : Str) (sp : Sp) : Prop where
  ex : ∃ (f : Addr) (fd : FuncData) (ps : List Str), FnOk P w K mg base CX0 k f fd ps sp ∧ mg x = some (.ref f) ∧ PySem.W.keepIn K (.ref f) = true ∧ Binds K fd ps []
section
variable {X : Cx} {k j : Nat} {x : Str} {sp : Sp} {p pos : Pos} {e : Expr} {es : List Expr} {t : TA}
theorem pe_u (c : Cl X.prog X.w X.K X.mg X.base k x sp) (hr : Room j X.A) (hk : k ≤ j) (hg : Gl X x) (ha : PA X (e :: es) t)
    (hdb : (x == ("__debug__" : Str)) = false := by decide) (he : starEach (e :: es) X.env = (false, eval e X.env) :: starEach es X.env := by rfl) (hpl : (backTo pos (starEach es X.env)).any (·.1) = false := by rfl) :
    PE X (.Call (.Name x p) (e :: es) [] pos) (tCall sp [] E0 t) := by
  obtain ⟨f, fd, ps, F, hm, kp, b⟩ := c.ex
  exact pe_call F (hr.mono hk) hg hm kp b .nil pass0 ha hdb he hpl
theorem pe_u0 (c : Cl X.prog X.w X.K X.mg X.base k x sp) (hr : Room j X.A) (hk : k ≤ j) (hg : Gl X x) (hdb : (x == ("__debug__" : Str)) = false := by decide) : PE X (.Call (.Name x p) [] [] pos) (tCall sp [] E0 tNil) := by
  obtain ⟨f, fd, ps, F, hm, kp, b⟩ := c.ex
  exact pe_call0 F (hr.mono hk) hg hm kp b .nil pass0 hdb
end
theorem FnOk.cl {P : Program} {w : World} {K : PySem.W.Frag} {mg : Str → Option Value} {base : Heap} {k : Nat} {x q : Str} {st : Stmt} {f : Addr} {fd : FuncData} {ps : List Str} {sp : Sp} (h : FnOk P w K mg base CX0 k f fd ps sp) (F : Fun K x q st f fd) (g : mg x = some (.ref f)) (b : Binds K fd ps []) : Cl P w K mg base k x sp := ⟨f, fd, ps, h, g, F.kp, b⟩
/-! ### rules with the written part named (within a comprehension) -/
section
variable {X : Cx} (K : PySem.W.Frag)
theorem ix_listK (h : X.K = K := by rfl) : IxR X (rIxL K) := by subst h; exact ix_list
theorem ix_tupK (h : X.K = K := by rfl) : IxR X (rIxT K) := by subst h; exact ix_tup
theorem ix_seqK (h : X.K = K := by rfl) : IxR X (rIx K) := by subst h; exact ix_seq
theorem len_seqK (h : X.K = K := by rfl) : CallR X (.builtin "len") (fun xs H Q => ∃ p ys, xs = [.ref p] ∧ (SqL K H p ys ∨ SqT K H p ys) ∧ Q (.int ys.length) H) := by subst h; exact call_len_seq
theorem isiK (h : X.K = K := by rfl) : CallR X (.builtin "isinstance") (rIsi K) := by subst h; exact call_isi
theorem isiTK (h : X.K = K := by rfl) : CallR X (.builtin "isinstance") (rIsiT K) := by subst h; exact call_isiT
theorem allK (hc : X.calm = true) (h : X.K = K := by rfl) : CallR X (.builtin "all") (rAll K) := by subst h; exact cr_all hc
theorem listK (h : X.K = K := by rfl) : CallR X (.type "list") (fun xs H Q => ∃ p ys, xs = [.ref p] ∧ (SqL K H p ys ∨ SqT K H p ys) ∧ ∀ l, H l = none → Q (.ref l) (upd H l (.lst ys))) := by subst h; exact call_list_of
theorem tupleK (h : X.K = K := by rfl) : CallR X (.type "tuple") (fun xs H Q => ∃ p ys, xs = [.ref p] ∧ ((SqL K H p ys ∧ ∀ l, H l = none → Q (.ref l) (upd H l (.tup ys))) ∨ (SqT K H p ys ∧ Q (.ref p) H))) := by subst h; exact call_tuple_of
theorem inK (h : X.K = K := by rfl) : OpR X (compareOp .In) (rIn K false) := by subst h; exact op_in_seq
theorem notInK (h : X.K = K := by rfl) : OpR X (compareOp .NotIn) (rIn K true) := by subst h; exact op_notIn_seq
theorem pe_bmK {T : String} {name : Str} {id : String} {r : V → List V → Hp → VK → Prop} {o e : Expr} {es : List Expr} {to : TE} {t : TA} {apos cpos : Pos} (pa : PlainAttrs T) (slot : Slot T name id) (hty : typeOf (.builtin id) = pure (.type "method_descriptor")) (hm : MtR X id r) (ho : PE X o to) (ha : PA X (e :: es) t) (hK : X.K = K := by rfl)
    (hbase : attributeBase o name X.env (eval o X.env) = eval o X.env := by rfl)
    (hfew : ((backTo cpos (starEach (e :: es) X.env)).all (fun x => !x.1) && (backToKw cpos (keywordEach [] X.env)).all (fun x => x.1.isSome)
      && decide ((e :: es).length + ([] : List Keyword).length + (if ([] : List Keyword).isEmpty then 0 else 1) < 30)) = true := by rfl)
    (hline : (apos.endLine == cpos.line) = true := by rfl) (hs : starEach (e :: es) X.env = (false, eval e X.env) :: starEach es X.env := by rfl) (hplain : (backTo cpos (starEach es X.env)).any (·.1) = false := by rfl) :
    PE X (.Call (.Attribute o name apos) (e :: es) [] cpos) (tBM K T r to t) := by subst hK; exact pe_bm pa slot hty hm ho ha hbase hfew hline hs hplain
theorem pt_truthK {a : Expr} {ta : TE} (ha : PE X a ta) (he : ∀ whole, isTrue a X.env whole = (do let v ← whole; standAt a.pos; holding [v] (truthy v))) (h : X.K = K := by rfl) : PT X a (fun σ H Q => ta σ H fun x H' => ∃ k, TruV K x H' k ∧ Q k H') := by subst h; exact pt_truth ha he
theorem eqDK (hu : X.A.units + 64 < cLine) (h : X.K = K := by rfl) : OpR X (compareOp .Eq) (rEqD K) := by subst h; exact op_eqD hu
theorem neDK (hu : X.A.units + 64 < cLine) (h : X.K = K := by rfl) : OpR X (compareOp .NotEq) (rNeD K) := by subst h; exact op_neD hu
end
/-- over the signs of a text -/
theorem for_strs {x : Str} {g : TG} {tb : TS} {D : Ends} {σ : L2.St} {H : Hp} (Pv : Nat → L2.St → Hp → Prop) (h0 : Pv 0 σ H)
    (hs : ∀ i c σ H, x.cps.toList[i]? = some c → Pv i σ H → g (.str ⟨#[c]⟩) σ H fun σ2 H2 => tb { D with nx := Pv (i + 1), ct := Pv (i + 1), bk := D.nx } σ2 H2) (hd : ∀ σ H, Pv x.cps.toList.length σ H → D.nx σ H) :
    ∃ W : Nat → Nat → L2.St → Hp → Prop, (∃ m, W 0 m σ H) ∧ ∀ i m σ H, W i m σ H →
      ((Its x).stop i H ∧ D.nx σ H) ∨ ((Its x).go i H ∧ ∃ N : L2.St → Hp → Prop, (∀ σ' H', N σ' H' → ∃ m', m' < m ∧ W (i + 1) m' σ' H') ∧ ∀ v H', (Its x).yld i H v H' → g v σ H' fun σ2 H2 => tb { D with nx := N, ct := N, bk := D.nx } σ2 H2) := by
  have es : x.cps.toList.length = x.cps.size := by simp
  refine ⟨fun i m σ H => m = x.cps.size - i ∧ i ≤ x.cps.size ∧ Pv i σ H, ⟨x.cps.size, by simp, Nat.zero_le _, h0⟩, ?_⟩
  rintro i m σ H ⟨rfl, hi, p⟩
  by_cases hlt : i < x.cps.size
  · refine .inr ⟨hlt, Pv (i + 1), fun σ' H' p' => ⟨x.cps.size - (i + 1), by omega, rfl, hlt, p'⟩, fun v H' y => ?_⟩
    obtain ⟨e, c, hc, rfl⟩ := y
    subst e
    exact hs i c σ _ (by rw [Array.getElem?_toList]; exact hc) p
  · have e : i = x.cps.size := by omega
    subst e
    exact .inl ⟨Nat.le_refl _, hd σ H (by rw [es]; exact p)⟩
theorem joinL0 : ∀ ps : List (List Nat), TL.joinL [] ps = ps.flatten
  | [] => rfl
  | [p] => by
    show p = p ++ []
    rw [List.append_nil]
  | p :: q :: r => by
    show p ++ ([] ++ TL.joinL [] (q :: r)) = p ++ (q :: r).flatten
    rw [joinL0 (q :: r), List.nil_append]
theorem join0 (ys : List Str) : Txt.join ⟨#[]⟩ ys = ⟨((ys.map TL.tl).flatten).toArray⟩ := by
  refine TL.ext_tl ?_
  rw [TL.join_eq, TL.tl_join]
  show TL.joinL [] _ = _
  rw [joinL0]
theorem flat_len : ∀ ys : List Str, ((ys.map TL.tl).flatten).length = (ys.map (·.length)).sum
  | [] => rfl
  | y :: ys => by
    rw [List.map_cons, List.flatten_cons, List.length_append, flat_len ys, List.map_cons, List.sum_cons]
    show y.cps.toList.length + _ = _
    rw [Array.length_toList]
    rfl
theorem S_len' (l : List Nat) : (⟨l.toArray⟩ : Str).length = l.length := by simp [Str.length]
theorem cut_to (l : List Nat) {o : Nat} (h : o ≤ l.length) : cutS ⟨l.toArray⟩ none (some (o : Int)) = ⟨(l.take o).toArray⟩ := by
  unfold cutS
  rw [HT.sIx_none, HT.sIx_nat, S_len', Nat.sub_zero, Nat.min_eq_left h]
  show (⟨((l.drop 0).take o).toArray⟩ : Str) = _
  rw [List.drop_zero]
theorem str1 (c : Nat) (d : Nat) : decide (V.str ⟨#[c]⟩ = V.str ⟨#[d]⟩) = decide (c = d) := by
  by_cases h : c = d
  · subst h
    rw [decide_eq_true rfl, decide_eq_true rfl]
  · rw [decide_eq_false h, decide_eq_false]
    intro e
    have e1 := V.str.inj e
    have e2 := Array.toList_inj.mpr (Str.mk.inj e1)
    exact h (by simpa using e2)

structure Mg (mg : Str → Option Value) : Prop where
  abs : mg "abs" = none
  int : mg "int" = none
  isinstance : mg "isinstance" = none
  len : mg "len" = none
  list : mg "list" = none
  range : mg "range" = none
  str : mg "str" = none
/-! ### the law's draws: a list of the script's copy, a place in it, what is left of a great number, a seed -/
def Dr (H : Hp) (d c : Addr) : Prop := c ≠ d ∧ ∃ (ns : List Int) (pos rest seed : Int), H d = some (.lst [.ref c, .int pos, .int rest, .int seed]) ∧ H c = some (.lst (ns.map V.int)) ∧ 0 ≤ pos ∧ 0 ≤ rest ∧ 0 ≤ seed ∧ seed < 2147483647
theorem Dr.ext {H H' : Hp} {d c : Addr} (h : Dr H d c) (e : Same H H') : Dr H' d c := by
  obtain ⟨n, ns, pos, rest, seed, h1, h2, r⟩ := h
  exact ⟨n, ns, pos, rest, seed, e _ _ h1, e _ _ h2, r⟩
theorem Dr.upd {H : Hp} {d c p : Addr} {o : HO} (h : Dr H d c) (n1 : p ≠ d) (n2 : p ≠ c) : Dr (upd H p o) d c := by
  obtain ⟨n, ns, pos, rest, seed, h1, h2, r⟩ := h
  exact ⟨n, ns, pos, rest, seed, by rw [upd_ne n1.symm]; exact h1, by rw [upd_ne n2.symm]; exact h2, r⟩
theorem Dr.nd {H : Hp} {d c p : Addr} (h : Dr H d c) (n : H p = none) : p ≠ d := by
  obtain ⟨_, ns, pos, rest, seed, h1, _⟩ := h
  exact (ne_of_none h1 n).symm
theorem Dr.nc {H : Hp} {d c p : Addr} (h : Dr H d c) (n : H p = none) : p ≠ c := by
  obtain ⟨_, ns, pos, rest, seed, _, h2, _⟩ := h
  exact (ne_of_none h2 n).symm
theorem Dr.lst {H : Hp} {d c : Addr} (h : Dr H d c) : ∃ zs, H d = some (.lst zs) := by
  obtain ⟨_, ns, pos, rest, seed, h1, _⟩ := h
  exact ⟨_, h1⟩
theorem Dr.lift {H H' : Hp} {d c d' c' : Addr} (_h : Dr H d c) (h' : Dr H' d' c') : Dr H' d' c' := h'
def sp_draw (K : PySem.W.Frag) : Sp := fun vs H Q _ => ∃ (a : Addr) (ns : List Int), vs = [.ref a] ∧ SqL K H a (ns.map V.int) ∧ ∀ H' d c, Same H H' → H d = none → Dr H' d c → Q (.ref d) H'
/-- a draw: some number below many -/
def sp_next : Sp := fun vs H Q _ => ∃ (d c : Addr) (many : Int), vs = [.ref d, .int many] ∧ Dr H d c ∧ 1 ≤ many ∧ many < 2 ^ 64 ∧ ∀ H' r, Fd d H H' → (∀ p, p ≠ d → H' p = H p) → Dr H' d c → 0 ≤ r → r < many → Q (.int r) H'
section
variable {P : Program} {w : World} {K : PySem.W.Frag} {mg : Str → Option Value} {base : Heap}
theorem ok_draw {f : Addr} {fd : FuncData} (F : Fun K "_law_draw" "_law_draw" s__law_draw f fd) (M : Mg mg) : FnOk P w K mg base CX0 1 f fd ["script"] (sp_draw K) := by
  refine F.ok sc__law_draw (fun vs H Q E h => ?_) (fun cdv A outer s H vs Q E hr h => ?_)
  · obtain ⟨a, ns, rfl, _⟩ := h
    rfl
  · obtain ⟨a, ns, rfl, hS, q⟩ := h
    refine ⟨_, (pss_one (ps_ret (pe_lst (pa_cons (pe_callTy (listK K) (by rfl) M.list (by decide +kernel) (pa_cons (pv 0) pa_nil)) (pa_cons pe_int (pa_cons pe_int (pa_cons pe_int pa_nil))))))), ?_⟩
    refine ⟨_, rfl, a, _, rfl, .inl hS, fun c nc => ?_⟩
    refine ⟨by show 4 ≤ sizeLine; decide, fun d nd => ?_⟩
    have hc : (upd H c (.lst (ns.map V.int))) c = some (.lst (ns.map V.int)) := upd_same
    have ncd : c ≠ d := ne_of_none hc nd
    have s1 := (same_upd nc (o := .lst (ns.map V.int))).trans (same_upd nd (o := .lst [.ref c, .int 0, .int 0, .int 17]))
    refine q _ d c s1 ((same_upd nc).free nd) ⟨ncd, ns, 0, 0, 17, upd_same, ?_, by decide, by decide, by decide, by decide⟩
    rw [upd_ne ncd]
    exact hc
theorem next_aux {H : Hp} {d c : Addr} {xs' : List V} {pos rest seed : Int} {ns : List Int} (hn : c ≠ d) (h2 : H c = some (.lst (ns.map V.int))) (hx : xs' = [.ref c, .int pos, .int rest, .int seed]) (h0 : 0 ≤ pos) (h1 : 0 ≤ rest) (h3 : 0 ≤ seed) (h4 : seed < 2147483647) : Dr (upd H d (.lst xs')) d c := by
  subst hx
  refine ⟨hn, ns, pos, rest, seed, upd_same, ?_, h0, h1, h3, h4⟩
  rw [upd_ne hn]
  exact h2
theorem ok_next {f : Addr} {fd : FuncData} (F : Fun K "_law_next" "_law_next" s__law_next f fd) (M : Mg mg) : FnOk P w K mg base CX0 1 f fd ["draw", "many"] sp_next := by
  refine F.ok sc__law_next (fun vs H Q E h => ?_) (fun cdv A outer s H vs Q E hr h => ?_)
  · obtain ⟨d, c, many, rfl, _⟩ := h
    rfl
  · obtain ⟨d, c, many, rfl, ⟨ncd, ns, pos, rest, seed, h1, h2, h0, h3, h4, h5⟩, hm1, hm2, q⟩ := h
    have hdv : ∀ x : Int, CDivW x many := fun x => wide_div (b := 64) (by omega) (by omega) (by decide) (by decide)
    have hcd : d ≠ c := ncd.symm
    have L0 : SqL K H d [.ref c, .int pos, .int rest, .int seed] := .of h1
    have at0 : ∀ (a b e g : V), atI [a, b, e, g] (0 : Int) = some a := fun a b e g => atI_nat (j := 0) rfl
    have at1 : ∀ (a b e g : V), atI [a, b, e, g] (1 : Int) = some b := fun a b e g => atI_nat (j := 1) rfl
    have at2 : ∀ (a b e g : V), atI [a, b, e, g] (2 : Int) = some e := fun a b e g => atI_nat (j := 2) rfl
    have at3 : ∀ (a b e g : V), atI [a, b, e, g] (3 : Int) = some g := fun a b e g => atI_nat (j := 3) rfl
    have fr : ∀ (H0 : Hp) (o : HO), (∀ p, p ≠ d → H0 p = H p) → (∀ p, p ≠ d → (upd H0 d o) p = H p) := fun H0 o e p n => by rw [upd_ne n]; exact e p n
    have fF : ∀ (H0 : Hp), (∀ p, p ≠ d → H0 p = H p) → Fd d H H0 := fun H0 e b o n h => by rw [e b n]; exact h
    -- the last row's value
    have last : ∀ (seed' : Int), 0 ≤ seed' → seed' < 2147483647 → ∀ H0 : Hp, (∀ p, p ≠ d → H0 p = H p) → (∃ pos rest, H0 d = some (.lst [.ref c, .int pos, .int rest, .int seed']) ∧ 0 ≤ pos ∧ 0 ≤ rest) → Q (.int ((seed' * 69621 % 2147483629 / 7) % many)) H0 := by
      intro seed' g0 g1 H0 e ⟨pos', rest', g2, g3, g4⟩
      exact q H0 _ (fF _ e) e ⟨ncd, ns, pos', rest', seed', g2, by rw [e c ncd]; exact h2, g3, g4, g0, g1⟩ (Int.emod_nonneg _ (by omega)) (Int.emod_lt_of_pos _ (by omega))
    refine ⟨_, (pss_cons (ps_if (pt_cmpR op_gt (pe_ix (ix_listK K) (pv 0) pe_int (fun _ _ => rfl)) pe_int (nomark _)) (pss_cons (ps_set (i := 2) sc__law_next.nd rfl (.inl rfl) (pe_op op_mod (pe_callTy call_int1 (by rfl) M.int (by decide +kernel) (pa_cons (pe_ix (ix_listK K) (pv 0) pe_int (fun _ _ => rfl)) pa_nil)) (pv 1)))
      (pss_cons (ps_asg (pe_op op_fdivW (pe_ix (ix_listK K) (pv 0) pe_int (fun _ _ => rfl)) (pv 1)) (pg_sub (pv 0) pe_int set_list))
      (pss_one (ps_ret (pv 2))))) pss_nil)
      (pss_cons (ps_if (pt_cmpR op_lt (pe_ix (ix_listK K) (pv 0) pe_int (fun _ _ => rfl)) (pe_callB (len_seqK K) (by rfl) M.len PySem.boot_len (pa_cons (pe_ix (ix_listK K) (pv 0) pe_int (fun _ _ => rfl)) pa_nil)) (nomark _)) (pss_cons (ps_set (i := 3) sc__law_next.nd rfl (.inl rfl) (pe_callB call_abs (by rfl) M.abs (by decide +kernel) (pa_cons (pe_ix (ix_listK K) (pe_ix (ix_listK K) (pv 0) pe_int (fun _ _ => rfl)) (pe_ix (ix_listK K) (pv 0) pe_int (fun _ _ => rfl)) (fun _ _ => rfl)) pa_nil)))
      (pss_cons (ps_asg (pe_op op_add (pe_ix (ix_listK K) (pv 0) pe_int (fun _ _ => rfl)) pe_int) (pg_sub (pv 0) pe_int set_list))
      (pss_cons (ps_if (pt_cmpR op_ge (pv 3) (pe_op op_pow pe_int pe_int) (nomark _)) (pss_cons (ps_asg (pe_op op_fdivW (pv 3) (pv 1)) (pg_sub (pv 0) pe_int set_list))
      (pss_one (ps_ret (pe_op op_mod (pe_callTy call_int1 (by rfl) M.int (by decide +kernel) (pa_cons (pv 3) pa_nil)) (pv 1))))) pss_nil)
      (pss_one (ps_asg (pe_op op_mod (pe_callTy call_int1 (by rfl) M.int (by decide +kernel) (pa_cons (pe_op op_add (pe_op op_add (pe_op op_mul (pe_ix (ix_listK K) (pv 0) pe_int (fun _ _ => rfl)) pe_int) (pv 3)) pe_int) pa_nil)) pe_int) (pg_sub (pv 0) pe_int set_list)))))) (pss_one (ps_asg (pe_op op_mod (pe_callTy call_int1 (by rfl) M.int (by decide +kernel) (pa_cons (pe_op op_add (pe_op op_mul (pe_ix (ix_listK K) (pv 0) pe_int (fun _ _ => rfl)) pe_int) pe_int) pa_nil)) pe_int) (pg_sub (pv 0) pe_int set_list))))
      (pss_one (ps_ret (pe_op op_mod (pe_op op_fdivW (pe_callTy call_int1 (by rfl) M.int (by decide +kernel) (pa_cons (pe_op op_mod (pe_op op_mul (pe_ix (ix_listK K) (pv 0) pe_int (fun _ _ => rfl)) pe_int) pe_int) pa_nil)) pe_int) (pv 1)))))), ?_⟩
    refine ⟨_, rfl, d, _, 2, .int rest, rfl, rfl, L0, at2 .., ?_⟩
    refine ⟨_, _, rfl, rfl, _, rfl, ite2 (fun e => ?_) (fun e => ?_)⟩
    · -- draw[2] > 0
      have hr0 : 0 < rest := of_decide_eq_true e
      refine ⟨_, rfl, d, _, 2, .int rest, rfl, rfl, L0, at2 .., .inl ⟨_, rfl, ?_⟩⟩
      refine ⟨_, rfl, _, _, rfl, rfl, by omega, ?_⟩
      refine ⟨_, rfl, d, _, 2, .int rest, rfl, rfl, L0, at2 .., ?_⟩
      refine ⟨_, rfl, _, _, rfl, rfl, hdv _, ?_⟩
      refine ⟨_, rfl, d, _, 2, 2, rfl, rfl, h1, rfl, ?_⟩
      refine ⟨_, rfl, ?_⟩
      have e1 := fr H (.lst ([.ref c, .int pos, .int rest, .int seed].set 2 (.int (rest / many)))) (fun _ _ => rfl)
      exact q _ _ (fF _ e1) e1 (next_aux ncd h2 rfl h0 (Int.ediv_nonneg h3 (by omega)) h4 h5) (Int.emod_nonneg _ (by omega)) (Int.emod_lt_of_pos _ (by omega))
    · refine ⟨_, rfl, d, _, 1, .int pos, rfl, rfl, L0, at1 .., ?_⟩
      refine ⟨_, rfl, d, _, 0, .ref c, rfl, rfl, L0, at0 .., ?_⟩
      refine ⟨c, _, rfl, .inl (.of h2), ?_⟩
      refine ⟨_, _, rfl, rfl, _, rfl, ite2 (fun e2 => ?_) (fun e2 => ?_)⟩
      · have hp : pos < ((ns.map V.int).length : Int) := of_decide_eq_true e2
        rw [List.length_map] at hp
        obtain ⟨i, rfl⟩ := Int.eq_ofNat_of_zero_le h0
        have hi : i < ns.length := by omega
        have hat : atI (ns.map V.int) ((i : Nat) : Int) = some (.int ns[i]) := atI_nat (by rw [List.getElem?_map, List.getElem?_eq_getElem hi]; rfl)
        -- cell = abs(..)
        refine ⟨_, rfl, d, _, 0, .ref c, rfl, rfl, L0, at0 .., ?_⟩
        refine ⟨_, rfl, d, _, 1, _, rfl, rfl, L0, at1 .., ?_⟩
        refine ⟨c, _, _, _, rfl, rfl, .of h2, hat, ?_⟩
        refine ⟨_, rfl, ?_⟩
        have hcell : (0 : Int) ≤ (if ns[i] < 0 then -ns[i] else ns[i]) := by split <;> omega
        generalize (if ns[i] < 0 then -ns[i] else ns[i]) = cell at hcell
        -- draw[1] = draw[1] + 1
        refine ⟨_, rfl, d, _, 1, _, rfl, rfl, L0, at1 .., ?_⟩
        refine ⟨_, _, rfl, rfl, ?_⟩
        refine ⟨_, rfl, d, _, 1, 1, rfl, rfl, h1, rfl, ?_⟩
        have hd1 : (upd H d (.lst ([.ref c, .int ((i : Nat) : Int), .int rest, .int seed].set 1 (.int ((i : Nat) + 1))))) d = some (.lst [.ref c, .int ((i : Nat) + 1), .int rest, .int seed]) := upd_same
        have e1 := fr H (.lst ([.ref c, .int ((i : Nat) : Int), .int rest, .int seed].set 1 (.int ((i : Nat) + 1)))) (fun _ _ => rfl)
        generalize upd H d (.lst ([.ref c, .int ((i : Nat) : Int), .int rest, .int seed].set 1 (.int ((i : Nat) + 1)))) = H1 at hd1 e1
        have h2' : H1 c = some (.lst (ns.map V.int)) := by rw [e1 c ncd]; exact h2
        -- cell >= 10 ** 18
        refine ⟨_, rfl, _, _, rfl, rfl, ⟨by decide, by decide, by decide⟩, ?_⟩
        refine ⟨_, _, rfl, rfl, _, rfl, ite2 (fun e3 => ?_) (fun e3 => ?_)⟩
        · refine ⟨_, rfl, _, rfl, _, _, rfl, rfl, hdv _, ?_⟩
          refine ⟨_, rfl, d, _, 2, 2, rfl, rfl, hd1, rfl, ?_⟩
          refine ⟨_, rfl, .inl ⟨_, rfl, ?_⟩⟩
          refine ⟨_, rfl, _, _, rfl, rfl, by omega, ?_⟩
          have e5 := fr H1 (.lst ([.ref c, .int ((i : Nat) + 1), .int rest, .int seed].set 2 (.int (cell / many)))) e1
          exact q _ _ (fF _ e5) e5 (next_aux ncd h2' rfl (by omega) (Int.ediv_nonneg hcell (by omega)) h4 h5) (Int.emod_nonneg _ (by omega)) (Int.emod_lt_of_pos _ (by omega))
        · -- draw[3] = ..
          refine ⟨_, rfl, d, _, 3, .int seed, rfl, rfl, .of hd1, at3 .., ?_⟩
          refine ⟨_, _, rfl, rfl, .inl ⟨by omega, by omega⟩, ?_⟩
          refine ⟨_, rfl, _, _, rfl, rfl, ?_⟩
          refine ⟨_, _, rfl, rfl, .inl ⟨_, rfl, ?_⟩⟩
          refine ⟨_, _, rfl, rfl, by show (0 : Int) < 2147483647; decide, ?_⟩
          refine ⟨_, rfl, d, _, 3, 3, rfl, rfl, hd1, rfl, ?_⟩
          have hs0 : 0 ≤ (seed * 48271 + cell + 11) % 2147483647 := Int.emod_nonneg _ (by decide)
          have hs1 : (seed * 48271 + cell + 11) % 2147483647 < 2147483647 := Int.emod_lt_of_pos _ (by decide)
          have e5 := fr H1 (.lst ([.ref c, .int ((i : Nat) + 1), .int rest, .int seed].set 3 (.int ((seed * 48271 + cell + 11) % 2147483647)))) e1
          have hd5 : (upd H1 d (.lst ([.ref c, .int ((i : Nat) + 1), .int rest, .int seed].set 3 (.int ((seed * 48271 + cell + 11) % 2147483647))))) d = some (.lst [.ref c, .int ((i : Nat) + 1), .int rest, .int ((seed * 48271 + cell + 11) % 2147483647)]) := upd_same
          dsimp only
          generalize (seed * 48271 + cell + 11) % 2147483647 = seed' at hs0 hs1 e5 hd5 ⊢
          refine ⟨_, rfl, d, _, 3, .int seed', rfl, rfl, .of hd5, at3 .., ?_⟩
          refine ⟨_, _, rfl, rfl, .inl ⟨by omega, by omega⟩, ?_⟩
          refine ⟨_, _, rfl, rfl, by show (0 : Int) < 2147483629; decide, .inl ⟨_, rfl, ?_⟩⟩
          refine ⟨_, _, rfl, rfl, ⟨by decide, by decide⟩, ?_⟩
          refine ⟨_, rfl, _, _, rfl, rfl, by omega, ?_⟩
          exact last seed' hs0 hs1 _ e5 ⟨_, _, hd5, by omega, h3⟩
      · -- draw[3] = ..
        refine ⟨_, rfl, d, _, 3, .int seed, rfl, rfl, L0, at3 .., ?_⟩
        refine ⟨_, _, rfl, rfl, .inl ⟨by omega, by omega⟩, ?_⟩
        refine ⟨_, _, rfl, rfl, .inl ⟨_, rfl, ?_⟩⟩
        refine ⟨_, _, rfl, rfl, by show (0 : Int) < 2147483647; decide, ?_⟩
        refine ⟨_, rfl, d, _, 3, 3, rfl, rfl, h1, rfl, ?_⟩
        have hs0 : 0 ≤ (seed * 48271 + 12345) % 2147483647 := Int.emod_nonneg _ (by decide)
        have hs1 : (seed * 48271 + 12345) % 2147483647 < 2147483647 := Int.emod_lt_of_pos _ (by decide)
        have e5 := fr H (.lst ([.ref c, .int pos, .int rest, .int seed].set 3 (.int ((seed * 48271 + 12345) % 2147483647)))) (fun _ _ => rfl)
        have hd5 : (upd H d (.lst ([.ref c, .int pos, .int rest, .int seed].set 3 (.int ((seed * 48271 + 12345) % 2147483647))))) d = some (.lst [.ref c, .int pos, .int rest, .int ((seed * 48271 + 12345) % 2147483647)]) := upd_same
        dsimp only
        generalize (seed * 48271 + 12345) % 2147483647 = seed' at hs0 hs1 e5 hd5 ⊢
        refine ⟨_, rfl, d, _, 3, .int seed', rfl, rfl, .of hd5, at3 .., ?_⟩
        refine ⟨_, _, rfl, rfl, .inl ⟨by omega, by omega⟩, ?_⟩
        refine ⟨_, _, rfl, rfl, by show (0 : Int) < 2147483629; decide, .inl ⟨_, rfl, ?_⟩⟩
        refine ⟨_, _, rfl, rfl, ⟨by decide, by decide⟩, ?_⟩
        refine ⟨_, rfl, _, _, rfl, rfl, by omega, ?_⟩
        exact last seed' hs0 hs1 _ e5 ⟨_, _, hd5, h0, h3⟩
end

/-! ### data in the heap -/
theorem SqT.ext {K : PySem.W.Frag} {H H' : Hp} {a : Addr} {xs : List V} (e : Same H H') (h : SqT K H a xs) : SqT K H' a xs := by
  rcases h with (h | ⟨o, h⟩) | h
  · exact .inl (.inl (e _ _ h))
  · exact .inl (.inr ⟨o, e _ _ h⟩)
  · exact .inr h
mutual
theorem Dp.ext {K : PySem.W.Frag} {H H' : Hp} (e : Same H H') : ∀ (d : PyData) (v : V), Dp K H v d → Dp K H' v d
  | .none, _, h => by cases h; exact .non
  | .bool b, _, h => by cases h; exact .bl b
  | .int i, _, h => by cases h; exact .int i
  | .str x, _, h => by cases h; exact .str x
  | .list ds, _, h => by
    cases h with
    | lst hs ha => exact .lst (e.seq hs) (DpAll.ext e ds _ ha)
  | .tuple ds, _, h => by
    cases h with
    | tup hs ha => exact .tup (SqT.ext e hs) (DpAll.ext e ds _ ha)
  | .dict _, _, h => by cases h
theorem DpAll.ext {K : PySem.W.Frag} {H H' : Hp} (e : Same H H') : ∀ (ds : List PyData) (vs : List V), DpAll K H vs ds → DpAll K H' vs ds
  | [], _, h => by cases h; exact .nil
  | d :: ds, _, h => by
    cases h with
    | cons h1 h2 => exact .cons (Dp.ext e d _ h1) (DpAll.ext e ds _ h2)
end
theorem DpAll.len {K : PySem.W.Frag} {H : Hp} : ∀ {ds : List PyData} {vs : List V}, DpAll K H vs ds → vs.length = ds.length
  | [], _, h => by cases h; rfl
  | d :: ds, _, h => by
    cases h with
    | cons h1 h2 => exact congrArg (· + 1) (DpAll.len h2)
theorem DpAll.get {K : PySem.W.Frag} {H : Hp} : ∀ {ds : List PyData} {vs : List V} {i : Nat} {d : PyData}, DpAll K H vs ds → ds[i]? = some d → ∃ v, vs[i]? = some v ∧ Dp K H v d
  | [], _, _, _, _, e => by simp at e
  | x :: ds, _, 0, d, h, e => by
    cases h with
    | cons h1 h2 =>
      have e1 : x = d := Option.some.inj e
      subst e1
      exact ⟨_, rfl, h1⟩
  | x :: ds, _, i + 1, d, h, e => by
    cases h with
    | cons h1 h2 =>
      obtain ⟨v, hv, hd⟩ := DpAll.get (i := i) h2 (by simpa using e)
      exact ⟨v, by simpa using hv, hd⟩
theorem tyL {K : PySem.W.Frag} {H : Hp} {a : Addr} {xs : List V} (h : SqL K H a xs) : TyX K H (.ref a) (.type "list") := by
  rcases h with (h | ⟨o, h⟩) | ⟨o, its, n, h, c, _⟩
  · exact .base (.lst h)
  · exact .base (.frz h)
  · exact .kList h c
theorem tyT {K : PySem.W.Frag} {H : Hp} {a : Addr} {xs : List V} (h : SqT K H a xs) : TyX K H (.ref a) (.type "tuple") := by
  rcases h with (h | ⟨o, h⟩) | ⟨o, its, n, h, c, _⟩
  · exact .base (.tup h)
  · exact .fTuple h
  · exact .kTuple h c
mutual
/-- no list within -/
def tupOnly : PyData → Bool
  | .list _ => false
  | .dict _ => false
  | .tuple ds => tupOnlys ds
  | _ => true
def tupOnlys : List PyData → Bool
  | [] => true
  | d :: ds => tupOnly d && tupOnlys ds
end
mutual
theorem Dp.away {K : PySem.W.Frag} {H : Hp} {D : Addr} {zs : List V} {o : HO} (hD : H D = some (.lst zs)) : ∀ (d : PyData) (v : V), tupOnly d = true → Dp K H v d → Dp K (upd H D o) v d
  | .none, _, _, h => by cases h; exact .non
  | .bool b, _, _, h => by cases h; exact .bl b
  | .int i, _, _, h => by cases h; exact .int i
  | .str x, _, _, h => by cases h; exact .str x
  | .list ds, _, e, _ => by unfold tupOnly at e; cases e
  | .tuple ds, _, e, h => by
    unfold tupOnly at e
    cases h with
    | @tup a _ _ hs ha =>
      refine .tup ?_ (DpAll.away hD ds _ e ha)
      rcases hs with (hs | ⟨o', hs⟩) | hs
      · exact .inl (.inl (by rw [upd_ne (ne_of hs hD (fun z => nomatch z))]; exact hs))
      · exact .inl (.inr ⟨o', by rw [upd_ne (ne_of hs hD (fun z => nomatch z))]; exact hs⟩)
      · exact .inr hs
  | .dict _, _, _, h => by cases h
theorem DpAll.away {K : PySem.W.Frag} {H : Hp} {D : Addr} {zs : List V} {o : HO} (hD : H D = some (.lst zs)) : ∀ (ds : List PyData) (vs : List V), tupOnlys ds = true → DpAll K H vs ds → DpAll K (upd H D o) vs ds
  | [], _, _, h => by cases h; exact .nil
  | d :: ds, _, e, h => by
    unfold tupOnlys at e
    rw [Bool.and_eq_true] at e
    cases h with
    | cons h1 h2 => exact .cons (Dp.away hD d _ e.1 h1) (DpAll.away hD ds _ e.2 h2)
end
theorem DpAll.snoc {K : PySem.W.Frag} {H : Hp} : ∀ {ds : List PyData} {xs : List V} {v : V} {d : PyData}, DpAll K H xs ds → Dp K H v d → DpAll K H (xs ++ [v]) (ds ++ [d])
  | [], _, _, _, h, h2 => by cases h; exact .cons h2 .nil
  | _ :: ds, _, _, _, h, h2 => by
    cases h with
    | cons a b => exact .cons a (DpAll.snoc b h2)
theorem at_0 {α : Type} {xs : List α} {i : Nat} {v : α} (h : xs[i]? = some v) : atI xs (0 + (i : Int)) = some v := by
  rw [Int.zero_add]
  exact atI_nat h
mutual
/-- what is made of tuples stands when another list is changed -/
theorem Dp.fd {K : PySem.W.Frag} {H H' : Hp} {D : Addr} (hD : ∃ zs, H D = some (.lst zs)) (e : Fd D H H') : ∀ (d : PyData) (v : V), tupOnly d = true → Dp K H v d → Dp K H' v d
  | .none, _, _, h => by cases h; exact .non
  | .bool b, _, _, h => by cases h; exact .bl b
  | .int i, _, _, h => by cases h; exact .int i
  | .str x, _, _, h => by cases h; exact .str x
  | .list ds, _, e, _ => by unfold tupOnly at e; cases e
  | .tuple ds, _, e', h => by
    unfold tupOnly at e'
    obtain ⟨zs, hz⟩ := hD
    cases h with
    | @tup a _ _ hs ha =>
      refine .tup ?_ (DpAll.fd ⟨zs, hz⟩ e ds _ e' ha)
      rcases hs with (hs | ⟨o', hs⟩) | hs
      · exact .inl (.inl (e _ _ (ne_of hs hz (fun z => nomatch z)) hs))
      · exact .inl (.inr ⟨o', e _ _ (ne_of hs hz (fun z => nomatch z)) hs⟩)
      · exact .inr hs
  | .dict _, _, _, h => by cases h
theorem DpAll.fd {K : PySem.W.Frag} {H H' : Hp} {D : Addr} (hD : ∃ zs, H D = some (.lst zs)) (e : Fd D H H') : ∀ (ds : List PyData) (vs : List V), tupOnlys ds = true → DpAll K H vs ds → DpAll K H' vs ds
  | [], _, _, h => by cases h; exact .nil
  | d :: ds, _, e', h => by
    unfold tupOnlys at e'
    rw [Bool.and_eq_true] at e'
    cases h with
    | cons h1 h2 => exact .cons (Dp.fd hD e d _ e'.1 h1) (DpAll.fd hD e ds _ e'.2 h2)
end

/-! ### x.replace('a', 'b') of two written texts: behind something that gave a token out -/
section
variable {X : Cx}
def EPG (X : Cx) (pins : List (Addr × Obj)) (σ : L2.St) (Q : VK) (u : Value) (s' : Shared) : Prop := 1 ≤ s'.toks ∧ EP X pins σ Q u s'
def PEG (X : Cx) (e : Expr) (t : TE) : Prop :=
  ∀ (pins : List (Addr × Obj)) (s : Shared) (σ : L2.St) (H : Hp) (Q : VK), Inv X pins σ H s → t σ H Q → wpAny (model X.prog X.w) X.A (eval e X.env) (EPG X pins σ Q) X.xe s
theorem peg_str {c : Str} {j : Nat} {pos : Pos} : PEG X (.Constant (.str c) j pos) (tC (.str c)) := fun pins s σ H Q I h =>
  Calls.Constant_str ⟨by show 1 ≤ s.toks + 1; omega, .str c, H, I.tok (s.toks + 1), ⟨_, rfl⟩, h⟩
theorem peg_add {a b : Expr} {ta tb : TE} {pos : Pos} (ha : PE X a ta) (hb : PE X b tb) : PEG X (.BinOp a .Add b pos) (tOp (rI0 fun i j => .int (i + j)) ta tb) := by
  intro pins s σ H Q I h
  refine wpAny_BinOp (thn (ha.run pins s σ H _ I h) fun v s1 ⟨x, H1, I1, r1, q1⟩ => thn (hb.run pins s1 σ H1 _ I1 q1) fun u s2 ⟨y, H2, I2, r2, q2⟩ => ?_)
  obtain ⟨i, j, rfl, rfl, q⟩ := q2
  obtain ⟨t1, rfl⟩ := r1
  obtain ⟨t2, rfl⟩ := r2
  exact PyProof.Rows.add_int ⟨by show 1 ≤ s2.toks + 1; omega, .int (i + j), H2, I2.tok (s2.toks + 1), ⟨_, rfl⟩, q⟩
theorem peg_slice {r : V → Option Int → Option Int → Hp → VK → Prop} {e lo hi : Expr} {te tl th : TE} {p2 pos : Pos} (hr : SlR X r) (he : PE X e te) (hl : PEG X lo tl) (hu : PE X hi th) :
    PEG X (.Subscript e (.Slice (some lo) (some hi) none p2) pos) (tSl r te (tPart tl) (tPart th)) := by
  intro pins s σ H Q I h
  refine Subscript_ (thn (he.run pins s σ H _ I h) fun v s1 ⟨x, H1, I1, r1, q1⟩ => ?_)
  refine wpAny_Slice ?_
  rw [evalPart_some]
  refine thn (hl pins s1 σ H1 _ I1 q1) fun vl s2 ⟨g2, yl, H2, I2, r2, q2⟩ => ?_
  obtain ⟨l, rfl, q2⟩ := q2
  obtain ⟨tl', rfl⟩ := r2
  rw [evalPart_some]
  refine wpAny_mono (PySem.wpAny_toks_of g2 (hu.run pins s2 σ H2 _ I2 q2)) (fun vu s3 z => ?_) fun _ _ z => z.2
  obtain ⟨g3, yu, H3, I3, r3, q3⟩ := z
  obtain ⟨u, rfl, q3⟩ := q3
  obtain ⟨tu', rfl⟩ := r3
  rw [evalPart_none]
  refine wpAny_pure ?_
  have I4 : Inv X pins σ H3 { s3 with heap := s3.heap.push { cls := .type "slice", data := .fields #[.int l tl', .int u tu', .none] } } := I3.kept (t' := s3.toks) fun b ob q => Heap.get?_push_of_some _ q
  obtain ⟨T, id, hT, ht, hg⟩ := hr pins { s3 with heap := s3.heap.push { cls := .type "slice", data := .fields #[.int l tl', .int u tu', .none] } } σ H3 x v (.int l tl') (.int u tu') (some l) (some u) s3.heap.objs.size Q I4 r1 (Heap.IsSliceOf.new ..) (.int l tl') (.int u tu') q3
  show wpAny (model X.prog X.w) X.A (subscriptTail e (.Slice (some lo) (some hi) none p2) v (.ref s3.heap.objs.size)) (EPG X pins σ Q) X.xe { s3 with heap := s3.heap.push { cls := .type "slice", data := .fields #[.int l tl', .int u tu', .none] } }
  refine tail_any (ops := [.ref s3.heap.objs.size, v]) ht hT ?_ (by with_unfolding_all rfl)
  exact wpAny_mono (PySem.wpAny_toks_of (n := 1) (show 1 ≤ s3.toks from g3) hg) (fun _ _ z => z) fun _ _ z => z.2
def tRpl (y z : Str) (to : TE) : TE := fun σ H Q => to σ H fun v H1 => ∃ x : Str, v = .str x ∧ x.length + (x.length + 1) * z.length ≤ 16777216 ∧ Q (.str (Txt.replace x y z)) H1
theorem pet_rpl {o : Expr} {to : TE} {y z : Str} {j0 j1 : Nat} {c0 c1 apos cpos : Pos} (ho : PE X o to) (hyz : (y == z) = false)
    (hbase : attributeBase o "replace" X.env (eval o X.env) = eval o X.env := by rfl)
    (hfew : ((backTo cpos (starEach [.Constant (.str y) j0 c0, .Constant (.str z) j1 c1] X.env)).all (fun x => !x.1) && (backToKw cpos (keywordEach [] X.env)).all (fun x => x.1.isSome)
      && decide ([Expr.Constant (.str y) j0 c0, .Constant (.str z) j1 c1].length + ([] : List Keyword).length + (if ([] : List Keyword).isEmpty then 0 else 1) < 30)) = true := by rfl)
    (hline : (apos.endLine == cpos.line) = true := by rfl) :
    PET X (.Call (.Attribute o "replace" apos) [.Constant (.str y) j0 c0, .Constant (.str z) j1 c1] [] cpos) (tRpl y z to) := by
  intro pins s σ H Q g I h
  refine wpAny_Call_method_late hbase hfew hline rfl (wpAny_mono (PySem.wpAny_toks_of g (ho.run pins s σ H _ I h)) (fun v s1 w => ?_) fun _ _ w => w.2)
  obtain ⟨g1, xv, H1, I1, r1, x, rfl, hb, q⟩ := w
  obtain ⟨tx, rfl⟩ := r1
  refine ⟨"str", "str.replace", F.plainAttrs_str, F.slot_str_replace, F.type_str_replace, typeIs_str _ _ _, (fun _ e => nomatch e), ?_⟩
  refine Calls.callWith_builtin rfl (Calls.evalArgs_plain ?_)
  show wpAny _ _ (spliced ((false, eval (.Constant (.str y) j0 c0) X.env) :: backTo cpos (starEach [.Constant (.str z) j1 c1] X.env))) _ _ s1
  refine Calls.spliced_cons (Calls.Constant_str ?_)
  show wpAny _ _ (spliced ((false, eval (.Constant (.str z) j1 c1) X.env) :: backTo cpos (starEach [] X.env))) _ _ _
  refine Calls.spliced_cons (Calls.Constant_str (Calls.spliced_nil ?_))
  have g1' : 1 ≤ s1.toks := g1
  exact PySem.SC.replace (show s1.toks ≠ 0 by omega) (show s1.toks + 1 ≠ 0 by omega) (show s1.toks ≠ s1.toks + 1 by omega) hyz hb fun t' k => ⟨.str (Txt.replace x y z), H1, I1.tok k, ⟨t', rfl⟩, q⟩
theorem pe_rplG {o : Expr} {to : TE} {y z : Str} {j0 j1 : Nat} {c0 c1 apos cpos : Pos} (ho : PEG X o to) (hyz : (y == z) = false)
    (hbase : attributeBase o "replace" X.env (eval o X.env) = eval o X.env := by rfl)
    (hfew : ((backTo cpos (starEach [.Constant (.str y) j0 c0, .Constant (.str z) j1 c1] X.env)).all (fun x => !x.1) && (backToKw cpos (keywordEach [] X.env)).all (fun x => x.1.isSome)
      && decide ([Expr.Constant (.str y) j0 c0, .Constant (.str z) j1 c1].length + ([] : List Keyword).length + (if ([] : List Keyword).isEmpty then 0 else 1) < 30)) = true := by rfl)
    (hline : (apos.endLine == cpos.line) = true := by rfl) :
    PE X (.Call (.Attribute o "replace" apos) [.Constant (.str y) j0 c0, .Constant (.str z) j1 c1] [] cpos) (tRpl y z to) := by
  refine ⟨fun pins s σ H Q I h => ?_⟩
  refine wpAny_Call_method_late hbase hfew hline rfl (wpAny_mono (ho pins s σ H _ I h) (fun v s1 w => ?_) fun _ _ w => w)
  obtain ⟨g1, xv, H1, I1, r1, x, rfl, hb, q⟩ := w
  obtain ⟨tx, rfl⟩ := r1
  refine ⟨"str", "str.replace", F.plainAttrs_str, F.slot_str_replace, F.type_str_replace, typeIs_str _ _ _, (fun _ e => nomatch e), ?_⟩
  refine Calls.callWith_builtin rfl (Calls.evalArgs_plain ?_)
  show wpAny _ _ (spliced ((false, eval (.Constant (.str y) j0 c0) X.env) :: backTo cpos (starEach [.Constant (.str z) j1 c1] X.env))) _ _ s1
  refine Calls.spliced_cons (Calls.Constant_str ?_)
  show wpAny _ _ (spliced ((false, eval (.Constant (.str z) j1 c1) X.env) :: backTo cpos (starEach [] X.env))) _ _ _
  refine Calls.spliced_cons (Calls.Constant_str (Calls.spliced_nil ?_))
  have g1' : 1 ≤ s1.toks := g1
  exact PySem.SC.replace (show s1.toks ≠ 0 by omega) (show s1.toks + 1 ≠ 0 by omega) (show s1.toks ≠ s1.toks + 1 by omega) hyz hb fun t' k => ⟨.str (Txt.replace x y z), H1, I1.tok k, ⟨t', rfl⟩, q⟩
theorem pe_opG {a b : Expr} {op : Operator} {r : R2} {ta tb : TE} {pos : Pos} (ho : OpR X (binaryOp op) r) (ha : PEG X a ta) (hb : PET X b tb) : PE X (.BinOp a op b pos) (tOp r ta tb) := by
  refine ⟨fun pins s σ H Q I h => ?_⟩
  refine wpAny_BinOp (thn (ha pins s σ H _ I h) fun v s1 ⟨g1, x, H1, I1, r1, q1⟩ => thn (hb pins s1 σ H1 _ g1 I1 q1) fun u s2 ⟨y, H2, I2, r2, q2⟩ => ?_)
  exact ho pins s2 σ H2 x y v u Q I2 r1 r2 q2
/-- a test that gives a token out -/
def PTG (X : Cx) (e : Expr) (t : TT) : Prop :=
  ∀ (pins : List (Addr × Obj)) (s : Shared) (σ : L2.St) (H : Hp) (Q : Bool → Hp → Prop), Inv X pins σ H s → t σ H Q → wpAny (model X.prog X.w) X.A (isTrue e X.env (eval e X.env)) (fun b s' => 1 ≤ s'.toks ∧ TP X pins σ Q b s') X.xe s
theorem ptg_cmp {a b : Expr} {op : CmpOp} {r : R2} {ta tb : TE} {pos : Pos} (ho : OpR X (compareOp op) r) (ha : PE X a ta) (hb : PEG X b tb) (hm : behindInMarks op b = false) : PTG X (.Compare a [op] [b] pos) (tTest (tOp r ta tb)) := by
  intro pins s σ H Q I h
  refine wpAny_isTrue_Compare1 (thn (ha.run pins s σ H _ I h) fun v s1 ⟨x, H1, I1, r1, q1⟩ => thn (hb pins s1 σ H1 _ I1 q1) fun u s2 ⟨g2, y, H2, I2, r2, q2⟩ => ?_) hm
  refine wpAny_mono (PySem.wpAny_toks_of g2 (ho pins s2 σ H2 x y v u _ I2 r1 r2 q2)) (fun c s3 z => ?_) fun _ _ z => z.2
  obtain ⟨g3, z, H3, I3, r3, k, e, q3⟩ := z
  subst e
  cases r3
  exact wpAny_truthy_bool ⟨g3, H3, I3, q3⟩
def PSG (X : Cx) (st : Stmt) (t : TS) : Prop :=
  ∀ (pins : List (Addr × Obj)) (s : Shared) (σ : L2.St) (H : Hp) (D : Ends), Inv X pins σ H s → t D σ H → wpAny (model X.prog X.w) X.A (exec st X.env) (fun f s' => 1 ≤ s'.toks ∧ SP X pins D f s') X.xe s
theorem psg_if {c : Expr} {a b : List Stmt} {tc : TT} {t u : TS} {pos : Pos} (hc : PTG X c tc) (ha : PSs X a t) (hb : PSs X b u) : PSG X (.If c a b pos) (tIfS tc t u) := by
  intro pins s σ H D I h
  refine wpAny_If (thn (hc pins s σ H _ I h) fun d s1 ⟨g1, H1, I1, q1⟩ => ?_)
  cases d with
  | true => exact wpAny_mono (PySem.wpAny_toks_of g1 (ha.run pins s1 σ H1 D I1 q1)) (fun _ _ z => z) fun _ _ z => z.2
  | false => exact wpAny_mono (PySem.wpAny_toks_of g1 (hb.run pins s1 σ H1 D I1 q1)) (fun _ _ z => z) fun _ _ z => z.2
theorem pss_consG {st : Stmt} {rest : List Stmt} {t u : TS} (h1 : PSG X st t) (h2 : PSsT X rest u) : PSs X (st :: rest) (tSeq t u) := by
  refine ⟨fun pins s σ H D I h => ?_⟩
  refine wpAny_execs_cons (thn (h1 pins s σ H { D with nx := u D } I h) fun f s1 z => ?_)
  obtain ⟨g1, q⟩ := z
  cases f with
  | next =>
    obtain ⟨σ', H', I', q⟩ := q
    exact h2 pins s1 σ' H' D g1 I' q
  | ret v => exact q
  | brk => exact q
  | cont => exact q
theorem pst_if {c : Expr} {a b : List Stmt} {tc : TT} {t u : TS} {pos : Pos} (hc : PT X c tc) (ha : PSsT X a t) (hb : PSsT X b u) : PST X (.If c a b pos) (tIfS tc t u) := by
  intro pins s σ H D g I h
  refine wpAny_If (wpAny_mono (PySem.wpAny_toks_of g (hc.run pins s σ H _ I h)) (fun d s1 z => ?_) fun _ _ z => z.2)
  obtain ⟨g1, H1, I1, q1⟩ := z
  cases d with
  | true => exact ha pins s1 σ H1 D g1 I1 q1
  | false => exact hb pins s1 σ H1 D g1 I1 q1
theorem pst_set {i : Nat} {x : Str} {e : Expr} {te : TE} {pos' pos : Pos} (hN : X.N.Nodup) (hi : X.N[i]? = some x) (hx : Loc X.env.scope x) (he : PET X e te) (hs : swapsWith e (some (.Name x pos')) pos.line X.env = pure false := by rfl) (hf : X.fn x = true ∨ X.env.scope.names.lookup x = some .local := by first | exact .inl rfl | exact .inr rfl | assumption) :
    PST X (.Assign [.Name x pos'] e pos) (tAsg te (gName i)) := by
  intro pins s σ H D g I h
  refine wpAny_Assign_Name (thn (he pins s σ H _ g I h) fun v s1 ⟨y, H1, I1, r1, q1⟩ => ?_) hs
  exact store_ok I1 hN hi hx r1 (fun s2 I2 => ⟨_, H1, I2, q1⟩) hf
end

/-! ### doubled quotes -/
def und (l : List Nat) : List Nat := TL.joinL [39] (TL.spl [39, 39] 0 [] l)
def dbl : List Nat → List Nat
  | [] => []
  | c :: r => if c = 39 then 39 :: 39 :: dbl r else c :: dbl r
/-! quotes -/
theorem und_dbl : ∀ (v acc : List Nat), TL.joinL [39] (TL.spl [39, 39] 0 acc (dbl v)) = acc ++ v
  | [], acc => by
    show TL.joinL [39] [acc] = _
    rw [List.append_nil]
    rfl
  | c :: v, acc => by
    unfold dbl
    by_cases h : c = 39
    · rw [if_pos h, TL.spl_hit (by rfl)]
      show TL.joinL [39] (acc :: TL.spl [39, 39] 1 [] (39 :: dbl v)) = _
      have e : TL.spl [39, 39] 1 [] (39 :: dbl v) = TL.spl [39, 39] 0 [] (dbl v) := rfl
      rw [e]
      have ih := und_dbl v []
      have ne : TL.spl [39, 39] 0 [] (dbl v) ≠ [] := spl_ne _ _ _ _
      cases es : TL.spl [39, 39] 0 [] (dbl v) with
      | nil => exact absurd es ne
      | cons q r =>
        rw [es] at ih
        show acc ++ ([39] ++ TL.joinL [39] (q :: r)) = _
        rw [ih, h]
        rfl
    · rw [if_neg h, TL.spl_miss (by
        unfold TL.pre
        cases dbl v with
        | nil => simp
        | cons d r => simp [h])]
      rw [und_dbl v (acc ++ [c]), List.append_assoc]
      rfl
where
  spl_ne : ∀ (S : List Nat) (k : Nat) (acc l : List Nat), TL.spl S k acc l ≠ []
    | S, k, acc, [] => by rw [TL.spl_nil]; simp
    | S, 0, acc, c :: r => by
      unfold TL.spl
      split
      · simp
      · exact spl_ne S 0 _ r
    | S, k + 1, acc, c :: r => spl_ne S k acc r
theorem und_dbl' (v : List Nat) : und (dbl v) = v := und_dbl v []
theorem dbl_rpl : ∀ (v acc : List Nat), TL.joinL [39, 39] (TL.spl [39] 0 acc v) = acc ++ dbl v
  | [], acc => by
    show TL.joinL [39, 39] [acc] = _
    rw [show dbl [] = [] from rfl, List.append_nil]
    rfl
  | c :: v, acc => by
    unfold dbl
    by_cases h : c = 39
    · rw [if_pos h, TL.spl_hit (by rw [h]; rfl)]
      have e : TL.spl [39] ([39].length - 1) [] v = TL.spl [39] 0 [] v := rfl
      rw [e]
      have ih := dbl_rpl v []
      cases es : TL.spl [39] 0 [] v with
      | nil => exact absurd es (und_dbl.spl_ne _ _ _ _)
      | cons q r =>
        rw [es] at ih
        show acc ++ ([39, 39] ++ TL.joinL [39, 39] (q :: r)) = _
        rw [ih]
        rfl
    · rw [if_neg h, TL.spl_miss (by
        unfold TL.pre
        simp [h])]
      rw [dbl_rpl v (acc ++ [c]), List.append_assoc]
      rfl
theorem rpl_S (x y z : List Nat) (hy : y ≠ []) (hk : y.all (· < 256) = true) : Txt.replace ⟨x.toArray⟩ ⟨y.toArray⟩ ⟨z.toArray⟩ = ⟨(TL.joinL z (TL.spl y 0 [] x)).toArray⟩ := by
  have hs : Txt.split (SX.S x) (SX.S y) = (TL.spl y 0 [] x).map SX.S := SX.split_S hy hk
  have hkd := TL.kind_ok (x := SX.S x) (SX.all256 hk)
  have hyl : (SX.S y).length = y.length := SX.S_len y
  have hyp : 0 < y.length := List.length_pos_iff.mpr hy
  have hj := SX.join_S z (TL.spl y 0 [] x)
  rw [← hs] at hj
  refine Eq.trans ?_ hj
  show Txt.replace (SX.S x) (SX.S y) (SX.S z) = Txt.join (SX.S z) (Txt.split (SX.S x) (SX.S y))
  unfold Txt.replace Txt.split
  have one : ∀ w : Str, Txt.join w [SX.S x] = SX.S x := fun w => by
    have := SX.join_S (TL.tl w) [x]
    rw [SX.S_tl] at this
    exact this
  have hz0 : ((SX.S y).length == 0 && (SX.S z).length == 0) = false := by
    rw [hyl]
    cases y with
    | nil => exact absurd rfl hy
    | cons a b => rfl
  rw [hz0, Bool.or_false]
  cases ho : (Builtin.Str.occurrences (SX.S x) (SX.S y) 0 (SX.S x).length ((SX.S x).length + 1)).isEmpty with
  | true =>
    rw [if_pos rfl, if_pos rfl, ite_self, one]
  | false =>
    rw [if_neg Bool.false_ne_true, if_neg Bool.false_ne_true]
    have hl : decide ((SX.S x).length < (SX.S y).length) = false := by
      refine decide_eq_false fun hlt => ?_
      cases hoc : Builtin.Str.occurrences (SX.S x) (SX.S y) 0 (SX.S x).length ((SX.S x).length + 1) with
      | nil =>
        rw [hoc] at ho
        cases ho
      | cons i r =>
        have := (PySem.StrLaws.occ_spec (SX.S x) (SX.S y) 0 (SX.S x).length ((SX.S x).length + 1) i (by rw [hoc]; exact List.mem_cons_self ..)).1
        omega
    rw [hl, decide_eq_false hkd]
    rfl

theorem dbl_len : ∀ l : List Nat, (dbl l).length ≤ 2 * l.length
  | [] => Nat.le_refl _
  | c :: r => by
    have := dbl_len r
    unfold dbl
    split
    · simp only [List.length_cons]; omega
    · simp only [List.length_cons]; omega

def LET : List Nat := (Str.ofString "abcdefghijklmnopqrstuvwxyz_ABCDEFGHIJKLMNOPQRSTUVWXYZ").cps.toList
def DIG : List Nat := (Str.ofString "0123456789").cps.toList
theorem DIG_S : Str.ofString "0123456789" = ⟨DIG.toArray⟩ := (SX.S_tl _).symm

/-! ### expressions and their canonical texts -/
inductive Bop where
  | or | and | lt | le | eq | ne | ge | gt | add | sub | mul | div | mod
def Bop.s : Bop → String
  | .or => "or" | .and => "and" | .lt => "<" | .le => "<=" | .eq => "=" | .ne => "!=" | .ge => ">=" | .gt => ">" | .add => "+" | .sub => "-" | .mul => "*" | .div => "div" | .mod => "mod"
def Bop.w (o : Bop) : Str := Str.ofString o.s
/-- how closely it binds; its left, its right operand -/
def Bop.lv : Bop → Nat
  | .or => 1 | .and => 2 | .add => 5 | .sub => 5 | .mul => 6 | .div => 6 | .mod => 6 | _ => 4
def Bop.lf : Bop → Nat
  | .or => 1 | .and => 2 | .add => 5 | .sub => 5 | .mul => 6 | .div => 6 | .mod => 6 | _ => 5
def Bop.rt : Bop → Nat
  | .or => 2 | .and => 3 | .add => 6 | .sub => 6 | .mul => 7 | .div => 7 | .mod => 7 | _ => 5
inductive Ex where
  | num (n : Nat) | text (l : List Nat) | truth (b : Bool) | null | name (l : List Nat) | field (l m : List Nat)
  | neg (a : Ex) | nt (a : Ex) | bin (o : Bop) (a b : Ex) | f1 (m : Bool) (a : Ex) | f2 (m : Bool) (a b : Ex) | f3 (a b c : Ex)
def f1s (m : Bool) : String := if m = true then "missing" else "length"
def f2s (m : Bool) : String := if m = true then "starts" else "coalesce"
def Ex.d : Ex → PyData
  | .num n => .tuple [.str "number", .int n]
  | .text l => .tuple [.str "text", .str ⟨l.toArray⟩]
  | .truth b => .tuple [.str "truth", .int (if b = true then 1 else 0)]
  | .null => .tuple [.str "null"]
  | .name l => .tuple [.str "name", .str ⟨l.toArray⟩]
  | .field l m => .tuple [.str "field", .str ⟨l.toArray⟩, .str ⟨m.toArray⟩]
  | .neg a => .tuple [.str "negate", a.d]
  | .nt a => .tuple [.str "not", a.d]
  | .bin o a b => .tuple [.str o.w, a.d, b.d]
  | .f1 m a => .tuple [.str (Str.ofString (f1s m)), a.d]
  | .f2 m a b => .tuple [.str (Str.ofString (f2s m)), a.d, b.d]
  | .f3 a b c => .tuple [.str "if", a.d, b.d, c.d]
def Ex.ht : Ex → Nat
  | .neg a => a.ht + 1
  | .nt a => a.ht + 1
  | .bin _ a b => max a.ht b.ht + 1
  | .f1 _ a => a.ht + 1
  | .f2 _ a b => max a.ht b.ht + 1
  | .f3 a b c => max a.ht (max b.ht c.ht) + 1
  | _ => 0
def Ex.lev : Ex → Nat
  | .bin o _ _ => o.lv
  | .nt _ => 3
  | .neg _ => 7
  | _ => 8
def codes (s : String) : List Nat := (Str.ofString s).cps.toList
theorem codes_S (s : String) : Str.ofString s = ⟨(codes s).toArray⟩ := (SX.S_tl _).symm
def par (b : Bool) (l : List Nat) : List Nat := if b = true then 40 :: (l ++ [41]) else l
def Ex.pr : Ex → List Nat
  | .num n => TL.numL n
  | .text l => 39 :: (dbl l ++ [39])
  | .truth b => codes (if b = true then "true" else "false")
  | .null => codes "null"
  | .name l => l
  | .field l m => l ++ 46 :: m
  | .neg a => 45 :: par (decide (a.lev < 7)) a.pr
  | .nt a => codes "not " ++ par (decide (a.lev < 3)) a.pr
  | .bin o a b => par (decide (a.lev < o.lf)) a.pr ++ 32 :: (codes o.s ++ 32 :: par (decide (b.lev < o.rt)) b.pr)
  | .f1 m a => codes (f1s m) ++ 40 :: (a.pr ++ [41])
  | .f2 m a b => codes (f2s m) ++ 40 :: (a.pr ++ 44 :: 32 :: (b.pr ++ [41]))
  | .f3 a b c => codes "if" ++ 40 :: (a.pr ++ 44 :: 32 :: (b.pr ++ 44 :: 32 :: (c.pr ++ [41])))
/-- numbers of up to fifteen digits, texts of up to 100 signs, names of up to 21 -/
def Ex.ok : Ex → Prop
  | .num n => n < 10 ^ 15
  | .text l => l.length ≤ 100 ∧ ∀ x ∈ l, x < 1114112
  | .name l => l.length ≤ 21
  | .field l m => l.length ≤ 21 ∧ m.length ≤ 21
  | .neg a => a.ok
  | .nt a => a.ok
  | .bin _ a b => a.ok ∧ b.ok
  | .f1 _ a => a.ok
  | .f2 _ a b => a.ok ∧ b.ok
  | .f3 a b c => a.ok ∧ b.ok ∧ c.ok
  | _ => True
theorem par_len (b : Bool) (l : List Nat) : (par b l).length ≤ l.length + 2 := by
  unfold par
  split
  · simp only [List.length_cons, List.length_append, List.length_nil]; omega
  · omega
theorem ex_only : ∀ e : Ex, tupOnly e.d = true
  | .num _ => rfl
  | .text _ => rfl
  | .truth _ => rfl
  | .null => rfl
  | .name _ => rfl
  | .field _ _ => rfl
  | .neg a => by simp [Ex.d, tupOnly, tupOnlys, ex_only a]
  | .nt a => by simp [Ex.d, tupOnly, tupOnlys, ex_only a]
  | .bin _ a b => by simp [Ex.d, tupOnly, tupOnlys, ex_only a, ex_only b]
  | .f1 _ a => by simp [Ex.d, tupOnly, tupOnlys, ex_only a]
  | .f2 _ a b => by simp [Ex.d, tupOnly, tupOnlys, ex_only a, ex_only b]
  | .f3 a b c => by simp [Ex.d, tupOnly, tupOnlys, ex_only a, ex_only b, ex_only c]
theorem Bop.sl (o : Bop) : (codes o.s).length ≤ 3 := by cases o <;> decide
theorem f1l (m : Bool) : (codes (f1s m)).length ≤ 8 := by cases m <;> decide
theorem f2l (m : Bool) : (codes (f2s m)).length ≤ 8 := by cases m <;> decide
/-- how long a text of this height can be -/
def mx : Nat → Nat
  | 0 => 210
  | n + 1 => 3 * mx n + 30
theorem mx_mono : ∀ {m n : Nat}, m ≤ n → mx m ≤ mx n
  | m, 0, h => by
    have e : m = 0 := by omega
    subst e
    exact Nat.le_refl _
  | m, n + 1, h => by
    by_cases e : m = n + 1
    · subst e
      exact Nat.le_refl _
    · have := mx_mono (m := m) (n := n) (by omega)
      show mx m ≤ 3 * mx n + 30
      omega
theorem pr_len : ∀ e : Ex, e.ok → e.pr.length ≤ mx e.ht
  | .num n, h => Nat.le_trans (TL.numL_len (by decide) h) (show (15 : Nat) ≤ 210 by decide)
  | .text l, h => by
    have := dbl_len l
    have h1 := h.1
    show (39 :: (dbl l ++ [39])).length ≤ 210
    simp only [List.length_cons, List.length_append, List.length_nil]
    omega
  | .truth b, _ => by cases b <;> (show (codes _).length ≤ 210; decide)
  | .null, _ => by show (codes "null").length ≤ 210; decide
  | .name l, h => by
    have h : l.length ≤ 21 := h
    show l.length ≤ 210
    omega
  | .field l m, h => by
    have h1 : l.length ≤ 21 := h.1
    have h2 : m.length ≤ 21 := h.2
    show (l ++ 46 :: m).length ≤ 210
    simp only [List.length_cons, List.length_append]
    omega
  | .neg a, h => by
    have := pr_len a h
    have p := par_len (decide (a.lev < 7)) a.pr
    show (45 :: par _ a.pr).length ≤ 3 * mx a.ht + 30
    simp only [List.length_cons]
    omega
  | .nt a, h => by
    have := pr_len a h
    have p := par_len (decide (a.lev < 3)) a.pr
    show (codes "not " ++ par _ a.pr).length ≤ 3 * mx a.ht + 30
    rw [List.length_append, show (codes "not ").length = 4 by decide]
    omega
  | .bin o a b, h => by
    have := Nat.le_trans (pr_len a h.1) (mx_mono (Nat.le_max_left a.ht b.ht))
    have := Nat.le_trans (pr_len b h.2) (mx_mono (Nat.le_max_right a.ht b.ht))
    have := par_len (decide (a.lev < o.lf)) a.pr
    have := par_len (decide (b.lev < o.rt)) b.pr
    have := o.sl
    show (par _ a.pr ++ 32 :: (codes o.s ++ 32 :: par _ b.pr)).length ≤ 3 * mx (max a.ht b.ht) + 30
    simp only [List.length_cons, List.length_append]
    omega
  | .f1 m a, h => by
    have := pr_len a h
    have := f1l m
    show (codes (f1s m) ++ 40 :: (a.pr ++ [41])).length ≤ 3 * mx a.ht + 30
    simp only [List.length_cons, List.length_append, List.length_nil]
    omega
  | .f2 m a b, h => by
    have := Nat.le_trans (pr_len a h.1) (mx_mono (Nat.le_max_left a.ht b.ht))
    have := Nat.le_trans (pr_len b h.2) (mx_mono (Nat.le_max_right a.ht b.ht))
    have := f2l m
    show (codes (f2s m) ++ 40 :: (a.pr ++ 44 :: 32 :: (b.pr ++ [41]))).length ≤ 3 * mx (max a.ht b.ht) + 30
    simp only [List.length_cons, List.length_append, List.length_nil]
    omega
  | .f3 a b c, h => by
    have := Nat.le_trans (pr_len a h.1) (mx_mono (Nat.le_max_left a.ht (max b.ht c.ht)))
    have := Nat.le_trans (pr_len b h.2.1) (mx_mono (Nat.le_trans (Nat.le_max_left b.ht c.ht) (Nat.le_max_right a.ht (max b.ht c.ht))))
    have := Nat.le_trans (pr_len c h.2.2) (mx_mono (Nat.le_trans (Nat.le_max_right b.ht c.ht) (Nat.le_max_right a.ht (max b.ht c.ht))))
    show (codes "if" ++ 40 :: (a.pr ++ 44 :: 32 :: (b.pr ++ 44 :: 32 :: (c.pr ++ [41])))).length ≤ 3 * mx (max a.ht (max b.ht c.ht)) + 30
    simp only [List.length_cons, List.length_append, List.length_nil, show (codes "if").length = 2 by decide]
    omega
theorem pr_le {e : Ex} (h : e.ok) (ht : e.ht ≤ 8) : e.pr.length ≤ 1500000 := Nat.le_trans (pr_len e h) (Nat.le_trans (mx_mono ht) (by decide))

/-! ### the program's printing of expressions -/
def Ex.isl : Ex → Bool
  | .num _ => true | .text _ => true | .truth _ => true | .null => true | .name _ => true | .field _ _ => true | _ => false
/-- the word of an expression -/
def Ex.wd : Ex → Str
  | .num _ => "number" | .text _ => "text" | .truth _ => "truth" | .null => "null" | .name _ => "name" | .field _ _ => "field" | .neg _ => "negate" | .nt _ => "not"
  | .bin o _ _ => o.w | .f1 m _ => Str.ofString (f1s m) | .f2 m _ _ => Str.ofString (f2s m) | .f3 _ _ _ => "if"
theorem wne (a b : String) (h : (Str.ofString a == Str.ofString b) = false) : decide (V.str (Str.ofString a) = V.str (Str.ofString b)) = false := by
  refine decide_eq_false fun e => ?_
  rw [V.str.inj e] at h
  have : (Str.ofString b == Str.ofString b) = true := beq_self_eq_true _
  rw [this] at h
  cases h
theorem weq (a : Str) : decide (V.str a = V.str a) = true := decide_eq_true rfl
def Bop.isn (o : Bop) (x : String) : (Str.ofString o.s == Str.ofString x) = false → decide (V.str o.w = V.str (Str.ofString x)) = false := wne _ _
theorem wd_not (e : Ex) : decide (V.str e.wd = V.str "not") = (match e with | .nt _ => true | _ => false) := by
  cases e with
  | bin o a b => exact o.isn "not" (by cases o <;> decide +kernel)
  | f1 m a => exact wne _ "not" (by cases m <;> decide +kernel)
  | f2 m a b => exact wne _ "not" (by cases m <;> decide +kernel)
  | nt a => exact weq _
  | num n => exact wne "number" "not" (by decide +kernel)
  | text n => exact wne "text" "not" (by decide +kernel)
  | truth n => exact wne "truth" "not" (by decide +kernel)
  | null => exact wne "null" "not" (by decide +kernel)
  | name n => exact wne "name" "not" (by decide +kernel)
  | field n m => exact wne "field" "not" (by decide +kernel)
  | neg n => exact wne "negate" "not" (by decide +kernel)
  | f3 a b c => exact wne "if" "not" (by decide +kernel)
theorem wd_neg (e : Ex) : decide (V.str e.wd = V.str "negate") = (match e with | .neg _ => true | _ => false) := by
  cases e with
  | bin o a b => exact o.isn "negate" (by cases o <;> decide +kernel)
  | f1 m a => exact wne _ "negate" (by cases m <;> decide +kernel)
  | f2 m a b => exact wne _ "negate" (by cases m <;> decide +kernel)
  | neg a => exact weq _
  | num n => exact wne "number" "negate" (by decide +kernel)
  | text n => exact wne "text" "negate" (by decide +kernel)
  | truth n => exact wne "truth" "negate" (by decide +kernel)
  | null => exact wne "null" "negate" (by decide +kernel)
  | name n => exact wne "name" "negate" (by decide +kernel)
  | field n m => exact wne "field" "negate" (by decide +kernel)
  | nt n => exact wne "not" "negate" (by decide +kernel)
  | f3 a b c => exact wne "if" "negate" (by decide +kernel)

structure Gl (K : PySem.W.Frag) (w : World) (mg : Str → Option Value) (ap af : Addr) (es : Array DictEntry) (n : Nat) : Prop where
  OPERATORS : ∃ u, mg "OPERATORS" = some u ∧ RelV (.ref ap) u
  FUNCTIONS : ∃ u, mg "FUNCTIONS" = some u ∧ RelV (.ref af) u
  NOT : ∃ u, mg "NOT" = some u ∧ RelV (.int 3) u
  CLOSEST : ∃ u, mg "CLOSEST" = some u ∧ RelV (.int 7) u
  fnT : ∀ H : Hp, SqT K H af [.str "missing", .str "length", .str "starts", .str "coalesce", .str "if"]
  OPERATORS_D : KDict K w ap es n
  hit : ∀ o : Bop, ∃ t : Addr, PySem.W.nsIn K ap o.w = some (some (.ref t)) ∧ ∀ H : Hp, SqT K H t [.int o.lv, .int o.lf, .int o.rt]
  miss : ∀ x ∈ (["not", "negate", "missing", "length", "starts", "coalesce", "if", "number", "text", "truth", "null", "name", "field"] : List String), PySem.W.nsIn K ap (Str.ofString x) = some none
def sp_close (K : PySem.W.Frag) : Sp := fun vs H Q _ => ∃ (p : V) (e : Ex), vs = [p] ∧ Dp K H p e.d ∧ Q (.int ((min e.lev 7 : Nat) : Int)) H
def sp_leaf (K : PySem.W.Frag) : Sp := fun vs H Q _ => ∃ (p : V) (e : Ex), vs = [p] ∧ Dp K H p e.d ∧ e.ok ∧ e.isl = true ∧ ∀ H', Same H H' → Q (.str ⟨e.pr.toArray⟩) H'
def sp_pr (K : PySem.W.Frag) (n : Nat) : Sp := fun vs H Q _ => ∃ (p : V) (e : Ex), vs = [p] ∧ Dp K H p e.d ∧ e.ok ∧ e.ht < n ∧ e.ht ≤ 8 ∧ ∀ H', Same H H' → Q (.str ⟨e.pr.toArray⟩) H'
def sp_in (K : PySem.W.Frag) (n : Nat) : Sp := fun vs H Q _ => ∃ (p : V) (e : Ex) (k : Nat), vs = [p, .int (k : Nat)] ∧ Dp K H p e.d ∧ e.ok ∧ e.ht < n ∧ e.ht ≤ 8 ∧ k ≤ 7 ∧ ∀ H', Same H H' → Q (.str ⟨(par (decide (e.lev < k)) e.pr).toArray⟩) H'
section
variable {P : Program} {w : World} {K : PySem.W.Frag} {mg : Str → Option Value} {base : Heap}
/-- a tuple's word and the rest -/
theorem dp_tup {H : Hp} {p : V} {ds : List PyData} (h : Dp K H p (.tuple ds)) : ∃ a xs, p = .ref a ∧ SqT K H a xs ∧ DpAll K H xs ds := by
  cases h with
  | tup hs ha => exact ⟨_, _, rfl, hs, ha⟩
theorem dp_two {H : Hp} {xs : List V} {s : Str} {d : PyData} (h : DpAll K H xs [.str s, d]) : ∃ v, xs = [.str s, v] ∧ Dp K H v d := by
  cases h with
  | cons h1 h2 =>
    cases h1
    cases h2 with
    | cons h3 h4 =>
      cases h4
      exact ⟨_, rfl, h3⟩
theorem dp_three {H : Hp} {xs : List V} {s : Str} {d e : PyData} (h : DpAll K H xs [.str s, d, e]) : ∃ v u, xs = [.str s, v, u] ∧ Dp K H v d ∧ Dp K H u e := by
  cases h with
  | cons h1 h2 =>
    cases h1
    cases h2 with
    | cons h3 h4 =>
      cases h4 with
      | cons h5 h6 =>
        cases h6
        exact ⟨_, _, rfl, h3, h5⟩
theorem dp_four {H : Hp} {xs : List V} {s : Str} {d e f : PyData} (h : DpAll K H xs [.str s, d, e, f]) : ∃ v u t, xs = [.str s, v, u, t] ∧ Dp K H v d ∧ Dp K H u e ∧ Dp K H t f := by
  cases h with
  | cons h1 h2 =>
    cases h1
    obtain ⟨v, h⟩ : ∃ v, True := ⟨V.non, trivial⟩
    cases h2 with
    | cons h3 h4 =>
      cases h4 with
      | cons h5 h6 =>
        cases h6 with
        | cons h7 h8 =>
          cases h8
          exact ⟨_, _, _, rfl, h3, h5, h7⟩
theorem dp_cons {H : Hp} {xs : List V} {s : Str} {ds : List PyData} (h : DpAll K H xs (.str s :: ds)) : ∃ vs, xs = .str s :: vs ∧ DpAll K H vs ds := by
  cases h with
  | cons h1 h2 =>
    cases h1
    exact ⟨_, rfl, h2⟩
theorem ex_word {H : Hp} {p : V} {e : Ex} (h : Dp K H p e.d) : ∃ a ys, p = .ref a ∧ SqT K H a (.str e.wd :: ys) := by
  have key : ∀ (s : Str) (ds : List PyData), Dp K H p (.tuple (.str s :: ds)) → ∃ a ys, p = .ref a ∧ SqT K H a (.str s :: ys) := fun s ds h => by
    obtain ⟨a, xs, rfl, hs, ha⟩ := dp_tup h
    cases ha with
    | cons h1 h2 =>
      cases h1
      exact ⟨_, _, rfl, hs⟩
  cases e <;> exact key _ _ h
theorem ok_close {f : Addr} {fd : FuncData} {ap af : Addr} {es : Array DictEntry} {n : Nat} (F : Fun K "closeness" "closeness" s_closeness f fd) (G : Gl K w mg ap af es n) : FnOk P w K mg base CX0 1 f fd ["expression"] (sp_close K) := by
  refine F.ok sc_closeness (fun vs H Q E h => ?_) (fun cdv A outer s H vs Q E hr h => ?_)
  · obtain ⟨p, e, rfl, _⟩ := h
    rfl
  · obtain ⟨p, e, rfl, he, q⟩ := h
    obtain ⟨a, ys, rfl, hs⟩ := ex_word he
    have at0 : atI (V.str e.wd :: ys) (0 : Int) = some (.str e.wd) := atI_nat (j := 0) rfl
    refine ⟨_, (pss_cons (ps_set (i := 1) sc_closeness.nd rfl (.inl rfl) (pe_ix (ix_tupK K) (pv 0) pe_int (fun _ _ => rfl)))
      (pss_cons (ps_if (pt_cmpR (op_in_kd G.OPERATORS_D) (pv 1) (C8.pe_gc (by rfl) G.OPERATORS) (by rfl)) (pss_one (ps_ret (pe_ix (ix_tupK K) (pe_ix ix_kdict (C8.pe_gc (by rfl) G.OPERATORS) (pv 1) (fun _ _ => rfl)) pe_int (fun _ _ => rfl)))) pss_nil)
      (pss_one (ps_ret (pe_ifExp (pt_cmpR op_eq (pv 1) pe_str (nomark _)) (C8.pe_gc (by rfl) G.NOT) (C8.pe_gc (by rfl) G.CLOSEST)))))), ?_⟩
    refine ⟨_, rfl, a, _, _, _, rfl, rfl, hs, at0, ?_⟩
    by_cases hb : ∃ o a b, e = .bin o a b
    · obtain ⟨o, x, y, rfl⟩ := hb
      obtain ⟨t, ht, hq⟩ := G.hit o
      refine ⟨_, rfl, _, _, rfl, rfl, ht, _, rfl, iteT ?_⟩
      refine ⟨_, rfl, ap, _, .ref t, rfl, rfl, ⟨es, n, .ref t, G.OPERATORS_D.at_, G.OPERATORS_D.lit, ht, rfl⟩, t, _, _, _, rfl, rfl, hq _, atI_nat (j := 0) rfl, ?_⟩
      have : min o.lv 7 = o.lv := by cases o <;> rfl
      show Q (.int o.lv) H
      have q : Q (.int ((min o.lv 7 : Nat) : Int)) H := q
      rw [this] at q
      exact q
    · have hm : PySem.W.nsIn K ap e.wd = some none := by
        cases e with
        | bin o x y => exact absurd ⟨o, x, y, rfl⟩ hb
        | num n => exact G.miss "number" (by decide)
        | text l => exact G.miss "text" (by decide)
        | truth b => exact G.miss "truth" (by decide)
        | null => exact G.miss "null" (by decide)
        | name l => exact G.miss "name" (by decide)
        | field l m => exact G.miss "field" (by decide)
        | neg a => exact G.miss "negate" (by decide)
        | nt a => exact G.miss "not" (by decide)
        | f1 m a => cases m; exact G.miss "length" (by decide); exact G.miss "missing" (by decide)
        | f2 m a b => cases m; exact G.miss "coalesce" (by decide); exact G.miss "starts" (by decide)
        | f3 a b c => exact G.miss "if" (by decide)
      refine ⟨_, rfl, _, _, rfl, rfl, hm, _, rfl, iteF ?_⟩
      refine ⟨_, rfl, rfl, _, rfl, ?_⟩
      rw [wd_not]
      cases e with
      | bin o x y => exact absurd ⟨o, x, y, rfl⟩ hb
      | nt a => exact iteT q
      | _ => exact iteF q
theorem num_log {n : Nat} (h : n < 10 ^ 15) : ((n : Nat) : Int).natAbs.log2 < 1920 := by
  show n.log2 < 1920
  by_cases h0 : n = 0
  · subst h0
    decide
  · have : n.log2 < 50 := (Nat.log2_lt h0).mpr (by omega)
    omega
theorem num_S (n : Nat) : Str.ofString (toString ((n : Nat) : Int)) = ⟨(TL.numL n).toArray⟩ := SX.num_S n
theorem ok_leaf {f : Addr} {fd : FuncData} (F : Fun K "leaf_text" "leaf_text" s_leaf_text f fd) (M : Mg mg) : FnOk P w K mg base CX0 1 f fd ["expression"] (sp_leaf K) := by
  refine F.ok sc_leaf_text (fun vs H Q E h => ?_) (fun cdv A outer s H vs Q E hr h => ?_)
  · obtain ⟨p, e, rfl, _⟩ := h
    rfl
  · obtain ⟨p, e, rfl, he, ok, hl, q⟩ := h
    refine ⟨_, (pss_cons (ps_set (i := 1) sc_leaf_text.nd rfl (.inl rfl) (pe_ix (ix_tupK K) (pv 0) pe_int (fun _ _ => rfl)))
      (pss_consG (psg_if (ptg_cmp op_eq (pv 1) peg_str (nomark _)) (pss_one (ps_ret (pe_callTy call_str_int (by rfl) M.str (by decide +kernel) (pa_cons (pe_ix (ix_tupK K) (pv 0) pe_int (fun _ _ => rfl)) pa_nil)))) pss_nil) (psst_cons (pst_if (pt_cmpR op_eq (pv 1) pe_str (nomark _)) (psst_cons (pst_set (i := 2) sc_leaf_text.nd rfl (.inl rfl) (pet_rpl (pe_ix (ix_tupK K) (pv 0) pe_int (fun _ _ => rfl)) (by decide))) (PSsT.of (pss_one (ps_ret (pe_joined (.cons pe_str (.cons (pe_fmt (pv 2)) (.cons pe_str .nil)))))))) (PSsT.of pss_nil)) (PSsT.of (pss_cons (ps_if (pt_cmpR op_eq (pv 1) pe_str (nomark _)) (pss_one (ps_ret (pe_ifExp (pt_cmpR op_eq (pe_ix (ix_tupK K) (pv 0) pe_int (fun _ _ => rfl)) pe_int (nomark _)) pe_str pe_str))) pss_nil)
      (pss_cons (ps_if (pt_cmpR op_eq (pv 1) pe_str (nomark _)) (pss_one (ps_ret pe_str)) pss_nil)
      (pss_one (ps_ret (pe_join pe_str (pe_slice sl_tup (pv 0) (po_some pe_int) po_none)))))))))), ?_⟩
    cases e with
    | num n =>
      obtain ⟨a, xs, rfl, hs, ha⟩ := dp_tup he
      obtain ⟨v, rfl, hv⟩ := dp_two ha
      cases hv
      refine ⟨_, rfl, a, _, _, _, rfl, rfl, hs, atI_nat (j := 0) rfl, ?_⟩
      refine ⟨_, rfl, rfl, _, rfl, iteT ?_⟩
      refine ⟨_, rfl, a, _, _, _, rfl, rfl, hs, atI_nat (j := 1) rfl, _, rfl, num_log ok, ?_⟩
      rw [num_S]
      exact q H (Same.refl H)
    | text l =>
      obtain ⟨a, xs, rfl, hs, ha⟩ := dp_tup he
      obtain ⟨v, rfl, hv⟩ := dp_two ha
      cases hv
      have hd := dbl_len l
      have ol : l.length ≤ 100 := ok.1
      refine ⟨_, rfl, a, _, _, _, rfl, rfl, hs, atI_nat (j := 0) rfl, ?_⟩
      refine ⟨_, rfl, rfl, _, rfl, iteF ?_⟩
      refine ⟨_, rfl, rfl, _, rfl, iteT ?_⟩
      refine ⟨_, rfl, a, _, _, _, rfl, rfl, hs, atI_nat (j := 1) rfl, ⟨l.toArray⟩, rfl, by rw [S_len']; show l.length + (l.length + 1) * 2 ≤ 16777216; omega, ?_⟩
      rw [show Txt.replace ⟨l.toArray⟩ (Str.ofString "'") (Str.ofString "''") = ⟨(dbl l).toArray⟩ by
        have := rpl_S l [39] [39, 39] (by decide) (by decide)
        rw [dbl_rpl l []] at this
        exact this]
      refine ⟨_, rfl, by decide, ?_⟩
      refine ⟨_, rfl, .inl ⟨_, rfl, by rw [S_len']; exact Nat.le_trans (m := 10000) (by omega) (by decide), _, rfl, by
        rw [show Str.empty ++ Str.ofString "'" ++ (⟨(dbl l).toArray⟩ : Str) = ⟨(39 :: dbl l).toArray⟩ from SX.S_cat [39] (dbl l), S_len', List.length_cons]
        exact Nat.le_trans (m := 10000) (by omega) (by decide), ?_⟩⟩
      rw [show Str.empty ++ Str.ofString "'" ++ (⟨(dbl l).toArray⟩ : Str) = ⟨(39 :: dbl l).toArray⟩ from SX.S_cat [39] (dbl l)]
      refine ⟨_, rfl, by
        rw [show (⟨(39 :: dbl l).toArray⟩ : Str) ++ Str.ofString "'" = ⟨(39 :: dbl l ++ [39]).toArray⟩ from SX.S_cat _ _, S_len', List.length_append, List.length_cons]
        exact Nat.le_trans (m := 10000) (by show _ + 1 ≤ 10000; omega) (by decide), ?_⟩
      rw [show (⟨(39 :: dbl l).toArray⟩ : Str) ++ Str.ofString "'" = ⟨(39 :: dbl l ++ [39]).toArray⟩ from SX.S_cat _ _]
      exact q H (Same.refl H)
    | truth b =>
      obtain ⟨a, xs, rfl, hs, ha⟩ := dp_tup he
      obtain ⟨v, rfl, hv⟩ := dp_two ha
      cases hv
      refine ⟨_, rfl, a, _, _, _, rfl, rfl, hs, atI_nat (j := 0) rfl, ?_⟩
      refine ⟨_, rfl, rfl, _, rfl, iteF ?_⟩
      refine ⟨_, rfl, rfl, _, rfl, iteF ?_⟩
      refine ⟨_, rfl, rfl, _, rfl, iteT ?_⟩
      refine ⟨_, rfl, a, _, _, _, rfl, rfl, hs, atI_nat (j := 1) rfl, rfl, _, rfl, ?_⟩
      cases b
      · exact iteF (q H (Same.refl H))
      · exact iteT (q H (Same.refl H))
    | null =>
      obtain ⟨a, xs, rfl, hs, ha⟩ := dp_tup he
      cases ha with
      | cons h1 h2 =>
        cases h1
        cases h2
        refine ⟨_, rfl, a, _, _, _, rfl, rfl, hs, atI_nat (j := 0) rfl, ?_⟩
        refine ⟨_, rfl, rfl, _, rfl, iteF ?_⟩
        refine ⟨_, rfl, rfl, _, rfl, iteF ?_⟩
        refine ⟨_, rfl, rfl, _, rfl, iteF ?_⟩
        refine ⟨_, rfl, rfl, _, rfl, iteT ?_⟩
        exact q H (Same.refl H)
    | name l =>
      obtain ⟨a, xs, rfl, hs, ha⟩ := dp_tup he
      obtain ⟨v, rfl, hv⟩ := dp_two ha
      cases hv
      have ol : l.length ≤ 21 := ok
      refine ⟨_, rfl, a, _, _, _, rfl, rfl, hs, atI_nat (j := 0) rfl, ?_⟩
      refine ⟨_, rfl, rfl, _, rfl, iteF ?_⟩
      refine ⟨_, rfl, rfl, _, rfl, iteF ?_⟩
      refine ⟨_, rfl, rfl, _, rfl, iteF ?_⟩
      refine ⟨_, rfl, rfl, _, rfl, iteF ?_⟩
      refine ⟨⟨_, rfl⟩, _, rfl, _, rfl, a, _, rfl, hs, by show ¬ (1 = 0 ∧ _); exact fun z => absurd z.1 (by decide), fun D nD => ?_⟩
      refine ⟨_, D, [⟨l.toArray⟩], rfl, rfl, .inr (.of upd_same), ?_, ?_⟩
      · show (⟨l.toArray⟩ : Str).length + 0 + 1 * 1 ≤ 16777216
        rw [S_len']
        omega
      · have := q _ (same_upd nD (o := .tup [.str ⟨l.toArray⟩]))
        have e : Txt.join (Str.ofString ".") [⟨l.toArray⟩] = ⟨l.toArray⟩ := SX.join_S [46] [l]
        rw [e]
        exact this
    | field l m =>
      obtain ⟨a, xs, rfl, hs, ha⟩ := dp_tup he
      obtain ⟨v, u, rfl, hv, hu⟩ := dp_three ha
      cases hv
      cases hu
      have ol : l.length ≤ 21 := ok.1
      have om : m.length ≤ 21 := ok.2
      refine ⟨_, rfl, a, _, _, _, rfl, rfl, hs, atI_nat (j := 0) rfl, ?_⟩
      refine ⟨_, rfl, rfl, _, rfl, iteF ?_⟩
      refine ⟨_, rfl, rfl, _, rfl, iteF ?_⟩
      refine ⟨_, rfl, rfl, _, rfl, iteF ?_⟩
      refine ⟨_, rfl, rfl, _, rfl, iteF ?_⟩
      refine ⟨⟨_, rfl⟩, _, rfl, _, rfl, a, _, rfl, hs, by show ¬ (1 = 0 ∧ _); exact fun z => absurd z.1 (by decide), fun D nD => ?_⟩
      refine ⟨_, D, [⟨l.toArray⟩, ⟨m.toArray⟩], rfl, rfl, .inr (.of upd_same), ?_, ?_⟩
      · show (⟨l.toArray⟩ : Str).length + ((⟨m.toArray⟩ : Str).length + 0) + 2 * 1 ≤ 16777216
        rw [S_len', S_len']
        omega
      · have := q _ (same_upd nD (o := .tup [.str ⟨l.toArray⟩, .str ⟨m.toArray⟩]))
        have e : Txt.join (Str.ofString ".") [⟨l.toArray⟩, ⟨m.toArray⟩] = ⟨(l ++ 46 :: m).toArray⟩ := SX.join_S [46] [l, m]
        rw [e]
        exact this
    | _ => cases hl
end
/-! f-strings, step by step -/
theorem js_f {ts : List TE} {σ : L2.St} {H : Hp} {Q : Str → Hp → Prop} {L l : List Nat} {R : Prop} (hl : (L ++ l).length ≤ 5000000) (k : tJs ts ⟨(L ++ l).toArray⟩ σ H Q) :
    (∃ y : Str, V.str ⟨l.toArray⟩ = .str y ∧ y.length ≤ sizeLine ∧ ∃ y' : Str, V.str y = .str y' ∧ ((⟨L.toArray⟩ : Str) ++ y').length ≤ sizeLine ∧ tJs ts ((⟨L.toArray⟩ : Str) ++ y') σ H Q) ∨ R := by
  have e : (⟨L.toArray⟩ : Str) ++ ⟨l.toArray⟩ = ⟨(L ++ l).toArray⟩ := SX.S_cat L l
  have hs : (5000000 : Nat) ≤ sizeLine := by decide
  refine .inl ⟨_, rfl, ?_, _, rfl, ?_, ?_⟩
  · rw [S_len']
    rw [List.length_append] at hl
    omega
  · rw [e, S_len']
    exact Nat.le_trans hl hs
  · rw [e]
    exact k
theorem js_c {ts : List TE} {σ : L2.St} {H : Hp} {Q : Str → Hp → Prop} {L : List Nat} {x : Str} (l : List Nat) (hx : x = ⟨l.toArray⟩) (hl : (L ++ l).length ≤ 5000000) (k : tJs ts ⟨(L ++ l).toArray⟩ σ H Q) : tJs (tC (.str x) :: ts) ⟨L.toArray⟩ σ H Q := by
  subst hx
  have e : (⟨L.toArray⟩ : Str) ++ ⟨l.toArray⟩ = ⟨(L ++ l).toArray⟩ := SX.S_cat L l
  have hs : (5000000 : Nat) ≤ sizeLine := by decide
  refine ⟨_, rfl, ?_, ?_⟩
  · rw [e, S_len']
    exact Nat.le_trans hl hs
  · rw [e]
    exact k
/-! calls of functions -/
def Ex.isf : Ex → Bool
  | .f1 _ _ => true | .f2 _ _ _ => true | .f3 _ _ _ => true | _ => false
def Ex.fargs : Ex → List Ex
  | .f1 _ a => [a] | .f2 _ a b => [a, b] | .f3 a b c => [a, b, c] | _ => []
theorem fn_d {e : Ex} (h : e.isf = true) : e.d = .tuple (.str e.wd :: e.fargs.map Ex.d) := by cases e <;> first | rfl | cases h
theorem fn_pr {e : Ex} (h : e.isf = true) : e.pr = e.wd.cps.toList ++ 40 :: (TL.joinL [44, 32] (e.fargs.map Ex.pr) ++ [41]) := by
  cases e with
  | f1 m a =>
    rfl
  | f2 m a b =>
    show codes (f2s m) ++ 40 :: (a.pr ++ 44 :: 32 :: (b.pr ++ [41])) = codes (f2s m) ++ 40 :: ((a.pr ++ ([44, 32] ++ b.pr)) ++ [41])
    simp
  | f3 a b c =>
    show codes "if" ++ 40 :: (a.pr ++ 44 :: 32 :: (b.pr ++ 44 :: 32 :: (c.pr ++ [41]))) = codes "if" ++ 40 :: ((a.pr ++ ([44, 32] ++ (b.pr ++ ([44, 32] ++ c.pr)))) ++ [41])
    simp
  | _ => cases h
theorem fn_all {e : Ex} (h : e.isf = true) (ok : e.ok) : ∀ x ∈ e.fargs, x.ok ∧ x.ht < e.ht := by
  cases e with
  | f1 m a =>
    intro x hx
    rw [List.mem_singleton.mp hx]
    exact ⟨ok, Nat.lt_succ_self _⟩
  | f2 m a b =>
    intro x hx
    rcases List.mem_cons.mp hx with rfl | hx
    · exact ⟨ok.1, by show x.ht < max x.ht b.ht + 1; omega⟩
    · rw [List.mem_singleton.mp hx]
      exact ⟨ok.2, by show b.ht < max a.ht b.ht + 1; omega⟩
  | f3 a b c =>
    intro x hx
    rcases List.mem_cons.mp hx with rfl | hx
    · exact ⟨ok.1, by show x.ht < max x.ht (max b.ht c.ht) + 1; omega⟩
    · rcases List.mem_cons.mp hx with rfl | hx
      · exact ⟨ok.2.1, by show x.ht < max a.ht (max x.ht c.ht) + 1; omega⟩
      · rw [List.mem_singleton.mp hx]
        exact ⟨ok.2.2, by show c.ht < max a.ht (max b.ht c.ht) + 1; omega⟩
  | _ => cases h
theorem fn_few {e : Ex} (h : e.isf = true) : 1 ≤ e.fargs.length ∧ e.fargs.length ≤ 3 := by
  cases e with
  | f1 m a => exact ⟨Nat.le_refl 1, (by decide : 1 ≤ 3)⟩
  | f2 m a b => exact ⟨(by decide : 1 ≤ 2), (by decide : 2 ≤ 3)⟩
  | f3 a b c => exact ⟨(by decide : 1 ≤ 3), (by decide : 3 ≤ 3)⟩
  | _ => cases h
theorem fn_wd {e : Ex} (h : e.isf = true) : e.wd.length ≤ 8 ∧ (e.wd = "missing" ∨ e.wd = "length" ∨ e.wd = "starts" ∨ e.wd = "coalesce" ∨ e.wd = "if") := by
  cases e with
  | f1 m a => cases m; exact ⟨(by decide : (Str.ofString "length").length ≤ 8), .inr (.inl rfl)⟩; exact ⟨(by decide : (Str.ofString "missing").length ≤ 8), .inl rfl⟩
  | f2 m a b => cases m; exact ⟨(by decide : (Str.ofString "coalesce").length ≤ 8), .inr (.inr (.inr (.inl rfl)))⟩; exact ⟨(by decide : (Str.ofString "starts").length ≤ 8), .inr (.inr (.inl rfl))⟩
  | f3 a b c => exact ⟨(by decide : (Str.ofString "if").length ≤ 8), .inr (.inr (.inr (.inr rfl)))⟩
  | _ => cases h
theorem sum_pr : ∀ es : List Ex, (∀ x ∈ es, x.ok ∧ x.ht ≤ 8) → ((es.map fun e => (⟨e.pr.toArray⟩ : Str)).map (·.length)).sum ≤ es.length * 1500000
  | [], _ => Nat.le_refl _
  | e :: es, h => by
    have h1 := h e (List.mem_cons_self ..)
    have := pr_le h1.1 h1.2
    have := sum_pr es fun x hx => h x (List.mem_cons_of_mem _ hx)
    rw [List.map_cons, List.map_cons, List.sum_cons, S_len', List.length_cons]
    omega
theorem join_pr (es : List Ex) : Txt.join (Str.ofString ", ") (es.map fun e => (⟨e.pr.toArray⟩ : Str)) = ⟨(TL.joinL [44, 32] (es.map Ex.pr)).toArray⟩ := by
  have := SX.join_S [44, 32] (es.map Ex.pr)
  rw [List.map_map] at this
  exact this
theorem no_hit {e : Ex} (hb : ∀ o a b, e ≠ .bin o a b) {K : PySem.W.Frag} {w : World} {mg : Str → Option Value} {ap af : Addr} {es : Array DictEntry} {n : Nat} (G : Gl K w mg ap af es n) : PySem.W.nsIn K ap e.wd = some none := by
  cases e with
  | bin o x y => exact absurd rfl (hb o x y)
  | num n => exact G.miss "number" (by decide)
  | text l => exact G.miss "text" (by decide)
  | truth b => exact G.miss "truth" (by decide)
  | null => exact G.miss "null" (by decide)
  | name l => exact G.miss "name" (by decide)
  | field l m => exact G.miss "field" (by decide)
  | neg a => exact G.miss "negate" (by decide)
  | nt a => exact G.miss "not" (by decide)
  | f1 m a => cases m; exact G.miss "length" (by decide); exact G.miss "missing" (by decide)
  | f2 m a b => cases m; exact G.miss "coalesce" (by decide); exact G.miss "starts" (by decide)
  | f3 a b c => exact G.miss "if" (by decide)
section
variable {P : Program} {w : World} {K : PySem.W.Frag} {mg : Str → Option Value} {base : Heap}
theorem not_f (x : String) (h : inV (.str (Str.ofString x)) [.str "missing", .str "length", .str "starts", .str "coalesce", .str "if"] = false) : inV (.str (Str.ofString x)) [.str "missing", .str "length", .str "starts", .str "coalesce", .str "if"] = false := h
theorem ok_pr {f : Addr} {fd : FuncData} {ap af : Addr} {es : Array DictEntry} {m : Nat} (n : Nat) (F : Fun K "print_expression" "print_expression" s_print_expression f fd) (M : Mg mg) (G : Gl K w mg ap af es m)
    (c_print_expression : Cl P w K mg base (2 * n + 2) "print_expression" (sp_pr K n)) (c_inner_text : Cl P w K mg base (2 * n + 3) "inner_text" (sp_in K n)) (c_leaf_text : Cl P w K mg base 1 "leaf_text" (sp_leaf K)) : FnOk P w K mg base CX0 (2 * n + 4) f fd ["expression"] (sp_pr K (n + 1)) := by
  refine F.ok sc_print_expression (fun vs H Q E h => ?_) (fun cdv A outer s H vs Q E hr h => ?_)
  · obtain ⟨p, e, rfl, _⟩ := h
    rfl
  · obtain ⟨p, e, rfl, he, ok, hn, h8, q⟩ := h
    have hlen := pr_le ok h8
    refine ⟨_, (pss_cons (ps_set (i := 1) sc_print_expression.nd rfl (.inl rfl) (pe_ix (ix_tupK K) (pv 0) pe_int (fun _ _ => rfl)))
      (pss_cons (ps_if (pt_cmpR (op_in_kd G.OPERATORS_D) (pv 1) (C8.pe_gc (by rfl) G.OPERATORS) (by rfl)) (pss_cons (ps_asg (pe_ix ix_kdict (C8.pe_gc (by rfl) G.OPERATORS) (pv 1) (fun _ _ => rfl)) (pg_tup (by rfl) (pgs_cons (pg_name (i := 2) sc_print_expression.nd rfl (.inl rfl)) (pgs_cons (pg_name (i := 3) sc_print_expression.nd rfl (.inl rfl)) (pgs_cons (pg_name (i := 4) sc_print_expression.nd rfl (.inl rfl)) pgs_nil)))))
      (pss_one (ps_ret (pe_joined (.cons (pe_fmt (pe_u c_inner_text hr (by first | decide | omega) (by rfl) (pa_cons (pe_ix (ix_tupK K) (pv 0) pe_int (fun _ _ => rfl)) (pa_cons (pv 3) pa_nil)))) (.cons pe_str (.cons (pe_fmt (pv 1)) (.cons pe_str (.cons (pe_fmt (pe_u c_inner_text hr (by first | decide | omega) (by rfl) (pa_cons (pe_ix (ix_tupK K) (pv 0) pe_int (fun _ _ => rfl)) (pa_cons (pv 4) pa_nil)))) .nil))))))))) pss_nil)
      (pss_cons (ps_if (pt_cmpR op_eq (pv 1) pe_str (nomark _)) (pss_one (ps_ret (pe_joined (.cons pe_str (.cons (pe_fmt (pe_u c_inner_text hr (by first | decide | omega) (by rfl) (pa_cons (pe_ix (ix_tupK K) (pv 0) pe_int (fun _ _ => rfl)) (pa_cons (C8.pe_gc (by rfl) G.NOT) pa_nil)))) .nil))))) pss_nil)
      (pss_cons (ps_if (pt_cmpR op_eq (pv 1) pe_str (nomark _)) (pss_one (ps_ret (pe_joined (.cons pe_str (.cons (pe_fmt (pe_u c_inner_text hr (by first | decide | omega) (by rfl) (pa_cons (pe_ix (ix_tupK K) (pv 0) pe_int (fun _ _ => rfl)) (pa_cons (C8.pe_gc (by rfl) G.CLOSEST) pa_nil)))) .nil))))) pss_nil)
      (pss_cons (ps_if (pt_cmpR (inK K) (pv 1) (C8.pe_gc (by rfl) G.FUNCTIONS) (by rfl)) (pss_cons (ps_set (i := 5) sc_print_expression.nd rfl (.inl rfl) (pe_join pe_str (pe_lc (own := [("part", 6)]) (g := gName 6) (tt := tYes) rfl sc_print_expression.nd (pi_tup (pe_slice sl_tup (pv 0) (po_some pe_int) po_none)) (blkOk_by (N := N_print_expression) (sc := defScope s_print_expression) (by decide +kernel)) (fun _ _ _ _ _ => (pg_name (i := 6) sc_print_expression.nd rfl (.inl rfl))) (fun _ _ _ _ _ => pts_nil) (fun _ _ _ _ _ => (pe_u c_print_expression hr (by first | decide | omega) (by rfl) (pa_cons (pv 6) pa_nil))))))
      (pss_one (ps_ret (pe_joined (.cons (pe_fmt (pv 1)) (.cons pe_str (.cons (pe_fmt (pv 5)) (.cons pe_str .nil)))))))) pss_nil)
      (pss_one (ps_ret (pe_u c_leaf_text hr (by first | decide | omega) (by rfl) (pa_cons (pv 0) pa_nil))))))))), ?_⟩
    by_cases hb : ∀ o a b, e ≠ .bin o a b
    · have hm := no_hit hb G
      by_cases hf : e.isf = true
      · rw [fn_d hf] at he
        obtain ⟨a, xs, rfl, hs, ha⟩ := dp_tup he
        obtain ⟨vs, rfl, h2⟩ := dp_cons ha
        obtain ⟨few1, few3⟩ := fn_few hf
        have hall := fn_all hf ok
        obtain ⟨wl, ww⟩ := fn_wd hf
        have w1 : decide (V.str e.wd = V.str "not") = false := by rw [wd_not]; cases e <;> first | rfl | cases hf
        have w2 : decide (V.str e.wd = V.str "negate") = false := by rw [wd_neg]; cases e <;> first | rfl | cases hf
        refine ⟨_, rfl, a, _, _, _, rfl, rfl, hs, atI_nat (j := 0) rfl, ?_⟩
        refine ⟨_, rfl, _, _, rfl, rfl, hm, _, rfl, iteF ?_⟩
        refine ⟨_, rfl, rfl, _, rfl, ?_⟩
        rw [w1]
        refine iteF ⟨_, rfl, rfl, _, rfl, ?_⟩
        rw [w2]
        refine iteF ?_
        have hin : inV (.str e.wd) [.str "missing", .str "length", .str "starts", .str "coalesce", .str "if"] = true := by
          rcases ww with z | z | z | z | z <;> rw [z] <;> rfl
        refine ⟨_, rfl, af, _, rfl, .inr (G.fnT H), rfl, rfl, _, rfl, ?_⟩
        rw [if_neg Bool.false_ne_true, hin]
        refine iteT ?_
        refine ⟨⟨_, rfl⟩, _, rfl, _, rfl, a, _, rfl, hs, by show ¬ (1 = 0 ∧ _); exact fun z => absurd z.1 (by decide), fun D1 nD1 => ?_⟩
        have hvs : vs.length = e.fargs.length := by rw [DpAll.len h2, List.length_map]
        have hcut : cutV (V.str e.wd :: vs) (some 1) none = vs := by
          show ((V.str e.wd :: vs).drop 1).take (vs.length + 1 - 1) = vs
          simp
        rw [hcut]
        have s1 := same_upd nD1 (o := .tup vs)
        have hT : SqT K (upd H D1 (.tup vs)) D1 vs := .inl (.inl upd_same)
        refine ⟨D1, rfl, ⟨_, hT⟩, fun D nD => ?_⟩
        refine lc_tup (K := K) (a := D1) (xs := vs) (fun i Hi => Same (upd H D1 (.tup vs)) Hi ∧ Hi D = some (.lst (((e.fargs.take i).map fun e => (⟨e.pr.toArray⟩ : Str)).map V.str))) ⟨same_upd nD, upd_same⟩ (fun i Hi _ hp => SqT.ext hp.1 hT) (fun i x Hi hx hp => ?_) (fun Hn hp => ?_)
        · obtain ⟨si, eD⟩ := hp
          have hi : i < vs.length := (List.getElem?_eq_some_iff.mp hx).1
          have hie : i < e.fargs.length := by omega
          obtain ⟨x', hx', dx⟩ := DpAll.get (i := i) (d := (e.fargs[i]).d) h2 (by rw [List.getElem?_map, List.getElem?_eq_getElem hie]; rfl)
          obtain rfl : x = x' := Option.some.inj (hx.symm.trans hx')
          obtain ⟨xok, xht⟩ := hall _ (List.getElem_mem hie)
          refine ⟨rfl, ?_⟩
          refine ⟨_, rfl, x, e.fargs[i], rfl, Dp.ext (s1.trans si) _ _ dx, xok, by omega, by omega, fun H' s' => ?_⟩
          refine ⟨_, s' _ _ eD, ?_, ?_, ?_⟩
          · rw [List.length_map, List.length_map, List.length_take]
            exact Nat.lt_of_lt_of_le (m := 1001) (by omega) (by decide)
          · intro b o z
            have nb : b ≠ D := ne_of_none z nD
            rw [upd_ne nb]
            exact s' _ _ (si _ _ z)
          · rw [upd_same, List.take_add_one, List.getElem?_eq_getElem hie, List.map_append, List.map_append]
            rfl
        · obtain ⟨sn, eD⟩ := hp
          rw [hvs, List.take_length] at eD
          have hsum := sum_pr e.fargs fun x hx => ⟨(hall x hx).1, by have := (hall x hx).2; omega⟩
          refine ⟨_, D, _, rfl, rfl, .inl (.of eD), ?_, ?_⟩
          · rw [List.length_map]
            show _ + e.fargs.length * 2 ≤ 16777216
            omega
          · rw [join_pr]
            have hp := fn_pr hf
            have hl := congrArg List.length hp
            rw [List.length_append, List.length_cons, List.length_append, List.length_singleton] at hl
            have hw : (⟨e.wd.cps.toList.toArray⟩ : Str) = e.wd := SX.S_tl e.wd
            have hwl : e.wd.cps.toList.length = e.wd.length := Array.length_toList
            refine ⟨_, rfl, ?_⟩
            rw [← hw]
            refine js_f (L := []) (by rw [List.nil_append]; omega) ?_
            refine js_c (L := [] ++ e.wd.cps.toList) [40] rfl (by rw [List.length_append, List.nil_append]; show _ + 1 ≤ _; omega) ?_
            refine ⟨_, rfl, js_f (L := [] ++ e.wd.cps.toList ++ [40]) (by rw [List.length_append, List.length_append, List.nil_append]; show _ + 1 + _ ≤ _; omega) ?_⟩
            refine js_c (L := [] ++ e.wd.cps.toList ++ [40] ++ _) [41] rfl (by rw [List.length_append, List.length_append, List.length_append, List.nil_append]; show _ + 1 + _ + 1 ≤ _; omega) ?_
            have fin := q Hn ((s1.trans sn))
            rw [hp] at fin
            have he2 : [] ++ e.wd.cps.toList ++ [40] ++ TL.joinL [44, 32] (e.fargs.map Ex.pr) ++ [41] = e.wd.cps.toList ++ 40 :: (TL.joinL [44, 32] (e.fargs.map Ex.pr) ++ [41]) := by simp
            rw [← he2] at fin
            exact fin
      · by_cases hl : e.isl = true
        · have w1 : decide (V.str e.wd = V.str "not") = false := by rw [wd_not]; cases e <;> first | rfl | cases hl
          have w2 : decide (V.str e.wd = V.str "negate") = false := by rw [wd_neg]; cases e <;> first | rfl | cases hl
          have w3 : inV (.str e.wd) [.str "missing", .str "length", .str "starts", .str "coalesce", .str "if"] = false := by
            cases e with
            | num n => exact not_f "number" (by decide +kernel)
            | text n => exact not_f "text" (by decide +kernel)
            | truth n => exact not_f "truth" (by decide +kernel)
            | null => exact not_f "null" (by decide +kernel)
            | name n => exact not_f "name" (by decide +kernel)
            | field n m => exact not_f "field" (by decide +kernel)
            | _ => cases hl
          obtain ⟨a, ys, rfl, hs⟩ := ex_word he
          refine ⟨_, rfl, a, _, _, _, rfl, rfl, hs, atI_nat (j := 0) rfl, ?_⟩
          refine ⟨_, rfl, _, _, rfl, rfl, hm, _, rfl, iteF ?_⟩
          refine ⟨_, rfl, rfl, _, rfl, ?_⟩
          rw [w1]
          refine iteF ⟨_, rfl, rfl, _, rfl, ?_⟩
          rw [w2]
          refine iteF ⟨_, rfl, af, _, rfl, .inr (G.fnT H), rfl, rfl, _, rfl, ?_⟩
          rw [if_neg Bool.false_ne_true, w3]
          refine iteF ?_
          exact ⟨_, rfl, _, e, rfl, he, ok, hl, q⟩
        cases e with
        | bin o x y => exact absurd rfl (hb o x y)
        | f1 m a => exact absurd rfl hf
        | f2 m a b => exact absurd rfl hf
        | f3 a b c => exact absurd rfl hf
        | num n => exact absurd rfl hl
        | text n => exact absurd rfl hl
        | truth n => exact absurd rfl hl
        | null => exact absurd rfl hl
        | name n => exact absurd rfl hl
        | field n m => exact absurd rfl hl
        | nt x =>
          obtain ⟨a, xs, rfl, hs, ha⟩ := dp_tup he
          obtain ⟨v, rfl, hv⟩ := dp_two ha
          have hx : x.ht + 1 < n + 1 := hn
          have hx8 : x.ht + 1 ≤ 8 := h8
          have pl := par_len (decide (x.lev < 3)) x.pr
          have xl := pr_le (e := x) ok (by omega)
          refine ⟨_, rfl, a, _, _, _, rfl, rfl, hs, atI_nat (j := 0) rfl, ?_⟩
          refine ⟨_, rfl, _, _, rfl, rfl, hm, _, rfl, iteF ?_⟩
          refine ⟨_, rfl, rfl, _, rfl, iteT ?_⟩
          refine js_c (L := []) (codes "not ") (codes_S _) (by decide) ?_
          refine ⟨_, rfl, a, _, _, _, rfl, rfl, hs, atI_nat (j := 1) rfl, v, x, 3, rfl, hv, ok, by omega, by omega, by decide, fun H' s' => ?_⟩
          refine js_f (L := [] ++ codes "not ") (by rw [List.nil_append, List.length_append, show (codes "not ").length = 4 by decide]; omega) ?_
          exact q H' s'
        | neg x =>
          obtain ⟨a, xs, rfl, hs, ha⟩ := dp_tup he
          obtain ⟨v, rfl, hv⟩ := dp_two ha
          have hx : x.ht + 1 < n + 1 := hn
          have hx8 : x.ht + 1 ≤ 8 := h8
          have pl := par_len (decide (x.lev < 7)) x.pr
          have xl := pr_le (e := x) ok (by omega)
          refine ⟨_, rfl, a, _, _, _, rfl, rfl, hs, atI_nat (j := 0) rfl, ?_⟩
          refine ⟨_, rfl, _, _, rfl, rfl, hm, _, rfl, iteF ?_⟩
          refine ⟨_, rfl, rfl, _, rfl, iteF ?_⟩
          refine ⟨_, rfl, rfl, _, rfl, iteT ?_⟩
          refine js_c (L := []) [45] rfl (by decide) ?_
          refine ⟨_, rfl, a, _, _, _, rfl, rfl, hs, atI_nat (j := 1) rfl, v, x, 7, rfl, hv, ok, by omega, by omega, by decide, fun H' s' => ?_⟩
          refine js_f (L := [] ++ [45]) (by rw [List.nil_append, List.length_append]; show 1 + _ ≤ _; omega) ?_
          exact q H' s'
    · obtain ⟨o, x, y, rfl⟩ : ∃ o x y, e = .bin o x y := by
        cases e with
        | bin o x y => exact ⟨o, x, y, rfl⟩
        | _ => exact absurd (fun _ _ _ z => by cases z) hb
      obtain ⟨a, xs, rfl, hs, ha⟩ := dp_tup he
      obtain ⟨v, u, rfl, hv, hu⟩ := dp_three ha
      obtain ⟨t, ht, hq⟩ := G.hit o
      have hx : max x.ht y.ht + 1 < n + 1 := hn
      have hx8 : max x.ht y.ht + 1 ≤ 8 := h8
      have pl1 := par_len (decide (x.lev < o.lf)) x.pr
      have pl2 := par_len (decide (y.lev < o.rt)) y.pr
      have xl := pr_le (e := x) ok.1 (by omega)
      have yl := pr_le (e := y) ok.2 (by omega)
      have ol := o.sl
      refine ⟨_, rfl, a, _, _, _, rfl, rfl, hs, atI_nat (j := 0) rfl, ?_⟩
      refine ⟨_, rfl, _, _, rfl, rfl, ht, _, rfl, iteT ?_⟩
      refine ⟨_, rfl, ap, _, .ref t, rfl, rfl, ⟨es, m, .ref t, G.OPERATORS_D.at_, G.OPERATORS_D.lit, ht, rfl⟩, t, _, rfl, hq _, rfl, _, _, rfl, _, _, rfl, _, _, rfl, rfl, ?_⟩
      refine ⟨_, rfl, a, _, _, _, rfl, rfl, hs, atI_nat (j := 1) rfl, _, rfl, v, x, o.lf, rfl, hv, ok.1, by omega, by omega, by cases o <;> decide, fun H1 s1 => ?_⟩
      refine js_f (L := []) (by rw [List.nil_append]; omega) ?_
      refine js_c (L := [] ++ _) [32] rfl (by rw [List.length_append, List.nil_append]; show _ + 1 ≤ _; omega) ?_
      have ow : o.w = ⟨(codes o.s).toArray⟩ := codes_S _
      refine ⟨_, rfl, ?_⟩
      rw [ow]
      refine js_f (L := [] ++ _ ++ [32]) (by simp only [List.length_append, List.nil_append, List.length_singleton]; omega) ?_
      refine js_c (L := [] ++ _ ++ [32] ++ _) [32] rfl (by simp only [List.length_append, List.nil_append, List.length_singleton]; omega) ?_
      refine ⟨_, rfl, a, _, _, _, rfl, rfl, SqT.ext s1 hs, atI_nat (j := 2) rfl, _, rfl, u, y, o.rt, rfl, Dp.ext s1 _ _ hu, ok.2, by omega, by omega, by cases o <;> decide, fun H2 s2 => ?_⟩
      refine js_f (L := [] ++ _ ++ [32] ++ _ ++ [32]) (by simp only [List.length_append, List.nil_append, List.length_singleton]; omega) ?_
      have fin := q H2 (s1.trans s2)
      have e2 : (Ex.bin o x y).pr = [] ++ par (decide (x.lev < o.lf)) x.pr ++ [32] ++ codes o.s ++ [32] ++ par (decide (y.lev < o.rt)) y.pr := by
        show par _ _ ++ 32 :: (codes o.s ++ 32 :: par _ _) = _
        simp
      rw [e2] at fin
      exact fin
theorem ok_in {f : Addr} {fd : FuncData} (n : Nat) (F : Fun K "inner_text" "inner_text" s_inner_text f fd) (M : Mg mg)
    (c_print_expression : Cl P w K mg base (2 * n + 2) "print_expression" (sp_pr K n)) (c_closeness : Cl P w K mg base 1 "closeness" (sp_close K)) : FnOk P w K mg base CX0 (2 * n + 3) f fd ["expression", "least"] (sp_in K n) := by
  refine F.ok sc_inner_text (fun vs H Q E h => ?_) (fun cdv A outer s H vs Q E hr h => ?_)
  · obtain ⟨p, e, k, rfl, _⟩ := h
    rfl
  · obtain ⟨p, e, k, rfl, he, ok, hn, h8, hk, q⟩ := h
    have hlen := pr_le ok h8
    refine ⟨_, (pss_cons (ps_set (i := 2) sc_inner_text.nd rfl (.inl rfl) (pe_u c_print_expression hr (by first | decide | omega) (by rfl) (pa_cons (pv 0) pa_nil)))
      (pss_cons (ps_if (pt_cmpR op_lt (pe_u c_closeness hr (by first | decide | omega) (by rfl) (pa_cons (pv 0) pa_nil)) (pv 1) (nomark _)) (pss_one (ps_ret (pe_joined (.cons pe_str (.cons (pe_fmt (pv 2)) (.cons pe_str .nil)))))) pss_nil)
      (pss_one (ps_ret (pv 2))))), ?_⟩
    refine ⟨_, rfl, p, e, rfl, he, ok, hn, h8, fun H1 s1 => ?_⟩
    refine ⟨_, rfl, p, e, rfl, Dp.ext s1 _ _ he, ?_⟩
    have fin := q H1 s1
    refine ⟨_, rfl, _, _, rfl, rfl, _, rfl, ite2 (fun z => ?_) (fun z => ?_)⟩
    · have z1 : ((min e.lev 7 : Nat) : Int) < ((k : Nat) : Int) := of_decide_eq_true z
      have z2 : decide (e.lev < k) = true := decide_eq_true (by omega)
      rw [z2] at fin
      refine js_c (L := []) [40] rfl (by decide) ?_
      refine ⟨_, rfl, js_f (L := [] ++ [40]) (by rw [List.length_append, List.nil_append]; show 1 + _ ≤ _; omega) ?_⟩
      refine js_c (L := [] ++ [40] ++ e.pr) [41] rfl (by simp only [List.length_append, List.nil_append, List.length_singleton]; omega) ?_
      exact fin
    · have z1 : ¬ ((min e.lev 7 : Nat) : Int) < ((k : Nat) : Int) := fun y => z (decide_eq_true y)
      have z2 : decide (e.lev < k) = false := decide_eq_false (by omega)
      rw [z2] at fin
      exact ⟨_, rfl, fin⟩
/-- print_expression and inner_text, by the height -/
theorem cl_pr {fp fi : Addr} {dp di : FuncData} {ap af : Addr} {es : Array DictEntry} {m : Nat} (FP : Fun K "print_expression" "print_expression" s_print_expression fp dp) (FI : Fun K "inner_text" "inner_text" s_inner_text fi di) (M : Mg mg) (G : Gl K w mg ap af es m)
    (gp : mg "print_expression" = some (.ref fp)) (bp : Binds K dp ["expression"] []) (gi : mg "inner_text" = some (.ref fi)) (bi : Binds K di ["expression", "least"] [])
    (c_leaf_text : Cl P w K mg base 1 "leaf_text" (sp_leaf K)) (c_closeness : Cl P w K mg base 1 "closeness" (sp_close K)) : ∀ n, Cl P w K mg base (2 * n + 2) "print_expression" (sp_pr K n)
  | 0 => FnOk.cl (P := P) (w := w) (base := base) (FP.ok sc_print_expression (fun vs H Q E h => by obtain ⟨p, e, rfl, _⟩ := h; rfl) (fun cdv A outer s H vs Q E hr h => by obtain ⟨p, e, rfl, he, ok, hn, _⟩ := h; omega)) FP gp bp
  | n + 1 => FnOk.cl (ok_pr n FP M G (cl_pr FP FI M G gp bp gi bi c_leaf_text c_closeness n) (FnOk.cl (ok_in n FI M (cl_pr FP FI M G gp bp gi bi c_leaf_text c_closeness n) c_closeness) FI gi bi) c_leaf_text) FP gp bp
end

/-! ### the law's names, texts and numbers -/
def LAWL : List Nat := (Str.ofString "abcdefghijklmnopqrstuvwxyzABCDEFGHIJKLMNOPQRSTUVWXYZ_").cps.toList
def RESs : List String := ["table", "step", "int", "text", "truth", "from", "as", "left", "semi", "anti", "join", "on", "where", "group", "with", "select", "union", "except", "intersect", "count", "distinct", "sum", "min", "max", "or", "and", "not", "div", "mod", "null", "true", "false", "length", "missing", "starts", "coalesce", "if"]
def RES : List Str := RESs.map Str.ofString
def NameOk (l : List Nat) : Prop := ∃ c r, l = c :: r ∧ c ∈ LET ∧ (∀ x ∈ r, x ∈ LET ++ DIG) ∧ l.length ≤ 20
def sp_res : Sp := fun vs H Q _ => vs = [] ∧ ∀ H' p, Same H H' → H p = none → H' p = some (.lst (RES.map V.str)) → Q (.ref p) H'
def sp_name : Sp := fun vs H Q _ => ∃ (d c : Addr), vs = [.ref d] ∧ Dr H d c ∧ ∀ H' l, Fd d H H' → Dr H' d c → NameOk l → Q (.str ⟨l.toArray⟩) H'
def sp_string (CHS : List Nat) : Sp := fun vs H Q _ => ∃ (d c : Addr), vs = [.ref d] ∧ Dr H d c ∧ ∀ H' (l : List Nat), Fd d H H' → Dr H' d c → l.length ≤ 100 → (∀ x ∈ l, x ∈ CHS) → Q (.str ⟨l.toArray⟩) H'
def sp_quoted : Sp := fun vs H Q _ => ∃ (l : List Nat), vs = [.str ⟨l.toArray⟩] ∧ l.length ≤ 1000 ∧ Q (.str ⟨(39 :: (dbl l ++ [39])).toArray⟩) H
def sp_number : Sp := fun vs H Q _ => ∃ (d c : Addr), vs = [.ref d] ∧ Dr H d c ∧ ∀ H' (n : Nat), Fd d H H' → Dr H' d c → n < 10 ^ 15 → Q (.int (n : Int)) H'
theorem LAWL_in : ∀ c ∈ LAWL, c ∈ LET := by decide +kernel
theorem LAWL_len : LAWL.length = 53 := by decide +kernel
theorem DIG_len : DIG.length = 10 := by decide +kernel
theorem LAWL_S : Str.ofString "abcdefghijklmnopqrstuvwxyzABCDEFGHIJKLMNOPQRSTUVWXYZ_" = ⟨LAWL.toArray⟩ := (SX.S_tl _).symm
theorem res_len : ∀ x ∈ RES, x.length ≤ 9 := by decide +kernel
theorem res_in {l : List Nat} (h : inV (.str ⟨l.toArray⟩) (RES.map V.str) = true) : l.length ≤ 9 := by
  unfold inV at h
  rw [List.any_map, List.any_eq_true] at h
  obtain ⟨x, hx, he⟩ := h
  have e : x = ⟨l.toArray⟩ := eq_of_beq (show (x == ⟨l.toArray⟩) = true from he)
  have := res_len x hx
  rw [e, S_len'] at this
  exact this
theorem res_flat : (RES.map V.str).all flatV = true := by
  rw [List.all_map]
  exact List.all_eq_true.mpr fun x _ => rfl
section
variable {P : Program} {w : World} {K : PySem.W.Frag} {mg : Str → Option Value} {base : Heap}
theorem ok_res {f : Addr} {fd : FuncData} (F : Fun K "_law_reserved" "_law_reserved" s__law_reserved f fd) : FnOk P w K mg base CX0 1 f fd [] sp_res := by
  refine F.ok sc__law_reserved (fun vs H Q E h => ?_) (fun cdv A outer s H vs Q E hr h => ?_)
  · obtain ⟨rfl, _⟩ := h
    rfl
  · obtain ⟨rfl, q⟩ := h
    refine ⟨_, (pss_cons (ps_set (i := 0) sc__law_reserved.nd rfl (.inl rfl) (pe_lst (pa_cons pe_str (pa_cons pe_str (pa_cons pe_str (pa_cons pe_str (pa_cons pe_str (pa_cons pe_str (pa_cons pe_str (pa_cons pe_str (pa_cons pe_str (pa_cons pe_str (pa_cons pe_str (pa_cons pe_str (pa_cons pe_str (pa_cons pe_str pa_nil))))))))))))))))
      (pss_cons (ps_set (i := 0) sc__law_reserved.nd rfl (.inl rfl) (pe_op op_cat (pv 0) (pe_lst (pa_cons pe_str (pa_cons pe_str (pa_cons pe_str (pa_cons pe_str (pa_cons pe_str (pa_cons pe_str (pa_cons pe_str (pa_cons pe_str (pa_cons pe_str (pa_cons pe_str (pa_cons pe_str pa_nil))))))))))))))
      (pss_one (ps_ret (pe_op op_cat (pv 0) (pe_lst (pa_cons pe_str (pa_cons pe_str (pa_cons pe_str (pa_cons pe_str (pa_cons pe_str (pa_cons pe_str (pa_cons pe_str (pa_cons pe_str (pa_cons pe_str (pa_cons pe_str (pa_cons pe_str (pa_cons pe_str pa_nil)))))))))))))))))), ?_⟩
    refine ⟨by show 14 ≤ sizeLine; decide, fun p1 n1 => ?_⟩
    have s1 := same_upd n1 (o := .lst ((RES.take 14).map V.str))
    have e1 : (upd H p1 (.lst ((RES.take 14).map V.str))) p1 = some (.lst ((RES.take 14).map V.str)) := upd_same
    refine ⟨_, rfl, by show 11 ≤ sizeLine; decide, fun p2 n2 => ?_⟩
    have s2 := same_upd n2 (o := .lst (((RES.drop 14).take 11).map V.str))
    refine ⟨p1, p2, _, _, rfl, rfl, s2 _ _ e1, upd_same, by show 14 + 11 ≤ sizeLine; decide, fun p3 n3 => ?_⟩
    have s3 := same_upd n3 (o := .lst ((RES.take 25).map V.str))
    refine ⟨_, rfl, by show 12 ≤ sizeLine; decide, fun p4 n4 => ?_⟩
    have s4 := same_upd n4 (o := .lst ((RES.drop 25).map V.str))
    refine ⟨p3, p4, _, _, rfl, rfl, s4 _ _ upd_same, upd_same, by show 25 + 12 ≤ sizeLine; decide, fun p5 n5 => ?_⟩
    have s5 := same_upd n5 (o := .lst (RES.map V.str))
    have sa := ((s1.trans s2).trans s3).trans s4
    exact q _ p5 (sa.trans s5) (sa.free n5) upd_same
theorem ok_name {f : Addr} {fd : FuncData} (F : Fun K "_law_name" "_law_name" s__law_name f fd) (M : Mg mg) (c__law_next : Cl P w K mg base 1 "_law_next" sp_next) (c__law_reserved : Cl P w K mg base 1 "_law_reserved" sp_res) : FnOk P w K mg base CX0 2 f fd ["draw"] sp_name := by
  refine F.ok sc__law_name (fun vs H Q E h => ?_) (fun cdv A outer s H vs Q E hr h => ?_)
  · obtain ⟨d, c, rfl, _⟩ := h
    rfl
  · obtain ⟨d, c, rfl, dr, q⟩ := h
    obtain ⟨t, ht, hq⟩ : ∃ t, PSs (cxOf CX0 P w K mg base N__law_name "_law_name" (defScope s__law_name) f cdv A outer s H E).nox ((defBody s__law_name).drop 3) t ∧ ∀ (H1 : Hp) (size : Int), Fd d H H1 → Dr H1 d c → 0 ≤ size → size ≤ 19 → t { nx := fun _ H' => Q .non H', rt := Q } [some (.ref d), some (.str "abcdefghijklmnopqrstuvwxyzABCDEFGHIJKLMNOPQRSTUVWXYZ_"), some (.int size), none, none] H1 := by
      refine ⟨_, (pss_cons (ps_set (i := 3) sc__law_name.nd rfl (.inl rfl) (pe_ix ix_str (pv 1) (pe_u c__law_next hr (by first | decide | omega) (by rfl) (pa_cons (pv 0) (pa_cons pe_int pa_nil))) (fun _ _ => rfl)))
      (pss_cons (ps_for PassesOwn.never rfl (pi_range1 (by rfl) M.range (pa_cons (pv 2) pa_nil)) (pg_name (i := 4) sc__law_name.nd rfl (.inl rfl)) (pss_one (ps_set (i := 3) sc__law_name.nd rfl (.inl rfl) (pe_op op_add_str (pv 3) (pe_ix ix_str (pe_op op_add_str (pv 1) pe_str) (pe_u c__law_next hr (by first | decide | omega) (by rfl) (pa_cons (pv 0) (pa_cons pe_int pa_nil))) (fun _ _ => rfl))))))
      (pss_cons (ps_if (pt_cmpR (inK K) (pv 3) (pe_u0 c__law_reserved hr (by first | decide | omega) (by rfl)) (by rfl)) (pss_one (ps_ret (pe_op op_add_str (pv 3) pe_str))) pss_nil)
      (pss_one (ps_ret (pv 3)))))), fun H1 size f1 dr1 z0 z1 => ?_⟩
      refine ⟨_, rfl, _, rfl, d, c, 53, rfl, dr1, by decide, by decide, fun H2 r f2 _ dr2 r0 r1 => ?_⟩
      obtain ⟨k, rfl⟩ := Int.eq_ofNat_of_zero_le r0
      have hk : k < LAWL.length := by rw [LAWL_len]; omega
      rw [LAWL_S]
      refine ⟨_, _, LAWL[k], rfl, rfl, by rw [S_len', LAWL_len]; decide, atI_nat (show LAWL[k]? = _ from List.getElem?_eq_getElem hk), ?_⟩
      -- one sign more, size times
      refine ⟨_, rfl, _, rfl, by omega, by omega, ?_⟩
      refine for_range (lo := 0) (n := size.toNat) (fun i σ Hi => Fd d H Hi ∧ Dr Hi d c ∧ ∃ (r : List Nat) (z : Option V), σ = [some (.ref d), some (.str ⟨LAWL.toArray⟩), some (.int size), some (.str ⟨(LAWL[k] :: r).toArray⟩), z] ∧ r.length = i ∧ ∀ x ∈ r, x ∈ LET ++ DIG) ⟨f1.trans f2, dr2, [], none, rfl, rfl, fun _ h => by cases h⟩ (fun i σ Hi hi hp => ?_) (fun σ Hn hp => ?_)
      · obtain ⟨fi, di, r, z, rfl, hr1, hr2⟩ := hp
        refine ⟨_, rfl, _, rfl, _, _, rfl, rfl, by rw [S_len', LAWL_len]; decide, ?_⟩
        rw [DIG_S, show (⟨LAWL.toArray⟩ : Str) ++ ⟨DIG.toArray⟩ = ⟨(LAWL ++ DIG).toArray⟩ from SX.S_cat LAWL DIG]
        refine ⟨_, rfl, d, c, 63, rfl, di, by decide, by decide, fun H3 r3 f3 _ dr3 r30 r31 => ?_⟩
        obtain ⟨k3, rfl⟩ := Int.eq_ofNat_of_zero_le r30
        have hk3 : k3 < (LAWL ++ DIG).length := by rw [List.length_append, LAWL_len, DIG_len]; omega
        refine ⟨_, _, (LAWL ++ DIG)[k3], rfl, rfl, by rw [S_len', List.length_append, LAWL_len, DIG_len]; decide, atI_nat (show (LAWL ++ DIG)[k3]? = _ from List.getElem?_eq_getElem hk3), ?_⟩
        refine ⟨_, _, rfl, rfl, ?_, ?_⟩
        · rw [S_len', List.length_cons, hr1]
          exact Nat.le_trans (m := 100) (by show i + 1 + 1 ≤ 100; omega) (by decide)
        · rw [show (⟨(LAWL[k] :: r).toArray⟩ : Str) ++ ⟨#[(LAWL ++ DIG)[k3]]⟩ = ⟨((LAWL[k] :: r) ++ [(LAWL ++ DIG)[k3]]).toArray⟩ from SX.S_cat _ _]
          refine ⟨fi.trans f3, dr3, r ++ [(LAWL ++ DIG)[k3]], _, rfl, by rw [List.length_append, hr1]; rfl, fun x hx => ?_⟩
          rcases List.mem_append.mp hx with hx | hx
          · exact hr2 x hx
          · rw [List.mem_singleton.mp hx]
            rcases List.mem_append.mp (List.getElem_mem hk3) with h | h
            · exact List.mem_append_left _ (LAWL_in _ h)
            · exact List.mem_append_right _ h
      · obtain ⟨fi, di, r, z, rfl, hr1, hr2⟩ := hp
        have hc : LAWL[k] ∈ LET := LAWL_in _ (List.getElem_mem hk)
        refine ⟨_, rfl, rfl, fun H3 p s3 np e3 => ?_⟩
        have di3 := di.ext s3
        have f3 : Fd d H H3 := fi.trans (Fd.of s3)
        refine ⟨p, _, rfl, .inl (.of e3), rfl, res_flat, _, rfl, ite2 (fun e => ?_) (fun e => ?_)⟩
        · have hl := res_in e
          refine ⟨_, rfl, _, _, rfl, rfl, by rw [S_len']; exact Nat.le_trans (m := 100) (by show _ + 1 ≤ 100; omega) (by decide), ?_⟩
          rw [show (⟨(LAWL[k] :: r).toArray⟩ : Str) ++ Str.ofString "_" = ⟨((LAWL[k] :: r) ++ [95]).toArray⟩ from SX.S_cat _ _]
          refine q H3 _ f3 di3 ⟨LAWL[k], r ++ [95], rfl, hc, fun x hx => ?_, ?_⟩
          · rcases List.mem_append.mp hx with hx | hx
            · exact hr2 x hx
            · rw [List.mem_singleton.mp hx]
              decide +kernel
          · rw [List.length_append, List.length_singleton]
            omega
        · exact ⟨_, rfl, q H3 _ f3 di3 ⟨LAWL[k], r, rfl, hc, hr2, by rw [List.length_cons, hr1]; omega⟩⟩
    refine ⟨_, (pss_cons (ps_set (i := 1) sc__law_name.nd rfl (.inl rfl) pe_str)
      (pss_cons (ps_set (i := 2) sc__law_name.nd rfl (.inl rfl) (pe_u c__law_next hr (by first | decide | omega) (by rfl) (pa_cons (pv 0) (pa_cons pe_int pa_nil))))
      (pss_cons (ps_if (pt_cmpR op_eq (pe_u c__law_next hr (by first | decide | omega) (by rfl) (pa_cons (pv 0) (pa_cons pe_int pa_nil))) pe_int (nomark _)) (pss_one (ps_set (i := 2) sc__law_name.nd rfl (.inl rfl) pe_int)) pss_nil)
      ht))), ?_⟩
    refine ⟨_, rfl, d, c, 4, rfl, dr, by decide, by decide, fun H2 r f2 _ dr2 r0 r1 => ?_⟩
    refine ⟨_, rfl, d, c, 9, rfl, dr2, by decide, by decide, fun H3 r5 f3 _ dr3 _ _ => ⟨rfl, _, rfl, ite2 (fun e => ?_) (fun e => ?_)⟩⟩
    · exact hq H3 19 (f2.trans f3) dr3 (by decide) (by decide)
    · exact hq H3 r (f2.trans f3) dr3 r0 (by omega)
end
def CHS : List Nat := (Str.ofString "'abcdefghijklmnopqrstuvwxyz ABCDEFGHIJKLMNOPQRSTUVWXYZ0123456789!\"#$&()*+,-./:;<=>?@\x5b\\]^_`{|}~\t").cps.toList
theorem CHS_S : Str.ofString "'abcdefghijklmnopqrstuvwxyz ABCDEFGHIJKLMNOPQRSTUVWXYZ0123456789!\"#$&()*+,-./:;<=>?@\x5b\\]^_`{|}~\t" = ⟨CHS.toArray⟩ := (SX.S_tl _).symm
theorem CHS_len : CHS.length = 95 := by decide +kernel
theorem CHS_nl : ∀ c ∈ CHS, c ≠ 10 := by decide +kernel
theorem sum_one : ∀ l : List Nat, ((l.map fun x => (⟨#[x]⟩ : Str)).map (·.length)).sum = l.length
  | [] => rfl
  | x :: l => by
    rw [List.map_cons, List.map_cons, List.sum_cons, sum_one l, List.length_cons]
    show 1 + l.length = _
    omega
theorem flat_one : ∀ l : List Nat, ((l.map fun x => (⟨#[x]⟩ : Str)).map TL.tl).flatten = l
  | [] => rfl
  | x :: l => by
    rw [List.map_cons, List.map_cons, List.flatten_cons, flat_one l]
    rfl
section
variable {P : Program} {w : World} {K : PySem.W.Frag} {mg : Str → Option Value} {base : Heap}
theorem ok_string {f : Addr} {fd : FuncData} (F : Fun K "_law_string" "_law_string" s__law_string f fd) (M : Mg mg) (c__law_next : Cl P w K mg base 1 "_law_next" sp_next) : FnOk P w K mg base CX0 2 f fd ["draw"] (sp_string CHS) := by
  refine F.ok sc__law_string (fun vs H Q E h => ?_) (fun cdv A outer s H vs Q E hr h => ?_)
  · obtain ⟨d, c, rfl, _⟩ := h
    rfl
  · obtain ⟨d, c, rfl, dr, q⟩ := h
    obtain ⟨t, ht, hq⟩ : ∃ t, PSs (cxOf CX0 P w K mg base N__law_string "_law_string" (defScope s__law_string) f cdv A outer s H E).nox ((defBody s__law_string).drop 3) t ∧ ∀ (H1 : Hp) (size : Int), Fd d H H1 → Dr H1 d c → 0 ≤ size → size ≤ 100 → t { nx := fun _ H' => Q .non H', rt := Q } [some (.ref d), some (.str ⟨CHS.toArray⟩), some (.int size), none] H1 := by
      refine ⟨_, (pss_one (ps_ret (pe_join pe_str (pe_lc (own := [("k", 3)]) (g := gName 3) (tt := tYes) rfl sc__law_string.nd (pi_range1 (by rfl) M.range (pa_cons (pv 2) pa_nil)) (blkOk_by (N := N__law_string) (sc := defScope s__law_string) (by decide +kernel)) (fun _ _ _ _ _ => (pg_name (i := 3) sc__law_string.nd rfl (.inl rfl))) (fun _ _ _ _ _ => pts_nil) (fun _ _ _ _ _ => (pe_ix ix_str (pv 1) (pe_u c__law_next hr (by first | decide | omega) (by rfl) (pa_cons (pv 0) (pa_cons (pe_callB call_len_str (by rfl) M.len PySem.boot_len (pa_cons (pv 1) pa_nil)) pa_nil))) (fun _ _ => rfl))))))), fun H1 size f1 dr1 z0 z1 => ?_⟩
      refine ⟨⟨_, rfl⟩, _, rfl, _, rfl, by omega, by omega, fun D nD => ?_⟩
      refine lc_range (lo := 0) (n := size.toNat) (fun i Hi => D ≠ d ∧ D ≠ c ∧ Fd d H1 Hi ∧ Dr Hi d c ∧ ∃ l : List Nat, l.length = i ∧ (∀ x ∈ l, x ∈ CHS) ∧ Hi D = some (.lst ((l.map fun x => (⟨#[x]⟩ : Str)).map V.str))) ⟨dr1.nd nD, dr1.nc nD, Fd.new nD, dr1.ext (same_upd nD), [], rfl, (fun _ h => by cases h), upd_same⟩ (fun i Hi hi hp => ?_) (fun Hn hp => ?_)
      · obtain ⟨nDd, nDc, fi, di, l, hl, hx, eD⟩ := hp
        refine ⟨rfl, ?_⟩
        refine ⟨_, rfl, _, rfl, _, rfl, _, rfl, by rw [S_len', CHS_len]; decide, ?_⟩
        rw [S_len']
        refine ⟨d, c, _, rfl, di, by rw [CHS_len]; decide, by rw [CHS_len]; decide, fun H' r f' _ dr' r0 r1 => ?_⟩
        obtain ⟨k, rfl⟩ := Int.eq_ofNat_of_zero_le r0
        have hk : k < CHS.length := by omega
        have eD' := f' _ _ nDd eD
        refine ⟨_, _, CHS[k], rfl, rfl, by rw [S_len', CHS_len]; decide, atI_nat (show CHS[k]? = _ from List.getElem?_eq_getElem hk), _, eD', ?_, nDd, nDc, ?_, dr'.upd nDd nDc, l ++ [CHS[k]], ?_, ?_, ?_⟩
        · rw [List.length_map, List.length_map, hl]
          exact Nat.lt_of_lt_of_le (m := 1000) (by omega) (by decide)
        · intro b o nb e
          have nbD : b ≠ D := ne_of_none e nD
          rw [upd_ne nbD]
          exact f' _ _ nb (fi _ _ nb e)
        · rw [List.length_append, hl]
          rfl
        · intro y hy
          rcases List.mem_append.mp hy with hy | hy
          · exact hx y hy
          · rw [List.mem_singleton.mp hy]
            exact List.getElem_mem hk
        · rw [upd_same, List.map_append, List.map_append]
          rfl
      · obtain ⟨nDd, nDc, fi, di, l, hl, hx, eD⟩ := hp
        have hz := sum_one l
        refine ⟨_, D, l.map fun x => (⟨#[x]⟩ : Str), rfl, rfl, .inl (.of eD), ?_, ?_⟩
        · rw [hz, List.length_map, hl]
          show size.toNat + size.toNat * 0 ≤ 16777216
          omega
        · rw [show Txt.join (Str.ofString "") (l.map fun x => (⟨#[x]⟩ : Str)) = ⟨(((l.map fun x => (⟨#[x]⟩ : Str)).map TL.tl).flatten).toArray⟩ from join0 _, flat_one]
          exact q Hn l (f1.trans fi) di (by omega) hx
    refine ⟨_, (pss_cons (ps_set (i := 1) sc__law_string.nd rfl (.inr rfl) pe_str)
      (pss_cons (ps_set (i := 2) sc__law_string.nd rfl (.inl rfl) (pe_u c__law_next hr (by first | decide | omega) (by rfl) (pa_cons (pv 0) (pa_cons pe_int pa_nil))))
      (pss_cons (ps_if (pt_cmpR op_eq (pe_u c__law_next hr (by first | decide | omega) (by rfl) (pa_cons (pv 0) (pa_cons pe_int pa_nil))) pe_int (nomark _)) (pss_one (ps_set (i := 2) sc__law_string.nd rfl (.inl rfl) (pe_op op_add pe_int (pv 2)))) pss_nil)
      ht))), ?_⟩
    rw [CHS_S]
    refine ⟨_, rfl, d, c, 5, rfl, dr, by decide, by decide, fun H2 r f2 _ dr2 r0 r1 => ?_⟩
    refine ⟨_, rfl, d, c, 11, rfl, dr2, by decide, by decide, fun H3 r5 f3 _ dr3 _ _ => ⟨rfl, _, rfl, ite2 (fun e => ?_) (fun e => ?_)⟩⟩
    · refine ⟨_, rfl, _, _, rfl, rfl, ?_⟩
      exact hq H3 (96 + r) (f2.trans f3) dr3 (by omega) (by omega)
    · exact hq H3 r (f2.trans f3) dr3 r0 (by omega)
theorem ok_quoted {f : Addr} {fd : FuncData} (F : Fun K "_law_quoted" "_law_quoted" s__law_quoted f fd) : FnOk P w K mg base CX0 1 f fd ["value"] sp_quoted := by
  refine F.ok sc__law_quoted (fun vs H Q E h => ?_) (fun cdv A outer s H vs Q E hr h => ?_)
  · obtain ⟨l, rfl, _⟩ := h
    rfl
  · obtain ⟨l, rfl, hl, q⟩ := h
    have hd := dbl_len l
    refine ⟨_, (pss_one (ps_ret (pe_op op_add_str (pe_opG op_add_str peg_str (pet_rpl (pv 0) (by decide))) pe_str))), ?_⟩
    refine ⟨_, rfl, ⟨l.toArray⟩, rfl, by rw [S_len']; show l.length + (l.length + 1) * 2 ≤ 16777216; omega, ?_⟩
    rw [show Txt.replace ⟨l.toArray⟩ (Str.ofString "'") (Str.ofString "''") = ⟨(dbl l).toArray⟩ by
      have := rpl_S l [39] [39, 39] (by decide) (by decide)
      rw [dbl_rpl l []] at this
      exact this]
    refine ⟨_, _, rfl, rfl, by show 1 + (⟨(dbl l).toArray⟩ : Str).length ≤ sizeLine; rw [S_len']; exact Nat.le_trans (m := 10000) (by omega) (by decide), ?_⟩
    rw [show Str.ofString "'" ++ (⟨(dbl l).toArray⟩ : Str) = ⟨(39 :: dbl l).toArray⟩ from SX.S_cat [39] (dbl l)]
    refine ⟨_, _, rfl, rfl, by rw [S_len', List.length_cons]; exact Nat.le_trans (m := 10000) (by show _ + 1 ≤ 10000; omega) (by decide), ?_⟩
    rw [show (⟨(39 :: dbl l).toArray⟩ : Str) ++ Str.ofString "'" = ⟨(39 :: (dbl l ++ [39])).toArray⟩ from SX.S_cat (39 :: dbl l) [39]]
    exact q
theorem ok_number {f : Addr} {fd : FuncData} (F : Fun K "_law_number" "_law_number" s__law_number f fd) (M : Mg mg) (c__law_next : Cl P w K mg base 1 "_law_next" sp_next) : FnOk P w K mg base CX0 2 f fd ["draw"] sp_number := by
  refine F.ok sc__law_number (fun vs H Q E h => ?_) (fun cdv A outer s H vs Q E hr h => ?_)
  · obtain ⟨d, c, rfl, _⟩ := h
    rfl
  · obtain ⟨d, c, rfl, dr, q⟩ := h
    have fin : ∀ (H1 : Hp) (n : Int), Fd d H H1 → Dr H1 d c → Q (.int (n % 10 ^ 15)) H1 := fun H1 n f1 d1 => by
      have h0 : 0 ≤ n % 10 ^ 15 := Int.emod_nonneg _ (by decide)
      have h1 : n % 10 ^ 15 < 10 ^ 15 := Int.emod_lt_of_pos _ (by decide)
      obtain ⟨k, hk⟩ := Int.eq_ofNat_of_zero_le h0
      rw [hk]
      exact q H1 k f1 d1 (by omega)
    refine ⟨_, (pss_cons (ps_set (i := 1) sc__law_number.nd rfl (.inl rfl) (pe_u c__law_next hr (by first | decide | omega) (by rfl) (pa_cons (pv 0) (pa_cons pe_int pa_nil))))
      (pss_cons (ps_if (pt_cmpR op_eq (pe_u c__law_next hr (by first | decide | omega) (by rfl) (pa_cons (pv 0) (pa_cons pe_int pa_nil))) pe_int (nomark _)) (pss_one (ps_for PassesOwn.never rfl (pi_range1 (by rfl) M.range (pa_cons pe_int pa_nil)) (pg_name (i := 2) sc__law_number.nd rfl (.inl rfl)) (pss_one (ps_set (i := 1) sc__law_number.nd rfl (.inl rfl) (pe_op op_add (pe_op op_mul (pv 1) pe_int) (pe_u c__law_next hr (by first | decide | omega) (by rfl) (pa_cons (pv 0) (pa_cons pe_int pa_nil)))))))) pss_nil)
      (pss_one (ps_ret (pe_op op_mod (pv 1) (pe_op op_pow pe_int pe_int)))))), ?_⟩
    refine ⟨_, rfl, d, c, 12, rfl, dr, by decide, by decide, fun H2 r f2 _ dr2 r0 r1 => ?_⟩
    refine ⟨_, rfl, d, c, 6, rfl, dr2, by decide, by decide, fun H3 r5 f3 _ dr3 _ _ => ⟨rfl, _, rfl, ite2 (fun e => ?_) (fun e => ?_)⟩⟩
    · refine ⟨_, rfl, by decide, by decide, ?_⟩
      refine for_range (lo := 0) (n := (14 : Int).toNat) (fun i σ Hi => Fd d H Hi ∧ Dr Hi d c ∧ ∃ (n : Int) (z : Option V), σ = [some (.ref d), some (.int n), z]) ⟨f2.trans f3, dr3, r, none, rfl⟩ (fun i σ Hi hi hp => ?_) (fun σ Hn hp => ?_)
      · obtain ⟨fi, di, n, z, rfl⟩ := hp
        refine ⟨_, rfl, _, _, rfl, rfl, .inr ⟨by decide, by decide⟩, ?_⟩
        refine ⟨_, rfl, d, c, 10, rfl, di, by decide, by decide, fun H4 r4 f4 _ dr4 _ _ => ?_⟩
        exact ⟨_, _, rfl, rfl, fi.trans f4, dr4, _, _, rfl⟩
      · obtain ⟨fi, di, n, z, rfl⟩ := hp
        refine ⟨_, rfl, _, _, rfl, rfl, ⟨by decide, by decide, by decide⟩, _, _, rfl, rfl, by show (0 : Int) < 10 ^ (15 : Int).toNat; decide, ?_⟩
        exact fin Hn n fi di
    · refine ⟨_, rfl, _, _, rfl, rfl, ⟨by decide, by decide, by decide⟩, _, _, rfl, rfl, by show (0 : Int) < 10 ^ (15 : Int).toNat; decide, ?_⟩
      exact fin H3 r (f2.trans f3) dr3
end

/-! ### the law's expressions -/
def SIGs : List Bop := [.or, .and, .lt, .le, .eq, .ne, .ge, .gt, .add, .sub, .mul, .div, .mod]
def sp_signs : Sp := fun vs H Q _ => vs = [] ∧ ∀ H' p, Same H H' → H p = none → H' p = some (.lst ((SIGs.map Bop.w).map V.str)) → Q (.ref p) H'
def sp_lleaf (K : PySem.W.Frag) : Sp := fun vs H Q _ => ∃ (d c : Addr), vs = [.ref d] ∧ Dr H d c ∧ ∀ H' p (e : Ex), Fd d H H' → Dr H' d c → e.ok → e.ht = 0 → Dp K H' p e.d → Q p H'
def sp_lex (K : PySem.W.Frag) (n : Nat) : Sp := fun vs H Q _ => ∃ (d c : Addr) (m : Nat), vs = [.ref d, .int (m : Nat)] ∧ m < n ∧ Dr H d c ∧ ∀ H' p (e : Ex), Fd d H H' → Dr H' d c → e.ok → e.ht ≤ m → Dp K H' p e.d → Q p H'
section
variable {P : Program} {w : World} {K : PySem.W.Frag} {mg : Str → Option Value} {base : Heap}
theorem ok_signs {f : Addr} {fd : FuncData} (F : Fun K "_law_signs" "_law_signs" s__law_signs f fd) : FnOk P w K mg base CX0 1 f fd [] sp_signs := by
  refine F.ok sc__law_signs (fun vs H Q E h => ?_) (fun cdv A outer s H vs Q E hr h => ?_)
  · obtain ⟨rfl, _⟩ := h
    rfl
  · obtain ⟨rfl, q⟩ := h
    refine ⟨_, (pss_one (ps_ret (pe_lst (pa_cons pe_str (pa_cons pe_str (pa_cons pe_str (pa_cons pe_str (pa_cons pe_str (pa_cons pe_str (pa_cons pe_str (pa_cons pe_str (pa_cons pe_str (pa_cons pe_str (pa_cons pe_str (pa_cons pe_str (pa_cons pe_str pa_nil)))))))))))))))), ?_⟩
    refine ⟨by show 13 ≤ sizeLine; decide, fun p1 n1 => ?_⟩
    exact q _ p1 (same_upd n1) n1 upd_same
theorem name_len {l : List Nat} (h : NameOk l) : l.length ≤ 21 := by
  obtain ⟨_, _, _, _, _, h⟩ := h
  omega
theorem CHS_low : ∀ c ∈ CHS, c < 1114112 := by decide +kernel
theorem ok_lleaf {f : Addr} {fd : FuncData} (F : Fun K "_law_leaf" "_law_leaf" s__law_leaf f fd) (M : Mg mg) (c__law_next : Cl P w K mg base 1 "_law_next" sp_next) (c__law_name : Cl P w K mg base 2 "_law_name" sp_name) (c__law_number : Cl P w K mg base 2 "_law_number" sp_number) (c__law_string : Cl P w K mg base 2 "_law_string" (sp_string CHS)) : FnOk P w K mg base CX0 3 f fd ["draw"] (sp_lleaf K) := by
  refine F.ok sc__law_leaf (fun vs H Q E h => ?_) (fun cdv A outer s H vs Q E hr h => ?_)
  · obtain ⟨d, c, rfl, _⟩ := h
    rfl
  · obtain ⟨d, c, rfl, dr, q⟩ := h
    refine ⟨_, (pss_cons (ps_set (i := 1) sc__law_leaf.nd rfl (.inl rfl) (pe_u c__law_next hr (by first | decide | omega) (by rfl) (pa_cons (pv 0) (pa_cons pe_int pa_nil))))
      (pss_cons (ps_if (pt_cmpR op_eq (pv 1) pe_int (nomark _)) (pss_one (ps_ret (pe_tup (pa_cons pe_str (pa_cons (pe_u c__law_number hr (by first | decide | omega) (by rfl) (pa_cons (pv 0) pa_nil)) pa_nil))))) pss_nil)
      (pss_cons (ps_if (pt_cmpR op_eq (pv 1) pe_int (nomark _)) (pss_one (ps_ret (pe_tup (pa_cons pe_str (pa_cons (pe_u c__law_string hr (by first | decide | omega) (by rfl) (pa_cons (pv 0) pa_nil)) pa_nil))))) pss_nil)
      (pss_cons (ps_if (pt_cmpR op_eq (pv 1) pe_int (nomark _)) (pss_one (ps_ret (pe_tup (pa_cons pe_str (pa_cons (pe_u c__law_next hr (by first | decide | omega) (by rfl) (pa_cons (pv 0) (pa_cons pe_int pa_nil))) pa_nil))))) pss_nil)
      (pss_cons (ps_if (pt_cmpR op_eq (pv 1) pe_int (nomark _)) (pss_one (ps_ret (pe_tup (pa_cons pe_str pa_nil)))) pss_nil)
      (pss_cons (ps_if (pt_cmpR op_eq (pv 1) pe_int (nomark _)) (pss_one (ps_ret (pe_tup (pa_cons pe_str (pa_cons (pe_u c__law_name hr (by first | decide | omega) (by rfl) (pa_cons (pv 0) pa_nil)) (pa_cons (pe_u c__law_name hr (by first | decide | omega) (by rfl) (pa_cons (pv 0) pa_nil)) pa_nil)))))) pss_nil)
      (pss_one (ps_ret (pe_tup (pa_cons pe_str (pa_cons (pe_u c__law_name hr (by first | decide | omega) (by rfl) (pa_cons (pv 0) pa_nil)) pa_nil))))))))))), ?_⟩
    refine ⟨_, rfl, d, c, 6, rfl, dr, by decide, by decide, fun H1 r f1 _ dr1 r0 r1 => ?_⟩
    refine ⟨_, rfl, rfl, _, rfl, ite2 (fun e => ?_) (fun e => ?_)⟩
    · refine ⟨_, rfl, d, c, rfl, dr1, fun H2 n f2 dr2 hn => ?_⟩
      refine ⟨Nat.le_trans (m := 3) (by first | exact (by decide : 1 ≤ 3) | exact (by decide : 2 ≤ 3) | exact (by decide : 3 ≤ 3)) (by decide), fun p np => ?_⟩
      exact q _ _ (.num n) ((f1.trans f2).trans (Fd.new np)) (dr2.ext (same_upd np)) hn rfl (.tup (.inl (.inl upd_same)) (.cons (.str _) (.cons (.int _) .nil)))
    refine ⟨_, rfl, rfl, _, rfl, ite2 (fun e => ?_) (fun e => ?_)⟩
    · refine ⟨_, rfl, d, c, rfl, dr1, fun H2 l f2 dr2 hl hx => ?_⟩
      refine ⟨Nat.le_trans (m := 3) (by first | exact (by decide : 1 ≤ 3) | exact (by decide : 2 ≤ 3) | exact (by decide : 3 ≤ 3)) (by decide), fun p np => ?_⟩
      exact q _ _ (.text l) ((f1.trans f2).trans (Fd.new np)) (dr2.ext (same_upd np)) ⟨hl, fun x h => CHS_low x (hx x h)⟩ rfl (.tup (.inl (.inl upd_same)) (.cons (.str _) (.cons (.str _) .nil)))
    refine ⟨_, rfl, rfl, _, rfl, ite2 (fun e => ?_) (fun e => ?_)⟩
    · refine ⟨_, rfl, d, c, 2, rfl, dr1, by decide, by decide, fun H2 k f2 _ dr2 k0 k1 => ?_⟩
      refine ⟨Nat.le_trans (m := 3) (by first | exact (by decide : 1 ≤ 3) | exact (by decide : 2 ≤ 3) | exact (by decide : 3 ≤ 3)) (by decide), fun p np => ?_⟩
      obtain ⟨b, rfl⟩ : ∃ b : Bool, k = if b = true then 1 else 0 := by
        by_cases h : k = 1
        · exact ⟨true, h⟩
        · exact ⟨false, by show k = 0; omega⟩
      exact q _ _ (.truth b) ((f1.trans f2).trans (Fd.new np)) (dr2.ext (same_upd np)) trivial rfl (.tup (.inl (.inl upd_same)) (.cons (.str _) (.cons (.int _) .nil)))
    refine ⟨_, rfl, rfl, _, rfl, ite2 (fun e => ?_) (fun e => ?_)⟩
    · refine ⟨Nat.le_trans (m := 3) (by first | exact (by decide : 1 ≤ 3) | exact (by decide : 2 ≤ 3) | exact (by decide : 3 ≤ 3)) (by decide), fun p np => ?_⟩
      exact q _ _ .null (f1.trans (Fd.new np)) (dr1.ext (same_upd np)) trivial rfl (.tup (.inl (.inl upd_same)) (.cons (.str _) .nil))
    refine ⟨_, rfl, rfl, _, rfl, ite2 (fun e => ?_) (fun e => ?_)⟩
    · refine ⟨_, rfl, d, c, rfl, dr1, fun H2 l f2 dr2 hl => ?_⟩
      refine ⟨_, rfl, d, c, rfl, dr2, fun H3 m f3 dr3 hm => ?_⟩
      refine ⟨Nat.le_trans (m := 3) (by first | exact (by decide : 1 ≤ 3) | exact (by decide : 2 ≤ 3) | exact (by decide : 3 ≤ 3)) (by decide), fun p np => ?_⟩
      exact q _ _ (.field l m) (((f1.trans f2).trans f3).trans (Fd.new np)) (dr3.ext (same_upd np)) ⟨name_len hl, name_len hm⟩ rfl (.tup (.inl (.inl upd_same)) (.cons (.str _) (.cons (.str _) (.cons (.str _) .nil))))
    · refine ⟨_, rfl, d, c, rfl, dr1, fun H2 l f2 dr2 hl => ?_⟩
      refine ⟨Nat.le_trans (m := 3) (by first | exact (by decide : 1 ≤ 3) | exact (by decide : 2 ≤ 3) | exact (by decide : 3 ≤ 3)) (by decide), fun p np => ?_⟩
      exact q _ _ (.name l) ((f1.trans f2).trans (Fd.new np)) (dr2.ext (same_upd np)) (name_len hl) rfl (.tup (.inl (.inl upd_same)) (.cons (.str _) (.cons (.str _) .nil)))
theorem ok_lex {f : Addr} {fd : FuncData} (n : Nat) (F : Fun K "_law_expression" "_law_expression" s__law_expression f fd) (M : Mg mg) (c__law_next : Cl P w K mg base 1 "_law_next" sp_next) (c__law_signs : Cl P w K mg base 1 "_law_signs" sp_signs) (c__law_leaf : Cl P w K mg base 3 "_law_leaf" (sp_lleaf K)) (c__law_expression : Cl P w K mg base (n + 3) "_law_expression" (sp_lex K n)) : FnOk P w K mg base CX0 (n + 4) f fd ["draw", "depth"] (sp_lex K (n + 1)) := by
  refine F.ok sc__law_expression (fun vs H Q E h => ?_) (fun cdv A outer s H vs Q E hr h => ?_)
  · obtain ⟨d, c, m, rfl, _⟩ := h
    rfl
  · obtain ⟨d, c, m, rfl, hm, dr, q⟩ := h
    refine ⟨_, (pss_cons (ps_set (i := 2) sc__law_expression.nd rfl (.inl rfl) (pe_u c__law_next hr (by first | decide | omega) (by rfl) (pa_cons (pv 0) (pa_cons pe_int pa_nil))))
      (pss_cons (ps_if (PW.pt (pw_or (pt_cmpR op_eq (pv 1) pe_int (nomark _)) (pw_or1 (pt_cmpR op_lt (pv 2) pe_int (nomark _))))) (pss_one (ps_ret (pe_u c__law_leaf hr (by first | decide | omega) (by rfl) (pa_cons (pv 0) pa_nil)))) pss_nil)
      (pss_cons (ps_if (pt_cmpR op_lt (pv 2) pe_int (nomark _)) (pss_cons (ps_set (i := 3) sc__law_expression.nd rfl (.inl rfl) (pe_u c__law_expression hr (by first | decide | omega) (by rfl) (pa_cons (pv 0) (pa_cons (pe_op op_sub (pv 1) pe_int) pa_nil))))
      (pss_one (ps_ret (pe_tup (pa_cons (pe_ix (ix_listK K) (pe_u0 c__law_signs hr (by first | decide | omega) (by rfl)) (pe_op op_sub (pv 2) pe_int) (fun _ _ => rfl)) (pa_cons (pv 3) (pa_cons (pe_u c__law_expression hr (by first | decide | omega) (by rfl) (pa_cons (pv 0) (pa_cons (pe_op op_sub (pv 1) pe_int) pa_nil))) pa_nil))))))) pss_nil)
      (pss_cons (ps_if (pt_cmpR op_lt (pv 2) pe_int (nomark _)) (pss_one (ps_ret (pe_tup (pa_cons (pe_ix (ix_listK K) (pe_lst (pa_cons pe_str (pa_cons pe_str (pa_cons pe_str (pa_cons pe_str pa_nil))))) (pe_op op_sub (pv 2) pe_int) (fun _ _ => rfl)) (pa_cons (pe_u c__law_expression hr (by first | decide | omega) (by rfl) (pa_cons (pv 0) (pa_cons (pe_op op_sub (pv 1) pe_int) pa_nil))) pa_nil))))) pss_nil)
      (pss_cons (ps_set (i := 3) sc__law_expression.nd rfl (.inl rfl) (pe_u c__law_expression hr (by first | decide | omega) (by rfl) (pa_cons (pv 0) (pa_cons (pe_op op_sub (pv 1) pe_int) pa_nil))))
      (pss_cons (ps_set (i := 4) sc__law_expression.nd rfl (.inl rfl) (pe_u c__law_expression hr (by first | decide | omega) (by rfl) (pa_cons (pv 0) (pa_cons (pe_op op_sub (pv 1) pe_int) pa_nil))))
      (pss_cons (ps_if (pt_cmpR op_eq (pv 2) pe_int (nomark _)) (pss_one (ps_ret (pe_tup (pa_cons (pe_ix (ix_listK K) (pe_lst (pa_cons pe_str (pa_cons pe_str pa_nil))) (pe_u c__law_next hr (by first | decide | omega) (by rfl) (pa_cons (pv 0) (pa_cons pe_int pa_nil))) (fun _ _ => rfl)) (pa_cons (pv 3) (pa_cons (pv 4) pa_nil)))))) pss_nil)
      (pss_one (ps_ret (pe_tup (pa_cons pe_str (pa_cons (pv 3) (pa_cons (pv 4) (pa_cons (pe_u c__law_expression hr (by first | decide | omega) (by rfl) (pa_cons (pv 0) (pa_cons (pe_op op_sub (pv 1) pe_int) pa_nil))) pa_nil)))))))))))))), ?_⟩
    refine ⟨_, rfl, d, c, 24, rfl, dr, by decide, by decide, fun H1 r f1 _ dr1 r0 r1 => ?_⟩
    by_cases hd : m = 0 ∨ r < 5
    · have leaf : tCall (sp_lleaf K) [] E0 (tCons (tVar 0) tNil) [some (.ref d), some (.int (m : Nat)), some (.int r), none, none] H1 Q := by
        exact ⟨_, rfl, d, c, rfl, dr1, fun H2 p e f2 dr2 ok h0 dp => q H2 p e (f1.trans f2) dr2 ok (by omega) dp⟩
      refine ⟨_, rfl, rfl, _, rfl, ?_⟩
      refine ite2 (fun e => iteT leaf) (fun e => ?_)
      have hr5 : r < 5 := by
        rcases hd with rfl | h
        · exact absurd rfl e
        · exact h
      refine ⟨_, rfl, _, _, rfl, rfl, _, rfl, ?_⟩
      rw [decide_eq_true hr5]
      exact iteT leaf
    · obtain ⟨k, rfl⟩ : ∃ k, m = k + 1 := ⟨m - 1, by omega⟩
      have dec : ∀ d : Addr, [V.ref d, V.int (((k + 1 : Nat) : Int) - 1)] = [V.ref d, V.int (k : Nat)] := fun d => by rw [show (((k + 1 : Nat) : Int) - 1) = (k : Nat) by omega]
      refine ⟨_, rfl, rfl, _, rfl, ?_⟩
      rw [show decide (V.int ((k + 1 : Nat) : Int) = V.int 0) = false from decide_eq_false fun z => by have := V.int.inj z; omega]
      refine iteF ⟨_, rfl, _, _, rfl, rfl, _, rfl, ?_⟩
      rw [decide_eq_false (show ¬ r < 5 by omega)]
      refine iteF ?_
      refine ⟨_, rfl, _, _, rfl, rfl, _, rfl, ite2 (fun e => ?_) (fun e => ?_)⟩
      · have hr18 : r < 18 := of_decide_eq_true e
        refine ⟨_, rfl, _, rfl, _, _, rfl, rfl, d, c, k, dec d, by omega, dr1, fun H2 p1 e1 f2 dr2 ok1 ht1 dp1 => ?_⟩
        refine ⟨rfl, fun H3 sg s3 nsg esg => ?_⟩
        obtain ⟨j, hj⟩ : ∃ j : Nat, r - 5 = (j : Nat) := ⟨(r - 5).toNat, by omega⟩
        have hj13 : j < SIGs.length := by show j < 13; omega
        have atj : atI ((SIGs.map Bop.w).map V.str) (r - 5) = some (.str (SIGs[j]).w) := by
          rw [hj]
          exact atI_nat (by rw [List.getElem?_map, List.getElem?_map, List.getElem?_eq_getElem hj13]; rfl)
        have dr3 := dr2.ext s3
        refine ⟨_, rfl, _, _, rfl, rfl, sg, _, _, _, rfl, rfl, .of esg, atj, ?_⟩
        refine ⟨_, rfl, ?_⟩
        refine ⟨_, rfl, _, rfl, _, _, rfl, rfl, d, c, k, dec d, by omega, dr3, fun H4 p2 e2 f4 dr4 ok2 ht2 dp2 => ?_⟩
        refine ⟨by show 3 ≤ sizeLine; decide, fun p np => ?_⟩
        have dp1' := Dp.ext (same_upd np (o := .tup [.str (SIGs[j]).w, p1, p2])) _ _ (Dp.fd dr3.lst f4 _ _ (ex_only e1) (Dp.ext s3 _ _ dp1))
        exact q _ _ (.bin SIGs[j] e1 e2) ((((f1.trans f2).trans (Fd.of s3)).trans f4).trans (Fd.new np)) (dr4.ext (same_upd np)) ⟨ok1, ok2⟩ (by show max e1.ht e2.ht + 1 ≤ k + 1; omega) (.tup (.inl (.inl upd_same)) (.cons (.str _) (.cons dp1' (.cons (Dp.ext (same_upd np) _ _ dp2) .nil))))
      have h18 : ¬ r < 18 := fun z => e (decide_eq_true z)
      refine ⟨_, rfl, _, _, rfl, rfl, _, rfl, ite2 (fun e => ?_) (fun e => ?_)⟩
      · have hr22 : r < 22 := of_decide_eq_true e
        have fin : ∀ (s : Str) (mk : Ex → Ex), atI [V.str "negate", V.str "not", V.str "missing", V.str "length"] (r - 18) = some (.str s) → (∀ e : Ex, (mk e).d = .tuple [.str s, e.d] ∧ ((mk e).ok ↔ e.ok) ∧ (mk e).ht = e.ht + 1) → tTup (tCons (tOp (rIxL K) (tLst (tCons (tC (V.str (Str.ofString "negate"))) (tCons (tC (V.str (Str.ofString "not"))) (tCons (tC (V.str (Str.ofString "missing"))) (tCons (tC (V.str (Str.ofString "length"))) tNil))))) (tOp (rI0 fun i j => V.int (i - j)) (tVar 2) (tC (V.int 18)))) (tCons (tCall (sp_lex K n) [] E0 (tCons (tVar 0) (tCons (tOp (rI0 fun i j => V.int (i - j)) (tVar 1) (tC (V.int 1))) tNil))) tNil)) [some (.ref d), some (.int ((k + 1 : Nat) : Int)), some (.int r), none, none] H1 Q := fun s mk ha hmk => by
          refine ⟨by show 4 ≤ sizeLine; decide, fun wp nwp => ?_⟩
          have dr2 := dr1.ext (same_upd nwp (o := .lst [.str "negate", .str "not", .str "missing", .str "length"]))
          refine ⟨_, rfl, _, _, rfl, rfl, wp, _, _, _, rfl, rfl, .of upd_same, ha, ?_⟩
          refine ⟨_, rfl, _, rfl, _, _, rfl, rfl, d, c, k, dec d, by omega, dr2, fun H4 p2 e2 f4 dr4 ok2 ht2 dp2 => ?_⟩
          refine ⟨by show 2 ≤ sizeLine; decide, fun p np => ?_⟩
          obtain ⟨m1, m2, m3⟩ := hmk e2
          refine q _ _ (mk e2) (((f1.trans (Fd.new nwp)).trans f4).trans (Fd.new np)) (dr4.ext (same_upd np)) (m2.mpr ok2) (by omega) ?_
          rw [m1]
          exact .tup (.inl (.inl upd_same)) (.cons (.str _) (.cons (Dp.ext (same_upd np) _ _ dp2) .nil))
        have four : r = 18 ∨ r = 19 ∨ r = 20 ∨ r = 21 := by omega
        clear h18 hr22 e hd r0 r1
        rcases four with rfl | rfl | rfl | rfl
        · exact fin "negate" .neg (atI_nat (j := 0) rfl) fun e => ⟨rfl, Iff.rfl, rfl⟩
        · exact fin "not" .nt (atI_nat (j := 1) rfl) fun e => ⟨rfl, Iff.rfl, rfl⟩
        · exact fin "missing" (.f1 true) (atI_nat (j := 2) rfl) fun e => ⟨rfl, Iff.rfl, rfl⟩
        · exact fin "length" (.f1 false) (atI_nat (j := 3) rfl) fun e => ⟨rfl, Iff.rfl, rfl⟩
      refine ⟨_, rfl, _, rfl, _, _, rfl, rfl, d, c, k, dec d, by omega, dr1, fun H2 p1 e1 f2 dr2 ok1 ht1 dp1 => ?_⟩
      refine ⟨_, rfl, _, rfl, _, _, rfl, rfl, d, c, k, dec d, by omega, dr2, fun H3 p2 e2 f3 dr3 ok2 ht2 dp2 => ?_⟩
      have dp13 := Dp.fd dr2.lst f3 _ _ (ex_only e1) dp1
      refine ⟨_, rfl, rfl, _, rfl, ite2 (fun e => ?_) (fun e => ?_)⟩
      · refine ⟨by show 2 ≤ sizeLine; decide, fun wp nwp => ?_⟩
        have sw := same_upd nwp (o := .lst [.str "starts", .str "coalesce"])
        have dr4 := dr3.ext sw
        refine ⟨_, rfl, d, c, 2, rfl, dr4, by decide, by decide, fun H5 b f5 _ dr5 b0 b1 => ?_⟩
        have ew := f5 _ _ (dr3.nd nwp) (show (upd H3 wp (.lst [.str "starts", .str "coalesce"])) wp = some (.lst [.str "starts", .str "coalesce"]) from upd_same)
        have dp15 := Dp.fd dr4.lst f5 _ _ (ex_only e1) (Dp.ext sw _ _ dp13)
        have dp25 := Dp.fd dr4.lst f5 _ _ (ex_only e2) (Dp.ext sw _ _ dp2)
        have ff := (((f1.trans f2).trans f3).trans (Fd.of sw)).trans f5
        have two : b = 0 ∨ b = 1 := by omega
        rcases two with rfl | rfl
        · refine ⟨wp, _, _, _, rfl, rfl, .of ew, atI_nat (j := 0) rfl, _, rfl, _, rfl, by show 3 ≤ sizeLine; decide, fun p np => ?_⟩
          exact q _ _ (.f2 true e1 e2) (ff.trans (Fd.new np)) (dr5.ext (same_upd np)) ⟨ok1, ok2⟩ (by show max e1.ht e2.ht + 1 ≤ k + 1; omega) (.tup (.inl (.inl upd_same)) (.cons (.str _) (.cons (Dp.ext (same_upd np) _ _ dp15) (.cons (Dp.ext (same_upd np) _ _ dp25) .nil))))
        · refine ⟨wp, _, _, _, rfl, rfl, .of ew, atI_nat (j := 1) rfl, _, rfl, _, rfl, by show 3 ≤ sizeLine; decide, fun p np => ?_⟩
          exact q _ _ (.f2 false e1 e2) (ff.trans (Fd.new np)) (dr5.ext (same_upd np)) ⟨ok1, ok2⟩ (by show max e1.ht e2.ht + 1 ≤ k + 1; omega) (.tup (.inl (.inl upd_same)) (.cons (.str _) (.cons (Dp.ext (same_upd np) _ _ dp15) (.cons (Dp.ext (same_upd np) _ _ dp25) .nil))))
      · refine ⟨_, rfl, _, rfl, _, rfl, _, rfl, _, _, rfl, rfl, d, c, k, dec d, by omega, dr3, fun H4 p3 e3 f4 dr4 ok3 ht3 dp3 => ?_⟩
        have dp14 := Dp.fd dr3.lst f4 _ _ (ex_only e1) dp13
        have dp24 := Dp.fd dr3.lst f4 _ _ (ex_only e2) dp2
        refine ⟨by show 4 ≤ sizeLine; decide, fun p np => ?_⟩
        exact q _ _ (.f3 e1 e2 e3) ((((f1.trans f2).trans f3).trans f4).trans (Fd.new np)) (dr4.ext (same_upd np)) ⟨ok1, ok2, ok3⟩ (by show max e1.ht (max e2.ht e3.ht) + 1 ≤ k + 1; omega) (.tup (.inl (.inl upd_same)) (.cons (.str _) (.cons (Dp.ext (same_upd np) _ _ dp14) (.cons (Dp.ext (same_upd np) _ _ dp24) (.cons (Dp.ext (same_upd np) _ _ dp3) .nil)))))
theorem cl_lex {f : Addr} {fd : FuncData} (F : Fun K "_law_expression" "_law_expression" s__law_expression f fd) (M : Mg mg) (g : mg "_law_expression" = some (.ref f)) (b : Binds K fd ["draw", "depth"] []) (c__law_next : Cl P w K mg base 1 "_law_next" sp_next) (c__law_signs : Cl P w K mg base 1 "_law_signs" sp_signs) (c__law_leaf : Cl P w K mg base 3 "_law_leaf" (sp_lleaf K)) : ∀ n, Cl P w K mg base (n + 3) "_law_expression" (sp_lex K n)
  | 0 => FnOk.cl (P := P) (w := w) (base := base) (F.ok sc__law_expression (fun vs H Q E h => by obtain ⟨d, c, m, rfl, _⟩ := h; rfl) (fun cdv A outer s H vs Q E hr h => by obtain ⟨d, c, m, rfl, hm, _⟩ := h; omega)) F g b
  | n + 1 => FnOk.cl (ok_lex n F M c__law_next c__law_signs c__law_leaf (cl_lex F M g b c__law_next c__law_signs c__law_leaf n)) F g b
end
/-! ### the law's printing -/
def LV0 : List (Key × V) := [(.inr "or", .int 1), (.inr "and", .int 2), (.inr "not", .int 3), (.inr "<", .int 4), (.inr "<=", .int 4), (.inr "=", .int 4), (.inr "!=", .int 4), (.inr ">=", .int 4), (.inr ">", .int 4), (.inr "+", .int 5), (.inr "-", .int 5), (.inr "*", .int 6)]
def LVL : List (Key × V) := putK (putK (putK (mergeK [] LV0) (.inr "div") (.int 6)) (.inr "mod") (.int 6)) (.inr "negate") (.int 7)
theorem lvl_at (x : String) (n : Nat) (h : (valV LVL (.inr (Str.ofString x))).getD (.int 8) = .int n) : (valV LVL (.inr (Str.ofString x))).getD (.int 8) = .int n := h
theorem lvl (e : Ex) : (valV LVL (.inr e.wd)).getD (.int 8) = .int (e.lev : Nat) := by
  cases e with
  | bin o a b => cases o; exact lvl_at "or" 1 (by decide +kernel); exact lvl_at "and" 2 (by decide +kernel); exact lvl_at "<" 4 (by decide +kernel); exact lvl_at "<=" 4 (by decide +kernel); exact lvl_at "=" 4 (by decide +kernel); exact lvl_at "!=" 4 (by decide +kernel); exact lvl_at ">=" 4 (by decide +kernel); exact lvl_at ">" 4 (by decide +kernel); exact lvl_at "+" 5 (by decide +kernel); exact lvl_at "-" 5 (by decide +kernel); exact lvl_at "*" 6 (by decide +kernel); exact lvl_at "div" 6 (by decide +kernel); exact lvl_at "mod" 6 (by decide +kernel)
  | num n => exact lvl_at "number" 8 (by decide +kernel)
  | text l => exact lvl_at "text" 8 (by decide +kernel)
  | truth b => exact lvl_at "truth" 8 (by decide +kernel)
  | null => exact lvl_at "null" 8 (by decide +kernel)
  | name l => exact lvl_at "name" 8 (by decide +kernel)
  | field l m => exact lvl_at "field" 8 (by decide +kernel)
  | neg a => exact lvl_at "negate" 7 (by decide +kernel)
  | nt a => exact lvl_at "not" 3 (by decide +kernel)
  | f1 m a => cases m; exact lvl_at "length" 8 (by decide +kernel); exact lvl_at "missing" 8 (by decide +kernel)
  | f2 m a b => cases m; exact lvl_at "coalesce" 8 (by decide +kernel); exact lvl_at "starts" 8 (by decide +kernel)
  | f3 a b c => exact lvl_at "if" 8 (by decide +kernel)
theorem add_len {L l : List Nat} (h : L.length + l.length ≤ 5000000) : (⟨L.toArray⟩ : Str).length + (⟨l.toArray⟩ : Str).length ≤ sizeLine := by
  rw [S_len', S_len']
  exact Nat.le_trans h (by decide)
theorem add_eq (L l : List Nat) : (⟨L.toArray⟩ : Str) ++ ⟨l.toArray⟩ = ⟨(L ++ l).toArray⟩ := SX.S_cat L l
def sp_level (K : PySem.W.Frag) : Sp := fun vs H Q _ => ∃ (p : V) (e : Ex), vs = [p] ∧ Dp K H p e.d ∧ ∀ H', Same H H' → Q (.int (e.lev : Nat)) H'
def sp_atom (K : PySem.W.Frag) (n : Nat) : Sp := fun vs H Q _ => ∃ (p : V) (e : Ex), vs = [p] ∧ Dp K H p e.d ∧ e.ok ∧ e.lev = 8 ∧ e.ht < n + 1 ∧ e.ht ≤ 8 ∧ ∀ H', Same H H' → Q (.str ⟨e.pr.toArray⟩) H'
def sp_lpr (K : PySem.W.Frag) (n : Nat) : Sp := fun vs H Q _ => ∃ (p : V) (e : Ex) (k : Nat), vs = [p, .int (k : Nat)] ∧ Dp K H p e.d ∧ e.ok ∧ e.ht < n ∧ e.ht ≤ 8 ∧ k ≤ 7 ∧ ∀ H', Same H H' → Q (.str ⟨(par (decide (e.lev < k)) e.pr).toArray⟩) H'
theorem wd_form (e : Ex) (x : String) (h : (Str.ofString x == e.wd) = false) : decide (V.str e.wd = V.str (Str.ofString x)) = false := by
  refine decide_eq_false fun z => ?_
  rw [V.str.inj z] at h
  have : (Str.ofString x == Str.ofString x) = true := beq_self_eq_true _
  rw [this] at h
  cases h
theorem Bop.lv1 (o : Bop) : 1 ≤ o.lv := by cases o <;> decide
theorem lev1 (e : Ex) : 1 ≤ e.lev := by
  cases e with
  | bin o a b => exact o.lv1
  | nt a => exact (by decide : 1 ≤ 3)
  | neg a => exact (by decide : 1 ≤ 7)
  | _ => exact (by decide : 1 ≤ 8)
theorem par1 (e : Ex) : par (decide (e.lev < 1)) e.pr = e.pr := by
  have := lev1 e
  rw [decide_eq_false (show ¬ e.lev < 1 by omega)]
  rfl
theorem par8 (e : Ex) (k : Nat) (h : e.lev = 8) (hk : k ≤ 7) : par (decide (e.lev < k)) e.pr = e.pr := by
  rw [decide_eq_false (show ¬ e.lev < k by omega)]
  rfl
section
variable {P : Program} {w : World} {K : PySem.W.Frag} {mg : Str → Option Value} {base : Heap}
theorem ok_level {f : Addr} {fd : FuncData} (F : Fun K "_law_level" "_law_level" s__law_level f fd) (M : Mg mg) : FnOk P w K mg base CX0 1 f fd ["expression"] (sp_level K) := by
  refine F.ok sc__law_level (fun vs H Q E h => ?_) (fun cdv A outer s H vs Q E hr h => ?_)
  · obtain ⟨p, e, rfl, _⟩ := h
    rfl
  · obtain ⟨p, e, rfl, he, q⟩ := h
    obtain ⟨a, ys, rfl, hs⟩ := ex_word he
    refine ⟨_, (pss_cons (ps_set (i := 1) sc__law_level.nd rfl (.inl rfl) (pe_disp (pps_cons pe_str pe_int (pps_cons pe_str pe_int (pps_cons pe_str pe_int (pps_cons pe_str pe_int (pps_cons pe_str pe_int (pps_cons pe_str pe_int (pps_cons pe_str pe_int (pps_cons pe_str pe_int (pps_cons pe_str pe_int (pps_cons pe_str pe_int (pps_cons pe_str pe_int (pps_cons pe_str pe_int pps_nil)))))))))))) (by rfl) (by rfl) (fun z => by cases z) (by decide)))
      (pss_cons (ps_dput (hu_of hr) (pv 1) pe_str pe_int rfl)
      (pss_cons (ps_dput (hu_of hr) (pv 1) pe_str pe_int rfl)
      (pss_cons (ps_dput (hu_of hr) (pv 1) pe_str pe_int rfl)
      (pss_one (ps_ret (pe_dget2 (hu_of hr) (pv 1) (pe_ix (ix_tupK K) (pv 0) pe_int (fun _ _ => rfl)) pe_int ⟨rfl, rfl, rfl, rfl⟩))))))), ?_⟩
    refine fun D nD => ?_
    refine ⟨upd_same, LV0, rfl, by decide, ?_⟩
    refine ⟨_, rfl, D, _, rfl, .inl ⟨mergeK [] LV0, .inr "div", upd_same, rfl, by decide +kernel, rfl⟩, ?_⟩
    refine ⟨_, rfl, D, _, rfl, .inl ⟨_, .inr "mod", upd_same, rfl, by decide +kernel, rfl⟩, ?_⟩
    refine ⟨_, rfl, D, _, rfl, .inl ⟨_, .inr "negate", upd_same, rfl, by decide +kernel, rfl⟩, ?_⟩
    refine ⟨_, rfl, D, rfl, .inl ⟨_, .inl upd_same⟩, ?_⟩
    have ss : Same H (upd (upd (upd (upd (upd H D (.dK [])) D (.dK (mergeK [] LV0))) D (.dK (putK (mergeK [] LV0) (.inr "div") (.int 6)))) D (.dK (putK (putK (mergeK [] LV0) (.inr "div") (.int 6)) (.inr "mod") (.int 6)))) D (.dK LVL)) := fun b o z => by
      have nb : b ≠ D := ne_of_none z nD
      rw [upd_ne nb, upd_ne nb, upd_ne nb, upd_ne nb, upd_ne nb]
      exact z
    refine ⟨_, rfl, a, _, _, _, rfl, rfl, SqT.ext ss hs, atI_nat (j := 0) rfl, _, .inl ⟨LVL, .inr e.wd, .inl upd_same, rfl, rfl⟩, ?_⟩
    rw [lvl]
    exact q _ ss
theorem ok_atom {f : Addr} {fd : FuncData} (n : Nat) (F : Fun K "_law_print_atom" "_law_print_atom" s__law_print_atom f fd) (M : Mg mg) (c__law_quoted : Cl P w K mg base 1 "_law_quoted" sp_quoted) (c__law_print : Cl P w K mg base (2 * n + 2) "_law_print" (sp_lpr K n)) : FnOk P w K mg base CX0 (2 * n + 3) f fd ["expression"] (sp_atom K n) := by
  refine F.ok sc__law_print_atom (fun vs H Q E h => ?_) (fun cdv A outer s H vs Q E hr h => ?_)
  · obtain ⟨p, e, rfl, _⟩ := h
    rfl
  · obtain ⟨p, e, rfl, he, ok, h8l, hn, h8, q⟩ := h
    have hlen := pr_le ok h8
    refine ⟨_, (pss_cons (ps_set (i := 1) sc__law_print_atom.nd rfl (.inl rfl) (pe_ix (ix_tupK K) (pv 0) pe_int (fun _ _ => rfl)))
      (pss_cons (ps_if (pt_cmpR op_eq (pv 1) pe_str (nomark _)) (pss_one (ps_ret (pe_callTy call_str_int (by rfl) M.str (by decide +kernel) (pa_cons (pe_ix (ix_tupK K) (pv 0) pe_int (fun _ _ => rfl)) pa_nil)))) pss_nil)
      (pss_cons (ps_if (pt_cmpR op_eq (pv 1) pe_str (nomark _)) (pss_one (ps_ret (pe_u c__law_quoted hr (by first | decide | omega) (by rfl) (pa_cons (pe_ix (ix_tupK K) (pv 0) pe_int (fun _ _ => rfl)) pa_nil)))) pss_nil)
      (pss_cons (ps_if (pt_cmpR op_eq (pv 1) pe_str (nomark _)) (pss_one (ps_ret (pe_ix (ix_listK K) (pe_lst (pa_cons pe_str (pa_cons pe_str pa_nil))) (pe_ix (ix_tupK K) (pv 0) pe_int (fun _ _ => rfl)) (fun _ _ => rfl)))) pss_nil)
      (pss_cons (ps_if (pt_cmpR op_eq (pv 1) pe_str (nomark _)) (pss_one (ps_ret (pe_op op_add_str (pe_op op_add_str (pe_ix (ix_tupK K) (pv 0) pe_int (fun _ _ => rfl)) pe_str) (pe_ix (ix_tupK K) (pv 0) pe_int (fun _ _ => rfl))))) pss_nil)
      (pss_cons (ps_if (pt_cmpR op_eq (pv 1) pe_str (nomark _)) (pss_one (ps_ret (pe_ix (ix_tupK K) (pv 0) pe_int (fun _ _ => rfl)))) pss_nil)
      (pss_cons (ps_if (pt_cmpR op_eq (pv 1) pe_str (nomark _)) (pss_one (ps_ret pe_str)) pss_nil)
      (pss_one (ps_ret (pe_op op_add_str (pe_op op_add_str (pe_op op_add_str (pv 1) pe_str) (pe_join pe_str (pe_lc (own := [("part", 2)]) (g := gName 2) (tt := tYes) rfl sc__law_print_atom.nd (pi_tup (pe_slice sl_tup (pv 0) (po_some pe_int) po_none)) (blkOk_by (N := N__law_print_atom) (sc := defScope s__law_print_atom) (by decide +kernel)) (fun _ _ _ _ _ => (pg_name (i := 2) sc__law_print_atom.nd rfl (.inl rfl))) (fun _ _ _ _ _ => pts_nil) (fun _ _ _ _ _ => (pe_u c__law_print hr (by first | decide | omega) (by rfl) (pa_cons (pv 2) (pa_cons pe_int pa_nil))))))) pe_str)))))))))), ?_⟩
    by_cases hf : e.isf = true
    · rw [fn_d hf] at he
      obtain ⟨a, xs, rfl, hs, ha⟩ := dp_tup he
      obtain ⟨vs, rfl, h2⟩ := dp_cons ha
      obtain ⟨few1, few3⟩ := fn_few hf
      have hall := fn_all hf ok
      obtain ⟨wl, ww⟩ := fn_wd hf
      have ne : ∀ x : String, x ∈ ["number", "text", "truth", "field", "name", "null"] → decide (V.str e.wd = V.str (Str.ofString x)) = false := by
        intro x hx
        refine wd_form e x ?_
        simp only [List.mem_cons, List.not_mem_nil, or_false] at hx
        rcases ww with z | z | z | z | z <;> rw [z] <;> rcases hx with rfl | rfl | rfl | rfl | rfl | rfl <;> decide +kernel
      refine ⟨_, rfl, a, _, _, _, rfl, rfl, hs, atI_nat (j := 0) rfl, ?_⟩
      refine ⟨_, rfl, rfl, _, rfl, ?_⟩
      rw [ne "number" (by decide)]
      refine iteF ⟨_, rfl, rfl, _, rfl, ?_⟩
      rw [ne "text" (by decide)]
      refine iteF ⟨_, rfl, rfl, _, rfl, ?_⟩
      rw [ne "truth" (by decide)]
      refine iteF ⟨_, rfl, rfl, _, rfl, ?_⟩
      rw [ne "field" (by decide)]
      refine iteF ⟨_, rfl, rfl, _, rfl, ?_⟩
      rw [ne "name" (by decide)]
      refine iteF ⟨_, rfl, rfl, _, rfl, ?_⟩
      rw [ne "null" (by decide)]
      refine iteF ?_
      have hw : (⟨e.wd.cps.toList.toArray⟩ : Str) = e.wd := SX.S_tl e.wd
      have hwl : e.wd.cps.toList.length = e.wd.length := Array.length_toList
      have hp := fn_pr hf
      have hl := congrArg List.length hp
      rw [List.length_append, List.length_cons, List.length_append, List.length_singleton] at hl
      refine ⟨_, rfl, ?_⟩
      rw [← hw]
      refine ⟨_, _, rfl, rfl, add_len (l := [40]) (by show _ + 1 ≤ _; omega), ?_⟩
      rw [show (⟨e.wd.cps.toList.toArray⟩ : Str) ++ Str.ofString "(" = (⟨(e.wd.cps.toList ++ [40] : List Nat).toArray⟩ : Str) from add_eq _ [40]]
      refine ⟨⟨_, rfl⟩, _, rfl, _, rfl, a, _, rfl, by rw [hw] at *; exact hs, by show ¬ (1 = 0 ∧ _); exact fun z => absurd z.1 (by decide), fun D1 nD1 => ?_⟩
      have hvs : vs.length = e.fargs.length := by rw [DpAll.len h2, List.length_map]
      have hcut : cutV (V.str e.wd :: vs) (some 1) none = vs := by
        show ((V.str e.wd :: vs).drop 1).take (vs.length + 1 - 1) = vs
        simp
      rw [hcut]
      have s1 := same_upd nD1 (o := .tup vs)
      have hT : SqT K (upd H D1 (.tup vs)) D1 vs := .inl (.inl upd_same)
      refine ⟨D1, rfl, ⟨_, hT⟩, fun D nD => ?_⟩
      refine lc_tup (K := K) (a := D1) (xs := vs) (fun i Hi => Same (upd H D1 (.tup vs)) Hi ∧ Hi D = some (.lst (((e.fargs.take i).map fun e => (⟨e.pr.toArray⟩ : Str)).map V.str))) ⟨same_upd nD, upd_same⟩ (fun i Hi _ hp => SqT.ext hp.1 hT) (fun i x Hi hx hp => ?_) (fun Hn hp => ?_)
      · obtain ⟨si, eD⟩ := hp
        have hi : i < vs.length := (List.getElem?_eq_some_iff.mp hx).1
        have hie : i < e.fargs.length := by omega
        obtain ⟨x', hx', dx⟩ := DpAll.get (i := i) (d := (e.fargs[i]).d) h2 (by rw [List.getElem?_map, List.getElem?_eq_getElem hie]; rfl)
        obtain rfl : x = x' := Option.some.inj (hx.symm.trans hx')
        obtain ⟨xok, xht⟩ := hall _ (List.getElem_mem hie)
        refine ⟨rfl, ?_⟩
        refine ⟨_, rfl, x, e.fargs[i], 1, rfl, Dp.ext (s1.trans si) _ _ dx, xok, by omega, by omega, by decide, fun H' s' => ?_⟩
        rw [par1]
        refine ⟨_, s' _ _ eD, ?_, ?_, ?_⟩
        · rw [List.length_map, List.length_map, List.length_take]
          exact Nat.lt_of_lt_of_le (m := 1001) (by omega) (by decide)
        · intro b o z
          have nb : b ≠ D := ne_of_none z nD
          rw [upd_ne nb]
          exact s' _ _ (si _ _ z)
        · rw [upd_same, List.take_add_one, List.getElem?_eq_getElem hie, List.map_append, List.map_append]
          rfl
      · obtain ⟨sn, eD⟩ := hp
        rw [hvs, List.take_length] at eD
        have hsum := sum_pr e.fargs fun x hx => ⟨(hall x hx).1, by have := (hall x hx).2; omega⟩
        refine ⟨_, D, _, rfl, rfl, .inl (.of eD), ?_, ?_⟩
        · rw [List.length_map]
          show _ + e.fargs.length * 2 ≤ 16777216
          omega
        · rw [join_pr]
          refine ⟨_, _, rfl, rfl, add_len (L := e.wd.cps.toList ++ [40]) (by rw [List.length_append]; show _ + 1 + _ ≤ _; omega), ?_⟩
          rw [add_eq]
          refine ⟨_, _, rfl, rfl, add_len (L := e.wd.cps.toList ++ [40] ++ _) (l := [41]) (by rw [List.length_append, List.length_append]; show _ + 1 + _ + 1 ≤ _; omega), ?_⟩
          rw [show (⟨(e.wd.cps.toList ++ [40] ++ TL.joinL [44, 32] (e.fargs.map Ex.pr) : List Nat).toArray⟩ : Str) ++ Str.ofString ")" = (⟨(e.wd.cps.toList ++ [40] ++ TL.joinL [44, 32] (e.fargs.map Ex.pr) ++ [41] : List Nat).toArray⟩ : Str) from add_eq _ [41]]
          have fin := q Hn ((s1.trans sn))
          rw [hp] at fin
          have he2 : e.wd.cps.toList ++ [40] ++ TL.joinL [44, 32] (e.fargs.map Ex.pr) ++ [41] = e.wd.cps.toList ++ 40 :: (TL.joinL [44, 32] (e.fargs.map Ex.pr) ++ [41]) := by simp
          rw [← he2] at fin
          exact fin
    cases e with
    | num n =>
      obtain ⟨a, xs, rfl, hs, ha⟩ := dp_tup he
      obtain ⟨v, rfl, hv⟩ := dp_two ha
      cases hv
      refine ⟨_, rfl, a, _, _, _, rfl, rfl, hs, atI_nat (j := 0) rfl, ?_⟩
      refine ⟨_, rfl, rfl, _, rfl, iteT ?_⟩
      refine ⟨_, rfl, a, _, _, _, rfl, rfl, hs, atI_nat (j := 1) rfl, _, rfl, num_log ok, ?_⟩
      rw [num_S]
      exact q H (Same.refl H)
    | text l =>
      obtain ⟨a, xs, rfl, hs, ha⟩ := dp_tup he
      obtain ⟨v, rfl, hv⟩ := dp_two ha
      cases hv
      have ol : l.length ≤ 100 := ok.1
      refine ⟨_, rfl, a, _, _, _, rfl, rfl, hs, atI_nat (j := 0) rfl, ?_⟩
      refine ⟨_, rfl, rfl, _, rfl, iteF ?_⟩
      refine ⟨_, rfl, rfl, _, rfl, iteT ?_⟩
      exact ⟨_, rfl, a, _, _, _, rfl, rfl, hs, atI_nat (j := 1) rfl, l, rfl, by omega, q H (Same.refl H)⟩
    | truth b =>
      obtain ⟨a, xs, rfl, hs, ha⟩ := dp_tup he
      obtain ⟨v, rfl, hv⟩ := dp_two ha
      cases hv
      refine ⟨_, rfl, a, _, _, _, rfl, rfl, hs, atI_nat (j := 0) rfl, ?_⟩
      refine ⟨_, rfl, rfl, _, rfl, iteF ?_⟩
      refine ⟨_, rfl, rfl, _, rfl, iteF ?_⟩
      refine ⟨_, rfl, rfl, _, rfl, iteT ?_⟩
      refine ⟨by show 2 ≤ sizeLine; decide, fun D nD => ?_⟩
      have s1 := same_upd nD (o := .lst [.str "false", .str "true"])
      refine ⟨_, rfl, a, _, _, _, rfl, rfl, SqT.ext s1 hs, atI_nat (j := 1) rfl, ?_⟩
      cases b
      · exact ⟨D, _, _, _, rfl, rfl, .of upd_same, atI_nat (j := 0) rfl, q _ s1⟩
      · exact ⟨D, _, _, _, rfl, rfl, .of upd_same, atI_nat (j := 1) rfl, q _ s1⟩
    | null =>
      obtain ⟨a, ys, rfl, hs⟩ := ex_word he
      refine ⟨_, rfl, a, _, _, _, rfl, rfl, hs, atI_nat (j := 0) rfl, ?_⟩
      refine ⟨_, rfl, rfl, _, rfl, iteF ?_⟩
      refine ⟨_, rfl, rfl, _, rfl, iteF ?_⟩
      refine ⟨_, rfl, rfl, _, rfl, iteF ?_⟩
      refine ⟨_, rfl, rfl, _, rfl, iteF ?_⟩
      refine ⟨_, rfl, rfl, _, rfl, iteF ?_⟩
      refine ⟨_, rfl, rfl, _, rfl, iteT ?_⟩
      exact q H (Same.refl H)
    | name l =>
      obtain ⟨a, xs, rfl, hs, ha⟩ := dp_tup he
      obtain ⟨v, rfl, hv⟩ := dp_two ha
      cases hv
      refine ⟨_, rfl, a, _, _, _, rfl, rfl, hs, atI_nat (j := 0) rfl, ?_⟩
      refine ⟨_, rfl, rfl, _, rfl, iteF ?_⟩
      refine ⟨_, rfl, rfl, _, rfl, iteF ?_⟩
      refine ⟨_, rfl, rfl, _, rfl, iteF ?_⟩
      refine ⟨_, rfl, rfl, _, rfl, iteF ?_⟩
      refine ⟨_, rfl, rfl, _, rfl, iteT ?_⟩
      exact ⟨_, rfl, a, _, _, _, rfl, rfl, hs, atI_nat (j := 1) rfl, q H (Same.refl H)⟩
    | field l m =>
      obtain ⟨a, xs, rfl, hs, ha⟩ := dp_tup he
      obtain ⟨v, u, rfl, hv, hu⟩ := dp_three ha
      cases hv
      cases hu
      have ol : l.length ≤ 21 := ok.1
      have om : m.length ≤ 21 := ok.2
      refine ⟨_, rfl, a, _, _, _, rfl, rfl, hs, atI_nat (j := 0) rfl, ?_⟩
      refine ⟨_, rfl, rfl, _, rfl, iteF ?_⟩
      refine ⟨_, rfl, rfl, _, rfl, iteF ?_⟩
      refine ⟨_, rfl, rfl, _, rfl, iteF ?_⟩
      refine ⟨_, rfl, rfl, _, rfl, iteT ?_⟩
      refine ⟨_, rfl, a, _, _, _, rfl, rfl, hs, atI_nat (j := 1) rfl, ?_⟩
      refine ⟨_, _, rfl, rfl, add_len (l := [46]) (by show l.length + 1 ≤ _; omega), ?_⟩
      rw [show (⟨l.toArray⟩ : Str) ++ Str.ofString "." = (⟨(l ++ [46] : List Nat).toArray⟩ : Str) from SX.S_cat l [46]]
      refine ⟨_, rfl, a, _, _, _, rfl, rfl, hs, atI_nat (j := 2) rfl, ?_⟩
      refine ⟨_, _, rfl, rfl, add_len (L := l ++ [46]) (l := m) (by rw [List.length_append]; show l.length + 1 + _ ≤ _; omega), ?_⟩
      rw [add_eq (l ++ [46]) m]
      have fin := q H (Same.refl H)
      rw [show (Ex.field l m).pr = l ++ [46] ++ m by show l ++ 46 :: m = _; simp] at fin
      exact fin
    | neg x => cases h8l
    | nt x => cases h8l
    | bin o x y => cases o <;> cases h8l
    | _ => exact absurd rfl hf
theorem ok_lpr {f : Addr} {fd : FuncData} (n : Nat) (F : Fun K "_law_print" "_law_print" s__law_print f fd) (M : Mg mg) (c__law_level : Cl P w K mg base 1 "_law_level" (sp_level K)) (c__law_print : Cl P w K mg base (2 * n + 2) "_law_print" (sp_lpr K n)) (c__law_print_atom : Cl P w K mg base (2 * n + 3) "_law_print_atom" (sp_atom K n)) : FnOk P w K mg base CX0 (2 * n + 4) f fd ["expression", "wanted"] (sp_lpr K (n + 1)) := by
  refine F.ok sc__law_print (fun vs H Q E h => ?_) (fun cdv A outer s H vs Q E hr h => ?_)
  · obtain ⟨p, e, k, rfl, _⟩ := h
    rfl
  · obtain ⟨p, e, k, rfl, he, ok, hn, h8, hk, q⟩ := h
    have hlen := pr_le ok h8
    obtain ⟨t, ht, hq⟩ : ∃ t, PSs (cxOf CX0 P w K mg base N__law_print "_law_print" (defScope s__law_print) f cdv A outer s H E).nox ((defBody s__law_print).drop 3) t ∧ ∀ (H' : Hp) (y : Option V), Same H H' → t { nx := fun _ H' => Q .non H', rt := Q } [some p, some (.int (k : Nat)), some (.int (e.lev : Nat)), some (.str ⟨e.pr.toArray⟩), y] H' := by
      refine ⟨_, (pss_cons (ps_if (pt_cmpR op_lt (pv 2) (pv 1) (nomark _)) (pss_one (ps_ret (pe_op op_add_str (pe_op op_add_str pe_str (pv 3)) pe_str))) pss_nil)
      (pss_one (ps_ret (pv 3)))), fun H' y s' => ?_⟩
      have fin := q H' s'
      refine ⟨_, rfl, _, rfl, _, _, rfl, rfl, _, rfl, ite2 (fun z => ?_) (fun z => ?_)⟩
      · have z1 : ((e.lev : Nat) : Int) < ((k : Nat) : Int) := of_decide_eq_true z
        have z2 : decide (e.lev < k) = true := decide_eq_true (by omega)
        rw [z2] at fin
        refine ⟨_, rfl, _, _, rfl, rfl, add_len (L := [40]) (by show 1 + _ ≤ _; omega), ?_⟩
        rw [show Str.ofString "(" ++ (⟨e.pr.toArray⟩ : Str) = (⟨([40] ++ e.pr : List Nat).toArray⟩ : Str) from add_eq [40] _]
        refine ⟨_, _, rfl, rfl, add_len (L := [40] ++ e.pr) (l := [41]) (by rw [List.length_append]; show 1 + _ + 1 ≤ _; omega), ?_⟩
        rw [show (⟨([40] ++ e.pr : List Nat).toArray⟩ : Str) ++ Str.ofString ")" = (⟨([40] ++ e.pr ++ [41] : List Nat).toArray⟩ : Str) from add_eq _ [41]]
        exact fin
      · have z1 : ¬ ((e.lev : Nat) : Int) < ((k : Nat) : Int) := fun y => z (decide_eq_true y)
        have z2 : decide (e.lev < k) = false := decide_eq_false (by omega)
        rw [z2] at fin
        exact ⟨_, rfl, fin⟩
    refine ⟨_, (pss_cons (ps_set (i := 2) sc__law_print.nd rfl (.inl rfl) (pe_u c__law_level hr (by first | decide | omega) (by rfl) (pa_cons (pv 0) pa_nil)))
      (pss_cons (ps_if (pt_cmpR op_eq (pv 2) pe_int (nomark _)) (pss_one (ps_ret (pe_u c__law_print_atom hr (by first | decide | omega) (by rfl) (pa_cons (pv 0) pa_nil)))) pss_nil)
      (pss_cons (ps_if (pt_cmpR op_eq (pv 2) pe_int (nomark _)) (pss_one (ps_set (i := 3) sc__law_print.nd rfl (.inl rfl) (pe_op op_add_str pe_str (pe_u c__law_print hr (by first | decide | omega) (by rfl) (pa_cons (pe_ix (ix_tupK K) (pv 0) pe_int (fun _ _ => rfl)) (pa_cons pe_int pa_nil)))))) (pss_one (ps_if (pt_cmpR op_eq (pv 2) pe_int (nomark _)) (pss_one (ps_set (i := 3) sc__law_print.nd rfl (.inl rfl) (pe_op op_add_str pe_str (pe_u c__law_print hr (by first | decide | omega) (by rfl) (pa_cons (pe_ix (ix_tupK K) (pv 0) pe_int (fun _ _ => rfl)) (pa_cons pe_int pa_nil)))))) (pss_cons (ps_set (i := 4) sc__law_print.nd rfl (.inl rfl) (pe_u c__law_print hr (by first | decide | omega) (by rfl) (pa_cons (pe_ix (ix_tupK K) (pv 0) pe_int (fun _ _ => rfl)) (pa_cons (pe_op op_add (pv 2) (pe_callTy call_int1 (by rfl) M.int (by decide +kernel) (pa_cons (pe_cmpR op_eq (pv 2) pe_int (nomark _)) pa_nil))) pa_nil))))
      (pss_one (ps_set (i := 3) sc__law_print.nd rfl (.inl rfl) (pe_op op_add_str (pe_op op_add_str (pe_op op_add_str (pe_op op_add_str (pv 4) pe_str) (pe_ix (ix_tupK K) (pv 0) pe_int (fun _ _ => rfl))) pe_str) (pe_u c__law_print hr (by first | decide | omega) (by rfl) (pa_cons (pe_ix (ix_tupK K) (pv 0) pe_int (fun _ _ => rfl)) (pa_cons (pe_op op_add (pv 2) pe_int) pa_nil))))))))))
      ht))), ?_⟩
    refine ⟨_, rfl, p, e, rfl, he, fun H1 s1 => ?_⟩
    have he1 := Dp.ext s1 _ _ he
    by_cases h8l : e.lev = 8
    · refine ⟨_, rfl, rfl, _, rfl, ?_⟩
      rw [h8l]
      refine iteT ⟨_, rfl, p, e, rfl, he1, ok, h8l, hn, h8, fun H2 s2 => ?_⟩
      have fin := q H2 (s1.trans s2)
      rw [par8 e k h8l hk] at fin
      exact fin
    refine ⟨_, rfl, rfl, _, rfl, ?_⟩
    rw [show decide (V.int (e.lev : Nat) = V.int 8) = false from decide_eq_false fun z => h8l (by have := V.int.inj z; omega)]
    refine iteF ?_
    cases e with
    | num n => exact absurd rfl h8l
    | text n => exact absurd rfl h8l
    | truth n => exact absurd rfl h8l
    | null => exact absurd rfl h8l
    | name n => exact absurd rfl h8l
    | field n m => exact absurd rfl h8l
    | f1 m a => exact absurd rfl h8l
    | f2 m a b => exact absurd rfl h8l
    | f3 a b c => exact absurd rfl h8l
    | neg x =>
      obtain ⟨a, xs, rfl, hs, ha⟩ := dp_tup he1
      obtain ⟨v, rfl, hv⟩ := dp_two ha
      have hx : x.ht + 1 < n + 1 := hn
      have hx8 : x.ht + 1 ≤ 8 := h8
      have pl := par_len (decide (x.lev < 7)) x.pr
      have xl := pr_le (e := x) ok (by omega)
      refine ⟨_, rfl, rfl, _, rfl, iteT ?_⟩
      refine ⟨_, rfl, a, _, _, _, rfl, rfl, hs, atI_nat (j := 1) rfl, v, x, 7, rfl, hv, ok, by omega, by omega, by decide, fun H' s' => ?_⟩
      refine ⟨_, _, rfl, rfl, add_len (L := [45]) (by show 1 + _ ≤ _; omega), ?_⟩
      rw [show Str.ofString "-" ++ (⟨(par (decide (x.lev < 7)) x.pr).toArray⟩ : Str) = (⟨([45] ++ par (decide (x.lev < 7)) x.pr : List Nat).toArray⟩ : Str) from add_eq [45] _]
      exact hq H' _ (s1.trans s')
    | nt x =>
      obtain ⟨a, xs, rfl, hs, ha⟩ := dp_tup he1
      obtain ⟨v, rfl, hv⟩ := dp_two ha
      have hx : x.ht + 1 < n + 1 := hn
      have hx8 : x.ht + 1 ≤ 8 := h8
      have pl := par_len (decide (x.lev < 3)) x.pr
      have xl := pr_le (e := x) ok (by omega)
      refine ⟨_, rfl, rfl, _, rfl, iteF ?_⟩
      refine ⟨_, rfl, rfl, _, rfl, iteT ?_⟩
      refine ⟨_, rfl, a, _, _, _, rfl, rfl, hs, atI_nat (j := 1) rfl, v, x, 3, rfl, hv, ok, by omega, by omega, by decide, fun H' s' => ?_⟩
      refine ⟨_, _, rfl, rfl, add_len (L := codes "not ") (by rw [show (codes "not ").length = 4 by decide]; omega), ?_⟩
      rw [show Str.ofString "not " ++ (⟨(par (decide (x.lev < 3)) x.pr).toArray⟩ : Str) = (⟨(codes "not " ++ par (decide (x.lev < 3)) x.pr : List Nat).toArray⟩ : Str) from add_eq (codes "not ") _]
      exact hq H' _ (s1.trans s')
    | bin o x y =>
      obtain ⟨a, xs, rfl, hs, ha⟩ := dp_tup he1
      obtain ⟨v, u, rfl, hv, hu⟩ := dp_three ha
      have hx : max x.ht y.ht + 1 < n + 1 := hn
      have hx8 : max x.ht y.ht + 1 ≤ 8 := h8
      have pl1 := par_len (decide (x.lev < o.lf)) x.pr
      have pl2 := par_len (decide (y.lev < o.rt)) y.pr
      have xl := pr_le (e := x) ok.1 (by omega)
      have yl := pr_le (e := y) ok.2 (by omega)
      have ol := o.sl
      have o7 : o.lv ≠ 7 ∧ o.lv ≠ 3 ∧ o.lf ≤ 7 ∧ o.rt = o.lv + 1 ∧ o.rt ≤ 7 ∧ o.lf = (if o.lv = 4 then o.lv + 1 else o.lv) := by cases o <;> decide
      obtain ⟨o7, o3, lf7, rtv, rt7, lfv⟩ := o7
      refine ⟨_, rfl, rfl, _, rfl, ?_⟩
      rw [show decide (V.int ((Ex.bin o x y).lev : Nat) = V.int 7) = false from decide_eq_false fun z => o7 (by have := V.int.inj z; show (Ex.bin o x y).lev = 7; omega)]
      refine iteF ⟨_, rfl, rfl, _, rfl, ?_⟩
      rw [show decide (V.int ((Ex.bin o x y).lev : Nat) = V.int 3) = false from decide_eq_false fun z => o3 (by have := V.int.inj z; show (Ex.bin o x y).lev = 3; omega)]
      refine iteF ?_
      have e4 : ∀ v : V, [v, V.int (((Ex.bin o x y).lev : Nat) + (if decide (V.int ((Ex.bin o x y).lev : Nat) = V.int 4) = true then 1 else 0))] = [v, V.int (o.lf : Nat)] := fun v => by cases o <;> rfl
      have e1 : ∀ v : V, [v, V.int (((Ex.bin o x y).lev : Nat) + 1)] = [v, V.int (o.rt : Nat)] := fun v => by cases o <;> rfl
      refine ⟨_, rfl, a, _, _, _, rfl, rfl, hs, atI_nat (j := 1) rfl, _, rfl, _, rfl, rfl, .inr ⟨_, rfl, _, _, rfl, rfl, v, x, o.lf, e4 v, hv, ok.1, by omega, by omega, lf7, fun H2 s2 => ?_⟩⟩
      have hs2 := SqT.ext s2 hs
      refine ⟨_, rfl, _, _, rfl, rfl, add_len (l := [32]) (by show _ + 1 ≤ _; omega), ?_⟩
      rw [show (⟨(par (decide (x.lev < o.lf)) x.pr).toArray⟩ : Str) ++ Str.ofString " " = (⟨(par (decide (x.lev < o.lf)) x.pr ++ [32] : List Nat).toArray⟩ : Str) from add_eq _ [32]]
      have ow : o.w = ⟨(codes o.s).toArray⟩ := codes_S _
      rw [ow] at hs2
      refine ⟨_, rfl, a, _, _, _, rfl, rfl, hs2, atI_nat (j := 0) rfl, _, _, rfl, rfl, add_len (by rw [List.length_append]; show _ + 1 + _ ≤ _; omega), ?_⟩
      rw [add_eq]
      refine ⟨_, _, rfl, rfl, add_len (l := [32]) (by rw [List.length_append, List.length_append]; show _ + 1 + _ + 1 ≤ _; omega), ?_⟩
      rw [show (⟨(par (decide (x.lev < o.lf)) x.pr ++ [32] ++ codes o.s : List Nat).toArray⟩ : Str) ++ Str.ofString " " = (⟨(par (decide (x.lev < o.lf)) x.pr ++ [32] ++ codes o.s ++ [32] : List Nat).toArray⟩ : Str) from add_eq _ [32]]
      refine ⟨_, rfl, a, _, _, _, rfl, rfl, hs2, atI_nat (j := 2) rfl, _, rfl, _, _, rfl, rfl, u, y, o.rt, e1 u, Dp.ext s2 _ _ hu, ok.2, by omega, by omega, rt7, fun H3 s3 => ?_⟩
      refine ⟨_, _, rfl, rfl, add_len (by simp only [List.length_append]; show _ + 1 + _ + 1 + _ ≤ _; omega), ?_⟩
      rw [add_eq]
      have fin := hq H3 (some (.str ⟨(par (decide (x.lev < o.lf)) x.pr).toArray⟩)) ((s1.trans s2).trans s3)
      have e2 : (Ex.bin o x y).pr = par (decide (x.lev < o.lf)) x.pr ++ [32] ++ codes o.s ++ [32] ++ par (decide (y.lev < o.rt)) y.pr := by
        show par _ _ ++ 32 :: (codes o.s ++ 32 :: par _ _) = _
        simp
      rw [e2] at fin
      exact fin
theorem cl_lpr {f fa : Addr} {fd da : FuncData} (F : Fun K "_law_print" "_law_print" s__law_print f fd) (FA : Fun K "_law_print_atom" "_law_print_atom" s__law_print_atom fa da) (M : Mg mg) (g : mg "_law_print" = some (.ref f)) (b : Binds K fd ["expression", "wanted"] []) (ga : mg "_law_print_atom" = some (.ref fa)) (ba : Binds K da ["expression"] []) (c__law_level : Cl P w K mg base 1 "_law_level" (sp_level K)) (c__law_quoted : Cl P w K mg base 1 "_law_quoted" sp_quoted) : ∀ n, Cl P w K mg base (2 * n + 2) "_law_print" (sp_lpr K n)
  | 0 => FnOk.cl (P := P) (w := w) (base := base) (F.ok sc__law_print (fun vs H Q E h => by obtain ⟨p, e, k, rfl, _⟩ := h; rfl) (fun cdv A outer s H vs Q E hr h => by obtain ⟨p, e, k, rfl, _, _, hm, _⟩ := h; omega)) F g b
  | n + 1 => FnOk.cl (ok_lpr n F M c__law_level (cl_lpr F FA M g b ga ba c__law_level c__law_quoted n) (FnOk.cl (ok_atom n FA M c__law_quoted (cl_lpr F FA M g b ga ba c__law_level c__law_quoted n)) FA ga ba)) F g b
end

def sp_law (K : PySem.W.Frag) : Sp := fun vs H Q _ => ∃ (a : Addr) (ns : List Int), vs = [.ref a] ∧ SqL K H a (ns.map V.int) ∧ ns.length ≤ 63 ∧ ∀ H', Q (.bl true) H'
section
variable {P : Program} {w : World} {K : PySem.W.Frag} {mg : Str → Option Value} {base : Heap}
theorem ok_law {f : Addr} {fd : FuncData} (F : Fun K "law" "law" s_law f fd) (M : Mg mg) (c__law_draw : Cl P w K mg base 1 "_law_draw" (sp_draw K)) (c__law_next : Cl P w K mg base 1 "_law_next" sp_next) (c__law_expression : Cl P w K mg base 8 "_law_expression" (sp_lex K 5)) (c_print_expression : Cl P w K mg base 12 "print_expression" (sp_pr K 5)) (c__law_print : Cl P w K mg base 12 "_law_print" (sp_lpr K 5)) : FnOk P w K mg base CX0 13 f fd ["script"] (sp_law K) := by
  refine F.ok sc_law (fun vs H Q E h => ?_) (fun cdv A outer s H vs Q E hr h => ?_)
  · obtain ⟨a, ns, rfl, _⟩ := h
    rfl
  · obtain ⟨a, ns, rfl, hS, _, q⟩ := h
    refine ⟨_, (pss_cons (ps_set (i := 1) sc_law.nd rfl (.inl rfl) (pe_u c__law_draw hr (by first | decide | omega) (by rfl) (pa_cons (pv 0) pa_nil)))
      (pss_cons (ps_set (i := 2) sc_law.nd rfl (.inl rfl) (pe_u c__law_expression hr (by first | decide | omega) (by rfl) (pa_cons (pv 1) (pa_cons (pe_op op_add pe_int (pe_u c__law_next hr (by first | decide | omega) (by rfl) (pa_cons (pv 1) (pa_cons pe_int pa_nil)))) pa_nil))))
      (pss_cons (ps_set (i := 3) sc_law.nd rfl (.inl rfl) (pe_u c_print_expression hr (by first | decide | omega) (by rfl) (pa_cons (pv 2) pa_nil)))
      (pss_one (ps_ret (pe_and (pe_callB (isiK K) (by rfl) M.isinstance (by decide +kernel) (pa_cons (pv 3) (pa_cons (pe_bltn (v := .ty "str") (by rfl) M.str (by decide +kernel) rfl) pa_nil))) (pe_one (pe_cmpR op_eq (pv 3) (pe_u c__law_print hr (by first | decide | omega) (by rfl) (pa_cons (pv 2) (pa_cons pe_int pa_nil))) (nomark _))))))))), ?_⟩
    refine ⟨_, rfl, a, ns, rfl, hS, fun H1 d c s1 nd dr => ?_⟩
    refine ⟨_, rfl, _, rfl, d, c, 4, rfl, dr, by decide, by decide, fun H2 r f2 _ dr2 r0 r1 => ?_⟩
    obtain ⟨k, rfl⟩ := Int.eq_ofNat_of_zero_le r0
    refine ⟨_, _, rfl, rfl, d, c, 1 + k, rfl, by omega, dr2, fun H3 p e f3 dr3 ok ht dp => ?_⟩
    refine ⟨_, rfl, p, e, rfl, dp, ok, by omega, by omega, fun H4 s4 => ?_⟩
    have ty : TyX K H4 (.str ⟨e.pr.toArray⟩) (.type "str") := .base (.str _)
    refine ⟨_, rfl, ⟨_, _, _, _, _, rfl, .ty _, ty, kit_ty (show kitB _ _ = some true by decide +kernel), _, rfl, ?_⟩⟩
    refine iteT ?_
    refine ⟨_, rfl, _, rfl, p, e, 1, rfl, Dp.ext s4 _ _ dp, ok, by omega, by omega, by decide, fun H5 s5 => ?_⟩
    rw [par1]
    refine ⟨rfl, ?_⟩
    rw [decide_eq_true rfl]
    exact q _
end

theorem all_mk {l : PySem.W.OpenLaw} {w : World} {K : PySem.W.Frag} {h : Heap} {mg : Str → Option Value} {fa : Addr} (X : K.In h) (G : h.Ns mainGlobals mg) (hfa : mg "law" = some (.ref fa))
    {od0 an0 : Option Addr} {sl0 : Array (Option Value)} {oc0 kV0 dc0 pm0 cd0 ct0 : Value} {f0 : Addr}
    {od1 an1 : Option Addr} {sl1 : Array (Option Value)} {oc1 kV1 dc1 pm1 cd1 ct1 : Value} {f1 : Addr}
    {od2 an2 : Option Addr} {sl2 : Array (Option Value)} {oc2 kV2 dc2 pm2 cd2 ct2 : Value} {f2 : Addr}
    {od3 an3 : Option Addr} {sl3 : Array (Option Value)} {oc3 kV3 dc3 pm3 cd3 ct3 : Value} {f3 : Addr}
    {od4 an4 : Option Addr} {sl4 : Array (Option Value)} {oc4 kV4 dc4 pm4 cd4 ct4 : Value} {f4 : Addr}
    {od5 an5 : Option Addr} {sl5 : Array (Option Value)} {oc5 kV5 dc5 pm5 cd5 ct5 : Value} {f5 : Addr}
    {od6 an6 : Option Addr} {sl6 : Array (Option Value)} {oc6 kV6 dc6 pm6 cd6 ct6 : Value} {f6 : Addr}
    {od7 an7 : Option Addr} {sl7 : Array (Option Value)} {oc7 kV7 dc7 pm7 cd7 ct7 : Value} {f7 : Addr}
    {od8 an8 : Option Addr} {sl8 : Array (Option Value)} {oc8 kV8 dc8 pm8 cd8 ct8 : Value} {f8 : Addr}
    {od9 an9 : Option Addr} {sl9 : Array (Option Value)} {oc9 kV9 dc9 pm9 cd9 ct9 : Value} {f9 : Addr}
    {od10 an10 : Option Addr} {sl10 : Array (Option Value)} {oc10 kV10 dc10 pm10 cd10 ct10 : Value} {f10 : Addr}
    {od11 an11 : Option Addr} {sl11 : Array (Option Value)} {oc11 kV11 dc11 pm11 cd11 ct11 : Value} {f11 : Addr}
    {od12 an12 : Option Addr} {sl12 : Array (Option Value)} {oc12 kV12 dc12 pm12 cd12 ct12 : Value} {f12 : Addr}
    {od13 an13 : Option Addr} {sl13 : Array (Option Value)} {oc13 kV13 dc13 pm13 cd13 ct13 : Value} {f13 : Addr}
    {od14 an14 : Option Addr} {sl14 : Array (Option Value)} {oc14 kV14 dc14 pm14 cd14 ct14 : Value} {f14 : Addr}
    {od15 an15 : Option Addr} {sl15 : Array (Option Value)} {oc15 kV15 dc15 pm15 cd15 ct15 : Value} {f15 : Addr}
    {od16 an16 : Option Addr} {sl16 : Array (Option Value)} {oc16 kV16 dc16 pm16 cd16 ct16 : Value} {f16 : Addr}
    {od17 an17 : Option Addr} {sl17 : Array (Option Value)} {oc17 kV17 dc17 pm17 cd17 ct17 : Value} {f17 : Addr}
    (a0 : PySem.W.nsIn K mainGlobals "print_expression" = some (some (.ref f0))) (l0 : K.lookup f0 = some ⟨oc0, od0, .func (PySem.W.fnOf "print_expression" "print_expression" (defArgs s_print_expression) (defBody s_print_expression) (defScope s_print_expression) .none kV0 dc0 pm0 an0 cd0 ct0), sl0⟩) (c0 : PySem.W.codeIn K cd0 "print_expression" = true) (k0 : PySem.W.keepIn K (.ref f0) = true)
    (a1 : PySem.W.nsIn K mainGlobals "inner_text" = some (some (.ref f1))) (l1 : K.lookup f1 = some ⟨oc1, od1, .func (PySem.W.fnOf "inner_text" "inner_text" (defArgs s_inner_text) (defBody s_inner_text) (defScope s_inner_text) .none kV1 dc1 pm1 an1 cd1 ct1), sl1⟩) (c1 : PySem.W.codeIn K cd1 "inner_text" = true) (k1 : PySem.W.keepIn K (.ref f1) = true)
    (a2 : PySem.W.nsIn K mainGlobals "closeness" = some (some (.ref f2))) (l2 : K.lookup f2 = some ⟨oc2, od2, .func (PySem.W.fnOf "closeness" "closeness" (defArgs s_closeness) (defBody s_closeness) (defScope s_closeness) .none kV2 dc2 pm2 an2 cd2 ct2), sl2⟩) (c2 : PySem.W.codeIn K cd2 "closeness" = true) (k2 : PySem.W.keepIn K (.ref f2) = true)
    (a3 : PySem.W.nsIn K mainGlobals "leaf_text" = some (some (.ref f3))) (l3 : K.lookup f3 = some ⟨oc3, od3, .func (PySem.W.fnOf "leaf_text" "leaf_text" (defArgs s_leaf_text) (defBody s_leaf_text) (defScope s_leaf_text) .none kV3 dc3 pm3 an3 cd3 ct3), sl3⟩) (c3 : PySem.W.codeIn K cd3 "leaf_text" = true) (k3 : PySem.W.keepIn K (.ref f3) = true)
    (a4 : PySem.W.nsIn K mainGlobals "_law_draw" = some (some (.ref f4))) (l4 : K.lookup f4 = some ⟨oc4, od4, .func (PySem.W.fnOf "_law_draw" "_law_draw" (defArgs s__law_draw) (defBody s__law_draw) (defScope s__law_draw) .none kV4 dc4 pm4 an4 cd4 ct4), sl4⟩) (c4 : PySem.W.codeIn K cd4 "_law_draw" = true) (k4 : PySem.W.keepIn K (.ref f4) = true)
    (a5 : PySem.W.nsIn K mainGlobals "_law_next" = some (some (.ref f5))) (l5 : K.lookup f5 = some ⟨oc5, od5, .func (PySem.W.fnOf "_law_next" "_law_next" (defArgs s__law_next) (defBody s__law_next) (defScope s__law_next) .none kV5 dc5 pm5 an5 cd5 ct5), sl5⟩) (c5 : PySem.W.codeIn K cd5 "_law_next" = true) (k5 : PySem.W.keepIn K (.ref f5) = true)
    (a6 : PySem.W.nsIn K mainGlobals "_law_reserved" = some (some (.ref f6))) (l6 : K.lookup f6 = some ⟨oc6, od6, .func (PySem.W.fnOf "_law_reserved" "_law_reserved" (defArgs s__law_reserved) (defBody s__law_reserved) (defScope s__law_reserved) .none kV6 dc6 pm6 an6 cd6 ct6), sl6⟩) (c6 : PySem.W.codeIn K cd6 "_law_reserved" = true) (k6 : PySem.W.keepIn K (.ref f6) = true)
    (a7 : PySem.W.nsIn K mainGlobals "_law_name" = some (some (.ref f7))) (l7 : K.lookup f7 = some ⟨oc7, od7, .func (PySem.W.fnOf "_law_name" "_law_name" (defArgs s__law_name) (defBody s__law_name) (defScope s__law_name) .none kV7 dc7 pm7 an7 cd7 ct7), sl7⟩) (c7 : PySem.W.codeIn K cd7 "_law_name" = true) (k7 : PySem.W.keepIn K (.ref f7) = true)
    (a8 : PySem.W.nsIn K mainGlobals "_law_string" = some (some (.ref f8))) (l8 : K.lookup f8 = some ⟨oc8, od8, .func (PySem.W.fnOf "_law_string" "_law_string" (defArgs s__law_string) (defBody s__law_string) (defScope s__law_string) .none kV8 dc8 pm8 an8 cd8 ct8), sl8⟩) (c8 : PySem.W.codeIn K cd8 "_law_string" = true) (k8 : PySem.W.keepIn K (.ref f8) = true)
    (a9 : PySem.W.nsIn K mainGlobals "_law_quoted" = some (some (.ref f9))) (l9 : K.lookup f9 = some ⟨oc9, od9, .func (PySem.W.fnOf "_law_quoted" "_law_quoted" (defArgs s__law_quoted) (defBody s__law_quoted) (defScope s__law_quoted) .none kV9 dc9 pm9 an9 cd9 ct9), sl9⟩) (c9 : PySem.W.codeIn K cd9 "_law_quoted" = true) (k9 : PySem.W.keepIn K (.ref f9) = true)
    (a10 : PySem.W.nsIn K mainGlobals "_law_number" = some (some (.ref f10))) (l10 : K.lookup f10 = some ⟨oc10, od10, .func (PySem.W.fnOf "_law_number" "_law_number" (defArgs s__law_number) (defBody s__law_number) (defScope s__law_number) .none kV10 dc10 pm10 an10 cd10 ct10), sl10⟩) (c10 : PySem.W.codeIn K cd10 "_law_number" = true) (k10 : PySem.W.keepIn K (.ref f10) = true)
    (a11 : PySem.W.nsIn K mainGlobals "_law_signs" = some (some (.ref f11))) (l11 : K.lookup f11 = some ⟨oc11, od11, .func (PySem.W.fnOf "_law_signs" "_law_signs" (defArgs s__law_signs) (defBody s__law_signs) (defScope s__law_signs) .none kV11 dc11 pm11 an11 cd11 ct11), sl11⟩) (c11 : PySem.W.codeIn K cd11 "_law_signs" = true) (k11 : PySem.W.keepIn K (.ref f11) = true)
    (a12 : PySem.W.nsIn K mainGlobals "_law_leaf" = some (some (.ref f12))) (l12 : K.lookup f12 = some ⟨oc12, od12, .func (PySem.W.fnOf "_law_leaf" "_law_leaf" (defArgs s__law_leaf) (defBody s__law_leaf) (defScope s__law_leaf) .none kV12 dc12 pm12 an12 cd12 ct12), sl12⟩) (c12 : PySem.W.codeIn K cd12 "_law_leaf" = true) (k12 : PySem.W.keepIn K (.ref f12) = true)
    (a13 : PySem.W.nsIn K mainGlobals "_law_expression" = some (some (.ref f13))) (l13 : K.lookup f13 = some ⟨oc13, od13, .func (PySem.W.fnOf "_law_expression" "_law_expression" (defArgs s__law_expression) (defBody s__law_expression) (defScope s__law_expression) .none kV13 dc13 pm13 an13 cd13 ct13), sl13⟩) (c13 : PySem.W.codeIn K cd13 "_law_expression" = true) (k13 : PySem.W.keepIn K (.ref f13) = true)
    (a14 : PySem.W.nsIn K mainGlobals "_law_level" = some (some (.ref f14))) (l14 : K.lookup f14 = some ⟨oc14, od14, .func (PySem.W.fnOf "_law_level" "_law_level" (defArgs s__law_level) (defBody s__law_level) (defScope s__law_level) .none kV14 dc14 pm14 an14 cd14 ct14), sl14⟩) (c14 : PySem.W.codeIn K cd14 "_law_level" = true) (k14 : PySem.W.keepIn K (.ref f14) = true)
    (a15 : PySem.W.nsIn K mainGlobals "_law_print_atom" = some (some (.ref f15))) (l15 : K.lookup f15 = some ⟨oc15, od15, .func (PySem.W.fnOf "_law_print_atom" "_law_print_atom" (defArgs s__law_print_atom) (defBody s__law_print_atom) (defScope s__law_print_atom) .none kV15 dc15 pm15 an15 cd15 ct15), sl15⟩) (c15 : PySem.W.codeIn K cd15 "_law_print_atom" = true) (k15 : PySem.W.keepIn K (.ref f15) = true)
    (a16 : PySem.W.nsIn K mainGlobals "_law_print" = some (some (.ref f16))) (l16 : K.lookup f16 = some ⟨oc16, od16, .func (PySem.W.fnOf "_law_print" "_law_print" (defArgs s__law_print) (defBody s__law_print) (defScope s__law_print) .none kV16 dc16 pm16 an16 cd16 ct16), sl16⟩) (c16 : PySem.W.codeIn K cd16 "_law_print" = true) (k16 : PySem.W.keepIn K (.ref f16) = true)
    (a17 : PySem.W.nsIn K mainGlobals "law" = some (some (.ref f17))) (l17 : K.lookup f17 = some ⟨oc17, od17, .func (PySem.W.fnOf "law" "law" (defArgs s_law) (defBody s_law) (defScope s_law) .none kV17 dc17 pm17 an17 cd17 ct17), sl17⟩) (c17 : PySem.W.codeIn K cd17 "law" = true) (k17 : PySem.W.keepIn K (.ref f17) = true)
    {a_OPERATORS : Addr} {es_OPERATORS : Array DictEntry} {n_OPERATORS : Nat} (w_OPERATORS : PySem.W.nsIn K mainGlobals "OPERATORS" = some (some (.ref a_OPERATORS))) (v_OPERATORS : K.lookup a_OPERATORS = some ⟨.type "dict", none, .dict es_OPERATORS n_OPERATORS, #[]⟩) (k_OPERATORS : PySem.W.KeysLit w.params es_OPERATORS.toList) (lo_OPERATORS : (a_OPERATORS == sysModules) = false) {a_OPERATORS_0 : Addr} {dd_OPERATORS_0 : Option Addr} {n_OPERATORS_0 : Nat} {sl_OPERATORS_0 : Array (Option Value)} {tk_OPERATORS_0_0 tk_OPERATORS_0_1 tk_OPERATORS_0_2 : Tok} (w_OPERATORS_0 : PySem.W.nsIn K a_OPERATORS (PySem.Str.ofString "or") = some (some (.ref a_OPERATORS_0))) (v_OPERATORS_0 : K.lookup a_OPERATORS_0 = some ⟨.type "tuple", dd_OPERATORS_0, .seq #[.int 1 tk_OPERATORS_0_0, .int 1 tk_OPERATORS_0_1, .int 2 tk_OPERATORS_0_2] n_OPERATORS_0, sl_OPERATORS_0⟩) {a_OPERATORS_1 : Addr} {dd_OPERATORS_1 : Option Addr} {n_OPERATORS_1 : Nat} {sl_OPERATORS_1 : Array (Option Value)} {tk_OPERATORS_1_0 tk_OPERATORS_1_1 tk_OPERATORS_1_2 : Tok} (w_OPERATORS_1 : PySem.W.nsIn K a_OPERATORS (PySem.Str.ofString "and") = some (some (.ref a_OPERATORS_1))) (v_OPERATORS_1 : K.lookup a_OPERATORS_1 = some ⟨.type "tuple", dd_OPERATORS_1, .seq #[.int 2 tk_OPERATORS_1_0, .int 2 tk_OPERATORS_1_1, .int 3 tk_OPERATORS_1_2] n_OPERATORS_1, sl_OPERATORS_1⟩) {a_OPERATORS_2 : Addr} {dd_OPERATORS_2 : Option Addr} {n_OPERATORS_2 : Nat} {sl_OPERATORS_2 : Array (Option Value)} {tk_OPERATORS_2_0 tk_OPERATORS_2_1 tk_OPERATORS_2_2 : Tok} (w_OPERATORS_2 : PySem.W.nsIn K a_OPERATORS (PySem.Str.ofString "<") = some (some (.ref a_OPERATORS_2))) (v_OPERATORS_2 : K.lookup a_OPERATORS_2 = some ⟨.type "tuple", dd_OPERATORS_2, .seq #[.int 4 tk_OPERATORS_2_0, .int 5 tk_OPERATORS_2_1, .int 5 tk_OPERATORS_2_2] n_OPERATORS_2, sl_OPERATORS_2⟩) {a_OPERATORS_3 : Addr} {dd_OPERATORS_3 : Option Addr} {n_OPERATORS_3 : Nat} {sl_OPERATORS_3 : Array (Option Value)} {tk_OPERATORS_3_0 tk_OPERATORS_3_1 tk_OPERATORS_3_2 : Tok} (w_OPERATORS_3 : PySem.W.nsIn K a_OPERATORS (PySem.Str.ofString "<=") = some (some (.ref a_OPERATORS_3))) (v_OPERATORS_3 : K.lookup a_OPERATORS_3 = some ⟨.type "tuple", dd_OPERATORS_3, .seq #[.int 4 tk_OPERATORS_3_0, .int 5 tk_OPERATORS_3_1, .int 5 tk_OPERATORS_3_2] n_OPERATORS_3, sl_OPERATORS_3⟩) {a_OPERATORS_4 : Addr} {dd_OPERATORS_4 : Option Addr} {n_OPERATORS_4 : Nat} {sl_OPERATORS_4 : Array (Option Value)} {tk_OPERATORS_4_0 tk_OPERATORS_4_1 tk_OPERATORS_4_2 : Tok} (w_OPERATORS_4 : PySem.W.nsIn K a_OPERATORS (PySem.Str.ofString "=") = some (some (.ref a_OPERATORS_4))) (v_OPERATORS_4 : K.lookup a_OPERATORS_4 = some ⟨.type "tuple", dd_OPERATORS_4, .seq #[.int 4 tk_OPERATORS_4_0, .int 5 tk_OPERATORS_4_1, .int 5 tk_OPERATORS_4_2] n_OPERATORS_4, sl_OPERATORS_4⟩) {a_OPERATORS_5 : Addr} {dd_OPERATORS_5 : Option Addr} {n_OPERATORS_5 : Nat} {sl_OPERATORS_5 : Array (Option Value)} {tk_OPERATORS_5_0 tk_OPERATORS_5_1 tk_OPERATORS_5_2 : Tok} (w_OPERATORS_5 : PySem.W.nsIn K a_OPERATORS (PySem.Str.ofString "!=") = some (some (.ref a_OPERATORS_5))) (v_OPERATORS_5 : K.lookup a_OPERATORS_5 = some ⟨.type "tuple", dd_OPERATORS_5, .seq #[.int 4 tk_OPERATORS_5_0, .int 5 tk_OPERATORS_5_1, .int 5 tk_OPERATORS_5_2] n_OPERATORS_5, sl_OPERATORS_5⟩) {a_OPERATORS_6 : Addr} {dd_OPERATORS_6 : Option Addr} {n_OPERATORS_6 : Nat} {sl_OPERATORS_6 : Array (Option Value)} {tk_OPERATORS_6_0 tk_OPERATORS_6_1 tk_OPERATORS_6_2 : Tok} (w_OPERATORS_6 : PySem.W.nsIn K a_OPERATORS (PySem.Str.ofString ">=") = some (some (.ref a_OPERATORS_6))) (v_OPERATORS_6 : K.lookup a_OPERATORS_6 = some ⟨.type "tuple", dd_OPERATORS_6, .seq #[.int 4 tk_OPERATORS_6_0, .int 5 tk_OPERATORS_6_1, .int 5 tk_OPERATORS_6_2] n_OPERATORS_6, sl_OPERATORS_6⟩) {a_OPERATORS_7 : Addr} {dd_OPERATORS_7 : Option Addr} {n_OPERATORS_7 : Nat} {sl_OPERATORS_7 : Array (Option Value)} {tk_OPERATORS_7_0 tk_OPERATORS_7_1 tk_OPERATORS_7_2 : Tok} (w_OPERATORS_7 : PySem.W.nsIn K a_OPERATORS (PySem.Str.ofString ">") = some (some (.ref a_OPERATORS_7))) (v_OPERATORS_7 : K.lookup a_OPERATORS_7 = some ⟨.type "tuple", dd_OPERATORS_7, .seq #[.int 4 tk_OPERATORS_7_0, .int 5 tk_OPERATORS_7_1, .int 5 tk_OPERATORS_7_2] n_OPERATORS_7, sl_OPERATORS_7⟩) {a_OPERATORS_8 : Addr} {dd_OPERATORS_8 : Option Addr} {n_OPERATORS_8 : Nat} {sl_OPERATORS_8 : Array (Option Value)} {tk_OPERATORS_8_0 tk_OPERATORS_8_1 tk_OPERATORS_8_2 : Tok} (w_OPERATORS_8 : PySem.W.nsIn K a_OPERATORS (PySem.Str.ofString "+") = some (some (.ref a_OPERATORS_8))) (v_OPERATORS_8 : K.lookup a_OPERATORS_8 = some ⟨.type "tuple", dd_OPERATORS_8, .seq #[.int 5 tk_OPERATORS_8_0, .int 5 tk_OPERATORS_8_1, .int 6 tk_OPERATORS_8_2] n_OPERATORS_8, sl_OPERATORS_8⟩) {a_OPERATORS_9 : Addr} {dd_OPERATORS_9 : Option Addr} {n_OPERATORS_9 : Nat} {sl_OPERATORS_9 : Array (Option Value)} {tk_OPERATORS_9_0 tk_OPERATORS_9_1 tk_OPERATORS_9_2 : Tok} (w_OPERATORS_9 : PySem.W.nsIn K a_OPERATORS (PySem.Str.ofString "-") = some (some (.ref a_OPERATORS_9))) (v_OPERATORS_9 : K.lookup a_OPERATORS_9 = some ⟨.type "tuple", dd_OPERATORS_9, .seq #[.int 5 tk_OPERATORS_9_0, .int 5 tk_OPERATORS_9_1, .int 6 tk_OPERATORS_9_2] n_OPERATORS_9, sl_OPERATORS_9⟩) {a_OPERATORS_10 : Addr} {dd_OPERATORS_10 : Option Addr} {n_OPERATORS_10 : Nat} {sl_OPERATORS_10 : Array (Option Value)} {tk_OPERATORS_10_0 tk_OPERATORS_10_1 tk_OPERATORS_10_2 : Tok} (w_OPERATORS_10 : PySem.W.nsIn K a_OPERATORS (PySem.Str.ofString "*") = some (some (.ref a_OPERATORS_10))) (v_OPERATORS_10 : K.lookup a_OPERATORS_10 = some ⟨.type "tuple", dd_OPERATORS_10, .seq #[.int 6 tk_OPERATORS_10_0, .int 6 tk_OPERATORS_10_1, .int 7 tk_OPERATORS_10_2] n_OPERATORS_10, sl_OPERATORS_10⟩) {a_OPERATORS_11 : Addr} {dd_OPERATORS_11 : Option Addr} {n_OPERATORS_11 : Nat} {sl_OPERATORS_11 : Array (Option Value)} {tk_OPERATORS_11_0 tk_OPERATORS_11_1 tk_OPERATORS_11_2 : Tok} (w_OPERATORS_11 : PySem.W.nsIn K a_OPERATORS (PySem.Str.ofString "div") = some (some (.ref a_OPERATORS_11))) (v_OPERATORS_11 : K.lookup a_OPERATORS_11 = some ⟨.type "tuple", dd_OPERATORS_11, .seq #[.int 6 tk_OPERATORS_11_0, .int 6 tk_OPERATORS_11_1, .int 7 tk_OPERATORS_11_2] n_OPERATORS_11, sl_OPERATORS_11⟩) {a_OPERATORS_12 : Addr} {dd_OPERATORS_12 : Option Addr} {n_OPERATORS_12 : Nat} {sl_OPERATORS_12 : Array (Option Value)} {tk_OPERATORS_12_0 tk_OPERATORS_12_1 tk_OPERATORS_12_2 : Tok} (w_OPERATORS_12 : PySem.W.nsIn K a_OPERATORS (PySem.Str.ofString "mod") = some (some (.ref a_OPERATORS_12))) (v_OPERATORS_12 : K.lookup a_OPERATORS_12 = some ⟨.type "tuple", dd_OPERATORS_12, .seq #[.int 6 tk_OPERATORS_12_0, .int 6 tk_OPERATORS_12_1, .int 7 tk_OPERATORS_12_2] n_OPERATORS_12, sl_OPERATORS_12⟩) (m_OPERATORS_0 : PySem.W.nsIn K a_OPERATORS (PySem.Str.ofString "not") = some none) (m_OPERATORS_1 : PySem.W.nsIn K a_OPERATORS (PySem.Str.ofString "negate") = some none) (m_OPERATORS_2 : PySem.W.nsIn K a_OPERATORS (PySem.Str.ofString "missing") = some none) (m_OPERATORS_3 : PySem.W.nsIn K a_OPERATORS (PySem.Str.ofString "length") = some none) (m_OPERATORS_4 : PySem.W.nsIn K a_OPERATORS (PySem.Str.ofString "starts") = some none) (m_OPERATORS_5 : PySem.W.nsIn K a_OPERATORS (PySem.Str.ofString "coalesce") = some none) (m_OPERATORS_6 : PySem.W.nsIn K a_OPERATORS (PySem.Str.ofString "if") = some none) (m_OPERATORS_7 : PySem.W.nsIn K a_OPERATORS (PySem.Str.ofString "number") = some none) (m_OPERATORS_8 : PySem.W.nsIn K a_OPERATORS (PySem.Str.ofString "text") = some none) (m_OPERATORS_9 : PySem.W.nsIn K a_OPERATORS (PySem.Str.ofString "truth") = some none) (m_OPERATORS_10 : PySem.W.nsIn K a_OPERATORS (PySem.Str.ofString "null") = some none) (m_OPERATORS_11 : PySem.W.nsIn K a_OPERATORS (PySem.Str.ofString "name") = some none) (m_OPERATORS_12 : PySem.W.nsIn K a_OPERATORS (PySem.Str.ofString "field") = some none) {tk_NOT : Tok} (w_NOT : PySem.W.nsIn K mainGlobals "NOT" = some (some (.int 3 tk_NOT))) {tk_CLOSEST : Tok} (w_CLOSEST : PySem.W.nsIn K mainGlobals "CLOSEST" = some (some (.int 7 tk_CLOSEST))) {a_FUNCTIONS : Addr} {dd_FUNCTIONS : Option Addr} {n_FUNCTIONS : Nat} {sl_FUNCTIONS : Array (Option Value)} {tk_FUNCTIONS_0 tk_FUNCTIONS_1 tk_FUNCTIONS_2 tk_FUNCTIONS_3 tk_FUNCTIONS_4 : Tok} (w_FUNCTIONS : PySem.W.nsIn K mainGlobals "FUNCTIONS" = some (some (.ref a_FUNCTIONS))) (v_FUNCTIONS : K.lookup a_FUNCTIONS = some ⟨.type "tuple", dd_FUNCTIONS, .seq #[.str (PySem.Str.ofString "missing") tk_FUNCTIONS_0, .str (PySem.Str.ofString "length") tk_FUNCTIONS_1, .str (PySem.Str.ofString "starts") tk_FUNCTIONS_2, .str (PySem.Str.ofString "coalesce") tk_FUNCTIONS_3, .str (PySem.Str.ofString "if") tk_FUNCTIONS_4] n_FUNCTIONS, sl_FUNCTIONS⟩) (z_abs : PySem.W.nsIn K mainGlobals "abs" = some none) (z_int : PySem.W.nsIn K mainGlobals "int" = some none) (z_isinstance : PySem.W.nsIn K mainGlobals "isinstance" = some none) (z_len : PySem.W.nsIn K mainGlobals "len" = some none) (z_list : PySem.W.nsIn K mainGlobals "list" = some none) (z_range : PySem.W.nsIn K mainGlobals "range" = some none) (z_str : PySem.W.nsIn K mainGlobals "str" = some none) :
    ∃ fd : FuncData, (∀ (s : Shared) (v : Value), BindsTo s fd ⟨[v], []⟩ [("script", v)]) ∧ ∀ base : Heap, K.In base → base.Ns mainGlobals mg → FnOk l.prog w K mg base CX0 13 fa fd ["script"] (sp_law K) := by
  have e := hfa.symm.trans (PySem.W.mg_of X G a17)
  cases e
  have F_print_expression := fun_mk (st := s_print_expression) l0 c0 k0
  have b_print_expression := F_print_expression.binds (ps := ["expression"]) fun _ _ _ _ _ _ us hl => match us, hl with | [_], _ => rfl
  have g_print_expression := PySem.W.mg_of X G a0
  have F_inner_text := fun_mk (st := s_inner_text) l1 c1 k1
  have b_inner_text := F_inner_text.binds (ps := ["expression", "least"]) fun _ _ _ _ _ _ us hl => match us, hl with | [_, _], _ => rfl
  have g_inner_text := PySem.W.mg_of X G a1
  have F_closeness := fun_mk (st := s_closeness) l2 c2 k2
  have b_closeness := F_closeness.binds (ps := ["expression"]) fun _ _ _ _ _ _ us hl => match us, hl with | [_], _ => rfl
  have g_closeness := PySem.W.mg_of X G a2
  have F_leaf_text := fun_mk (st := s_leaf_text) l3 c3 k3
  have b_leaf_text := F_leaf_text.binds (ps := ["expression"]) fun _ _ _ _ _ _ us hl => match us, hl with | [_], _ => rfl
  have g_leaf_text := PySem.W.mg_of X G a3
  have F__law_draw := fun_mk (st := s__law_draw) l4 c4 k4
  have b__law_draw := F__law_draw.binds (ps := ["script"]) fun _ _ _ _ _ _ us hl => match us, hl with | [_], _ => rfl
  have g__law_draw := PySem.W.mg_of X G a4
  have F__law_next := fun_mk (st := s__law_next) l5 c5 k5
  have b__law_next := F__law_next.binds (ps := ["draw", "many"]) fun _ _ _ _ _ _ us hl => match us, hl with | [_, _], _ => rfl
  have g__law_next := PySem.W.mg_of X G a5
  have F__law_reserved := fun_mk (st := s__law_reserved) l6 c6 k6
  have b__law_reserved := F__law_reserved.binds (ps := []) fun _ _ _ _ _ _ us hl => match us, hl with | [], _ => rfl
  have g__law_reserved := PySem.W.mg_of X G a6
  have F__law_name := fun_mk (st := s__law_name) l7 c7 k7
  have b__law_name := F__law_name.binds (ps := ["draw"]) fun _ _ _ _ _ _ us hl => match us, hl with | [_], _ => rfl
  have g__law_name := PySem.W.mg_of X G a7
  have F__law_string := fun_mk (st := s__law_string) l8 c8 k8
  have b__law_string := F__law_string.binds (ps := ["draw"]) fun _ _ _ _ _ _ us hl => match us, hl with | [_], _ => rfl
  have g__law_string := PySem.W.mg_of X G a8
  have F__law_quoted := fun_mk (st := s__law_quoted) l9 c9 k9
  have b__law_quoted := F__law_quoted.binds (ps := ["value"]) fun _ _ _ _ _ _ us hl => match us, hl with | [_], _ => rfl
  have g__law_quoted := PySem.W.mg_of X G a9
  have F__law_number := fun_mk (st := s__law_number) l10 c10 k10
  have b__law_number := F__law_number.binds (ps := ["draw"]) fun _ _ _ _ _ _ us hl => match us, hl with | [_], _ => rfl
  have g__law_number := PySem.W.mg_of X G a10
  have F__law_signs := fun_mk (st := s__law_signs) l11 c11 k11
  have b__law_signs := F__law_signs.binds (ps := []) fun _ _ _ _ _ _ us hl => match us, hl with | [], _ => rfl
  have g__law_signs := PySem.W.mg_of X G a11
  have F__law_leaf := fun_mk (st := s__law_leaf) l12 c12 k12
  have b__law_leaf := F__law_leaf.binds (ps := ["draw"]) fun _ _ _ _ _ _ us hl => match us, hl with | [_], _ => rfl
  have g__law_leaf := PySem.W.mg_of X G a12
  have F__law_expression := fun_mk (st := s__law_expression) l13 c13 k13
  have b__law_expression := F__law_expression.binds (ps := ["draw", "depth"]) fun _ _ _ _ _ _ us hl => match us, hl with | [_, _], _ => rfl
  have g__law_expression := PySem.W.mg_of X G a13
  have F__law_level := fun_mk (st := s__law_level) l14 c14 k14
  have b__law_level := F__law_level.binds (ps := ["expression"]) fun _ _ _ _ _ _ us hl => match us, hl with | [_], _ => rfl
  have g__law_level := PySem.W.mg_of X G a14
  have F__law_print_atom := fun_mk (st := s__law_print_atom) l15 c15 k15
  have b__law_print_atom := F__law_print_atom.binds (ps := ["expression"]) fun _ _ _ _ _ _ us hl => match us, hl with | [_], _ => rfl
  have g__law_print_atom := PySem.W.mg_of X G a15
  have F__law_print := fun_mk (st := s__law_print) l16 c16 k16
  have b__law_print := F__law_print.binds (ps := ["expression", "wanted"]) fun _ _ _ _ _ _ us hl => match us, hl with | [_, _], _ => rfl
  have g__law_print := PySem.W.mg_of X G a16
  have F_law := fun_mk (st := s_law) l17 c17 k17
  have M : Mg mg := ⟨PySem.W.mg_none_of X G z_abs, PySem.W.mg_none_of X G z_int, PySem.W.mg_none_of X G z_isinstance, PySem.W.mg_none_of X G z_len, PySem.W.mg_none_of X G z_list, PySem.W.mg_none_of X G z_range, PySem.W.mg_none_of X G z_str⟩
  exact ⟨PySem.W.fnOf "law" "law" (defArgs s_law) (defBody s_law) (defScope s_law) .none kV17 dc17 pm17 an17 cd17 ct17, fun s v => .of_eq rfl, fun base _ _ => by
  have GG : Gl K w mg a_OPERATORS a_FUNCTIONS es_OPERATORS n_OPERATORS := by
    refine ⟨⟨_, PySem.W.mg_of X G w_OPERATORS, rfl⟩, ⟨_, PySem.W.mg_of X G w_FUNCTIONS, rfl⟩, ⟨_, PySem.W.mg_of X G w_NOT, _, rfl⟩, ⟨_, PySem.W.mg_of X G w_CLOSEST, _, rfl⟩,
      fun H => .inr ⟨_, _, _, v_FUNCTIONS, rfl, rfl, by show 5 ≤ sizeLine; decide, .cons ⟨_, rfl⟩ (.cons ⟨_, rfl⟩ (.cons ⟨_, rfl⟩ (.cons ⟨_, rfl⟩ (.cons ⟨_, rfl⟩ .nil))))⟩, ?_, fun o => ?_, fun x hx => ?_⟩
    · exact ⟨v_OPERATORS, k_OPERATORS, lo_OPERATORS⟩
    · cases o with
      | or => exact ⟨_, w_OPERATORS_0, fun H => .inr ⟨_, _, _, v_OPERATORS_0, rfl, rfl, by show 3 ≤ sizeLine; decide, .cons ⟨_, rfl⟩ (.cons ⟨_, rfl⟩ (.cons ⟨_, rfl⟩ .nil))⟩⟩
      | and => exact ⟨_, w_OPERATORS_1, fun H => .inr ⟨_, _, _, v_OPERATORS_1, rfl, rfl, by show 3 ≤ sizeLine; decide, .cons ⟨_, rfl⟩ (.cons ⟨_, rfl⟩ (.cons ⟨_, rfl⟩ .nil))⟩⟩
      | lt => exact ⟨_, w_OPERATORS_2, fun H => .inr ⟨_, _, _, v_OPERATORS_2, rfl, rfl, by show 3 ≤ sizeLine; decide, .cons ⟨_, rfl⟩ (.cons ⟨_, rfl⟩ (.cons ⟨_, rfl⟩ .nil))⟩⟩
      | le => exact ⟨_, w_OPERATORS_3, fun H => .inr ⟨_, _, _, v_OPERATORS_3, rfl, rfl, by show 3 ≤ sizeLine; decide, .cons ⟨_, rfl⟩ (.cons ⟨_, rfl⟩ (.cons ⟨_, rfl⟩ .nil))⟩⟩
      | eq => exact ⟨_, w_OPERATORS_4, fun H => .inr ⟨_, _, _, v_OPERATORS_4, rfl, rfl, by show 3 ≤ sizeLine; decide, .cons ⟨_, rfl⟩ (.cons ⟨_, rfl⟩ (.cons ⟨_, rfl⟩ .nil))⟩⟩
      | ne => exact ⟨_, w_OPERATORS_5, fun H => .inr ⟨_, _, _, v_OPERATORS_5, rfl, rfl, by show 3 ≤ sizeLine; decide, .cons ⟨_, rfl⟩ (.cons ⟨_, rfl⟩ (.cons ⟨_, rfl⟩ .nil))⟩⟩
      | ge => exact ⟨_, w_OPERATORS_6, fun H => .inr ⟨_, _, _, v_OPERATORS_6, rfl, rfl, by show 3 ≤ sizeLine; decide, .cons ⟨_, rfl⟩ (.cons ⟨_, rfl⟩ (.cons ⟨_, rfl⟩ .nil))⟩⟩
      | gt => exact ⟨_, w_OPERATORS_7, fun H => .inr ⟨_, _, _, v_OPERATORS_7, rfl, rfl, by show 3 ≤ sizeLine; decide, .cons ⟨_, rfl⟩ (.cons ⟨_, rfl⟩ (.cons ⟨_, rfl⟩ .nil))⟩⟩
      | add => exact ⟨_, w_OPERATORS_8, fun H => .inr ⟨_, _, _, v_OPERATORS_8, rfl, rfl, by show 3 ≤ sizeLine; decide, .cons ⟨_, rfl⟩ (.cons ⟨_, rfl⟩ (.cons ⟨_, rfl⟩ .nil))⟩⟩
      | sub => exact ⟨_, w_OPERATORS_9, fun H => .inr ⟨_, _, _, v_OPERATORS_9, rfl, rfl, by show 3 ≤ sizeLine; decide, .cons ⟨_, rfl⟩ (.cons ⟨_, rfl⟩ (.cons ⟨_, rfl⟩ .nil))⟩⟩
      | mul => exact ⟨_, w_OPERATORS_10, fun H => .inr ⟨_, _, _, v_OPERATORS_10, rfl, rfl, by show 3 ≤ sizeLine; decide, .cons ⟨_, rfl⟩ (.cons ⟨_, rfl⟩ (.cons ⟨_, rfl⟩ .nil))⟩⟩
      | div => exact ⟨_, w_OPERATORS_11, fun H => .inr ⟨_, _, _, v_OPERATORS_11, rfl, rfl, by show 3 ≤ sizeLine; decide, .cons ⟨_, rfl⟩ (.cons ⟨_, rfl⟩ (.cons ⟨_, rfl⟩ .nil))⟩⟩
      | mod => exact ⟨_, w_OPERATORS_12, fun H => .inr ⟨_, _, _, v_OPERATORS_12, rfl, rfl, by show 3 ≤ sizeLine; decide, .cons ⟨_, rfl⟩ (.cons ⟨_, rfl⟩ (.cons ⟨_, rfl⟩ .nil))⟩⟩
    · simp only [List.mem_cons, List.not_mem_nil, or_false] at hx
      rcases hx with rfl | rfl | rfl | rfl | rfl | rfl | rfl | rfl | rfl | rfl | rfl | rfl | rfl
      · exact m_OPERATORS_0
      · exact m_OPERATORS_1
      · exact m_OPERATORS_2
      · exact m_OPERATORS_3
      · exact m_OPERATORS_4
      · exact m_OPERATORS_5
      · exact m_OPERATORS_6
      · exact m_OPERATORS_7
      · exact m_OPERATORS_8
      · exact m_OPERATORS_9
      · exact m_OPERATORS_10
      · exact m_OPERATORS_11
      · exact m_OPERATORS_12
  have N := FnOk.cl (P := l.prog) (w := w) (base := base) (ok_next F__law_next M) F__law_next g__law_next b__law_next
  have RE := FnOk.cl (P := l.prog) (w := w) (base := base) (mg := mg) (ok_res F__law_reserved) F__law_reserved g__law_reserved b__law_reserved
  have NA := FnOk.cl (ok_name F__law_name M N RE) F__law_name g__law_name b__law_name
  have NU := FnOk.cl (ok_number F__law_number M N) F__law_number g__law_number b__law_number
  have ST := FnOk.cl (ok_string F__law_string M N) F__law_string g__law_string b__law_string
  have QU := FnOk.cl (P := l.prog) (w := w) (base := base) (mg := mg) (ok_quoted F__law_quoted) F__law_quoted g__law_quoted b__law_quoted
  have SG := FnOk.cl (P := l.prog) (w := w) (base := base) (mg := mg) (ok_signs F__law_signs) F__law_signs g__law_signs b__law_signs
  have LF := FnOk.cl (ok_lleaf F__law_leaf M N NA NU ST) F__law_leaf g__law_leaf b__law_leaf
  have LX := cl_lex F__law_expression M g__law_expression b__law_expression N SG LF 5
  have LV := FnOk.cl (P := l.prog) (w := w) (base := base) (ok_level F__law_level M) F__law_level g__law_level b__law_level
  have LP := cl_lpr F__law_print F__law_print_atom M g__law_print b__law_print g__law_print_atom b__law_print_atom LV QU 5
  have CL := FnOk.cl (P := l.prog) (w := w) (base := base) (ok_close F_closeness GG) F_closeness g_closeness b_closeness
  have LE := FnOk.cl (P := l.prog) (w := w) (base := base) (ok_leaf F_leaf_text M) F_leaf_text g_leaf_text b_leaf_text
  have PR := cl_pr F_print_expression F_inner_text M GG g_print_expression b_print_expression g_inner_text b_inner_text LE CL 5
  exact ok_law F_law M (FnOk.cl (ok_draw F__law_draw M) F__law_draw g__law_draw b__law_draw) N LX PR LP⟩
end Lw
open PySem PySem.W PyProof.Rows
set_option maxHeartbeats 0 in
theorem PySem.Challenge.cw_lineworks_k05_expressions_are_printed_holds : PySem.Challenge.rw_lineworks_k05_expressions_are_printed.Holds := by
  w_on; o_law; k_head; (case hw => w_witness2)
  k_fill
  refine L2.walk_of (l := PySem.Challenge.rw_lineworks_k05_expressions_are_printed) (n := 63) (k := 13) (x := "script") (CX := fun _ => L2.CX0) (sp := fun w => Lw.sp_law _) rfl (by decide) rfl ⟨rfl, by decide, by decide⟩ (fun w h Y => PySem.W.kIn_of Y) ?F (fun _ _ a ns hl _ hS => ⟨a, ns, rfl, hS, hl, fun _ => rfl⟩) (fun _ _ _ _ _ h => h)
  case F =>
    intro w mg fa h KX G hmg
    refine' Lw.all_mk KX G hmg ?a0 ?l0 ?c0 ?k0 ?a1 ?l1 ?c1 ?k1 ?a2 ?l2 ?c2 ?k2 ?a3 ?l3 ?c3 ?k3 ?a4 ?l4 ?c4 ?k4 ?a5 ?l5 ?c5 ?k5 ?a6 ?l6 ?c6 ?k6 ?a7 ?l7 ?c7 ?k7 ?a8 ?l8 ?c8 ?k8 ?a9 ?l9 ?c9 ?k9 ?a10 ?l10 ?c10 ?k10 ?a11 ?l11 ?c11 ?k11 ?a12 ?l12 ?c12 ?k12 ?a13 ?l13 ?c13 ?k13 ?a14 ?l14 ?c14 ?k14 ?a15 ?l15 ?c15 ?k15 ?a16 ?l16 ?c16 ?k16 ?a17 ?l17 ?c17 ?k17 ?w_OPERATORS ?v_OPERATORS ?k_OPERATORS ?lo_OPERATORS ?w_OPERATORS_0 ?v_OPERATORS_0 ?w_OPERATORS_1 ?v_OPERATORS_1 ?w_OPERATORS_2 ?v_OPERATORS_2 ?w_OPERATORS_3 ?v_OPERATORS_3 ?w_OPERATORS_4 ?v_OPERATORS_4 ?w_OPERATORS_5 ?v_OPERATORS_5 ?w_OPERATORS_6 ?v_OPERATORS_6 ?w_OPERATORS_7 ?v_OPERATORS_7 ?w_OPERATORS_8 ?v_OPERATORS_8 ?w_OPERATORS_9 ?v_OPERATORS_9 ?w_OPERATORS_10 ?v_OPERATORS_10 ?w_OPERATORS_11 ?v_OPERATORS_11 ?w_OPERATORS_12 ?v_OPERATORS_12 ?m_OPERATORS_0 ?m_OPERATORS_1 ?m_OPERATORS_2 ?m_OPERATORS_3 ?m_OPERATORS_4 ?m_OPERATORS_5 ?m_OPERATORS_6 ?m_OPERATORS_7 ?m_OPERATORS_8 ?m_OPERATORS_9 ?m_OPERATORS_10 ?m_OPERATORS_11 ?m_OPERATORS_12 ?w_NOT ?w_CLOSEST ?w_FUNCTIONS ?v_FUNCTIONS ?z_abs ?z_int ?z_isinstance ?z_len ?z_list ?z_range ?z_str
    (case a0 => k_is); (case l0 => k_is); (case c0 => k_is); (case k0 => k_is)
    (case a1 => k_is); (case l1 => k_is); (case c1 => k_is); (case k1 => k_is)
    (case a2 => k_is); (case l2 => k_is); (case c2 => k_is); (case k2 => k_is)
    (case a3 => k_is); (case l3 => k_is); (case c3 => k_is); (case k3 => k_is)
    (case a4 => k_is); (case l4 => k_is); (case c4 => k_is); (case k4 => k_is)
    (case a5 => k_is); (case l5 => k_is); (case c5 => k_is); (case k5 => k_is)
    (case a6 => k_is); (case l6 => k_is); (case c6 => k_is); (case k6 => k_is)
    (case a7 => k_is); (case l7 => k_is); (case c7 => k_is); (case k7 => k_is)
    (case a8 => k_is); (case l8 => k_is); (case c8 => k_is); (case k8 => k_is)
    (case a9 => k_is); (case l9 => k_is); (case c9 => k_is); (case k9 => k_is)
    (case a10 => k_is); (case l10 => k_is); (case c10 => k_is); (case k10 => k_is)
    (case a11 => k_is); (case l11 => k_is); (case c11 => k_is); (case k11 => k_is)
    (case a12 => k_is); (case l12 => k_is); (case c12 => k_is); (case k12 => k_is)
    (case a13 => k_is); (case l13 => k_is); (case c13 => k_is); (case k13 => k_is)
    (case a14 => k_is); (case l14 => k_is); (case c14 => k_is); (case k14 => k_is)
    (case a15 => k_is); (case l15 => k_is); (case c15 => k_is); (case k15 => k_is)
    (case a16 => k_is); (case l16 => k_is); (case c16 => k_is); (case k16 => k_is)
    (case a17 => k_is); (case l17 => k_is); (case c17 => k_is); (case k17 => k_is)
    (case w_OPERATORS => k_is)
    (case v_OPERATORS => k_is)
    (case k_OPERATORS => k_keys)
    (case lo_OPERATORS => first | rfl | decide | decide +kernel)
    (case w_OPERATORS_0 => k_is)
    (case v_OPERATORS_0 => k_is)
    (case w_OPERATORS_1 => k_is)
    (case v_OPERATORS_1 => k_is)
    (case w_OPERATORS_2 => k_is)
    (case v_OPERATORS_2 => k_is)
    (case w_OPERATORS_3 => k_is)
    (case v_OPERATORS_3 => k_is)
    (case w_OPERATORS_4 => k_is)
    (case v_OPERATORS_4 => k_is)
    (case w_OPERATORS_5 => k_is)
    (case v_OPERATORS_5 => k_is)
    (case w_OPERATORS_6 => k_is)
    (case v_OPERATORS_6 => k_is)
    (case w_OPERATORS_7 => k_is)
    (case v_OPERATORS_7 => k_is)
    (case w_OPERATORS_8 => k_is)
    (case v_OPERATORS_8 => k_is)
    (case w_OPERATORS_9 => k_is)
    (case v_OPERATORS_9 => k_is)
    (case w_OPERATORS_10 => k_is)
    (case v_OPERATORS_10 => k_is)
    (case w_OPERATORS_11 => k_is)
    (case v_OPERATORS_11 => k_is)
    (case w_OPERATORS_12 => k_is)
    (case v_OPERATORS_12 => k_is)
    (case m_OPERATORS_0 => k_is)
    (case m_OPERATORS_1 => k_is)
    (case m_OPERATORS_2 => k_is)
    (case m_OPERATORS_3 => k_is)
    (case m_OPERATORS_4 => k_is)
    (case m_OPERATORS_5 => k_is)
    (case m_OPERATORS_6 => k_is)
    (case m_OPERATORS_7 => k_is)
    (case m_OPERATORS_8 => k_is)
    (case m_OPERATORS_9 => k_is)
    (case m_OPERATORS_10 => k_is)
    (case m_OPERATORS_11 => k_is)
    (case m_OPERATORS_12 => k_is)
    (case w_NOT => k_is)
    (case w_CLOSEST => k_is)
    (case w_FUNCTIONS => k_is)
    (case v_FUNCTIONS => k_is)
    (case z_abs => k_is); (case z_int => k_is); (case z_isinstance => k_is); (case z_len => k_is); (case z_list => k_is); (case z_range => k_is); (case z_str => k_is)

