import PyProof.Rows.All
import Wide.All
import OpenK.AllK
import Wide.FinOn
import HandS.ForMost
import HandS.Wide
import HandS.IsInst
import HandS.Codes
import HandS.More
import HandS.Star
import HandS.Deep
import HandS.Iter
import HandS.Strs
import HandS.StrMore
import HandS.FStr
import HandS.Nested
import HandS.Dict
import HandS.Exc
import HandS.ExcInit
import HandS.ExcField
import HandS.ExcOwn
import HandS.ExcIs
import HandS.WordsExc
import KE.DataCmp
import KE.KExcSuper
import KE.KSuper
import KE.KSuperObj
import KE.KExcMake
import KE.GoesComp
import PySem.Challenge.RW_lineworks_k26_sizes_of_expressions
set_option Elab.async false
set_option linter.all false
set_option maxRecDepth 100000
namespace Lw
open PySem PySem.Spec PyProof.Rows L2
def topS (i : Nat) : Stmt := PySem.Challenge.pw_lineworks_k26_sizes_of_expressions.main.body.getD i (.Pass ⟨0, 0, 0, 0⟩)
abbrev s_Problem___init__ : Stmt := inClass (topS 2) 0
abbrev s_compile_expression : Stmt := topS 10
abbrev N_compile_expression : List Str := ["columns", "expression", "plain", "kind", "size"]
theorem sc_compile_expression : FnScope N_compile_expression ["columns", "expression"] (defScope s_compile_expression) := ⟨rfl, rfl, rfl, by decide +kernel, rfl, by decide +kernel, by decide +kernel⟩
abbrev s_expect_kind : Stmt := topS 11
abbrev N_expect_kind : List Str := ["kind", "expected"]
theorem sc_expect_kind : FnScope N_expect_kind ["kind", "expected"] (defScope s_expect_kind) := ⟨rfl, rfl, rfl, by decide +kernel, rfl, by decide +kernel, by decide +kernel⟩
abbrev s_written_out : Stmt := topS 12
abbrev N_written_out : List Str := ["columns", "expression", "word", "operands", "result", "form", "part", "_", "kind", "plain", "size"]
theorem sc_written_out : FnScope N_written_out ["columns", "expression"] (defScope s_written_out) := ⟨rfl, rfl, rfl, by decide +kernel, rfl, by decide +kernel, by decide +kernel⟩
abbrev s_named_column : Stmt := topS 13
abbrev N_named_column : List Str := ["columns", "expression", "told", "places", "_", "kind", "at", "column"]
theorem sc_named_column : FnScope N_named_column ["columns", "expression"] (defScope s_named_column) := ⟨rfl, rfl, rfl, by decide +kernel, rfl, by decide +kernel, by decide +kernel⟩
abbrev s_is_named : Stmt := topS 14
abbrev N_is_named : List Str := ["column", "expression", "source", "name", "_"]
theorem sc_is_named : FnScope N_is_named ["column", "expression"] (defScope s_is_named) := ⟨rfl, rfl, rfl, by decide +kernel, rfl, by decide +kernel, by decide +kernel⟩
abbrev s_result_kind : Stmt := topS 15
abbrev N_result_kind : List Str := ["word", "kinds", "expected", "result", "kind", "common"]
theorem sc_result_kind : FnScope N_result_kind ["word", "kinds"] (defScope s_result_kind) := ⟨rfl, rfl, rfl, by decide +kernel, rfl, by decide +kernel, by decide +kernel⟩
abbrev s_common_kind : Stmt := topS 16
abbrev N_common_kind : List Str := ["first", "second"]
theorem sc_common_kind : FnScope N_common_kind ["first", "second"] (defScope s_common_kind) := ⟨rfl, rfl, rfl, by decide +kernel, rfl, by decide +kernel, by decide +kernel⟩
abbrev s_plain_form : Stmt := topS 17
abbrev N_plain_form : List Str := ["word", "parts", "first", "second"]
theorem sc_plain_form : FnScope N_plain_form ["word", "parts"] (defScope s_plain_form) := ⟨rfl, rfl, rfl, by decide +kernel, rfl, by decide +kernel, by decide +kernel⟩
abbrev s_result_size : Stmt := topS 18
abbrev N_result_size : List Str := ["word", "sizes"]
theorem sc_result_size : FnScope N_result_size ["word", "sizes"] (defScope s_result_size) := ⟨rfl, rfl, rfl, by decide +kernel, rfl, by decide +kernel, by decide +kernel⟩
abbrev s__law_draw : Stmt := topS 20
abbrev N__law_draw : List Str := ["script"]
theorem sc__law_draw : FnScope N__law_draw ["script"] (defScope s__law_draw) := ⟨rfl, rfl, rfl, by decide +kernel, rfl, by decide +kernel, by decide +kernel⟩
abbrev s__law_next : Stmt := topS 21
abbrev N__law_next : List Str := ["draw", "many", "found", "cell"]
theorem sc__law_next : FnScope N__law_next ["draw", "many"] (defScope s__law_next) := ⟨rfl, rfl, rfl, by decide +kernel, rfl, by decide +kernel, by decide +kernel⟩
abbrev s__law_same : Stmt := topS 22
abbrev N__law_same : List Str := ["actual", "due", "k"]
theorem sc__law_same : FnScope N__law_same ["actual", "due"] (defScope s__law_same) := ⟨rfl, rfl, rfl, by decide +kernel, rfl, by decide +kernel, by decide +kernel⟩
abbrev s__law_size : Stmt := topS 23
abbrev N__law_size : List Str := ["tree", "found", "part"]
theorem sc__law_size : FnScope N__law_size ["tree"] (defScope s__law_size) := ⟨rfl, rfl, rfl, by decide +kernel, rfl, by decide +kernel, by decide +kernel⟩
abbrev s__law_leaf : Stmt := topS 24
abbrev N__law_leaf : List Str := ["draw"]
theorem sc__law_leaf : FnScope N__law_leaf ["draw"] (defScope s__law_leaf) := ⟨rfl, rfl, rfl, by decide +kernel, rfl, by decide +kernel, by decide +kernel⟩
abbrev s__law_wide : Stmt := topS 25
abbrev N__law_wide : List Str := ["draw", "goal", "left", "right", "form", "sign", "both"]
theorem sc__law_wide : FnScope N__law_wide ["draw", "goal"] (defScope s__law_wide) := ⟨rfl, rfl, rfl, by decide +kernel, rfl, by decide +kernel, by decide +kernel⟩
abbrev s__law_exact : Stmt := topS 26
abbrev N__law_exact : List Str := ["draw", "size", "half"]
theorem sc__law_exact : FnScope N__law_exact ["draw", "size"] (defScope s__law_exact) := ⟨rfl, rfl, rfl, by decide +kernel, rfl, by decide +kernel, by decide +kernel⟩
abbrev s__law_told : Stmt := topS 27
abbrev N__law_told : List Str := ["columns", "tree", "found", "error"]
theorem sc__law_told : FnScope N__law_told ["columns", "tree"] (defScope s__law_told) := ⟨rfl, rfl, rfl, by decide +kernel, rfl, by decide +kernel, by decide +kernel⟩
abbrev s_law : Stmt := topS 28
abbrev N_law : List Str := ["script", "draw", "columns", "turn", "tree", "lacking", "due"]
theorem sc_law : FnScope N_law ["script"] (defScope s_law) := ⟨rfl, rfl, rfl, by decide +kernel, rfl, by decide +kernel, by decide +kernel⟩
/-! ### heaps and calls -/
theorem same_upd {H : Hp} {p : Addr} {o : HO} (h : H p = none) : Same H (upd H p o) := fun b x e => by
  rw [upd_ne (ne_of_none e h)]
  exact e
/-- what stood stands, but for the object at d -/
def Fd (d : Addr) (H H' : Hp) : Prop := ∀ b o, b ≠ d → H b = some o → H' b = some o
theorem Fd.refl (d : Addr) (H : Hp) : Fd d H H := fun _ _ _ e => e
theorem Fd.trans {d : Addr} {H H1 H2 : Hp} (a : Fd d H H1) (b : Fd d H1 H2) : Fd d H H2 := fun c o n e => b c o n (a c o n e)
theorem Fd.of {d : Addr} {H H' : Hp} (a : Same H H') : Fd d H H' := fun b o _ e => a b o e
theorem Fd.new {d : Addr} {H : Hp} {p : Addr} {o : HO} (h : H p = none) : Fd d H (upd H p o) := Fd.of (same_upd h)
theorem Fd.at {d : Addr} {H : Hp} {o : HO} : Fd d H (upd H d o) := fun b x n e => by
  rw [upd_ne n]
  exact e
/-- a def that may be called by its name -/
structure Cl (P : Program) (w : World) (K : PySem.W.Frag) (mg : Str → Option Value) (base : Heap) (k : Nat) (x : Str) (sp : Sp) : Prop where
  ex : ∃ (f : Addr) (fd : FuncData) (ps : List Str), FnOk P w K mg base CX0 k f fd ps sp ∧ mg x = some (.ref f) ∧ PySem.W.keepIn K (.ref f) = true ∧ Binds K fd ps []
section
variable {X : Cx} {k j : Nat} {x : Str} {sp : Sp} {p pos : Pos} {e : Expr} {es : List Expr} {t : TA}
theorem pe_u (c : Cl X.prog X.w X.K X.mg X.base k x sp) (hr : Room j X.A) (hk : k ≤ j) (hg : Gl X x) (ha : PA X (e :: es) t)
    (hdb : (x == ("__debug__" : Str)) = false := by decide) (he : starEach (e :: es) X.env = (false, eval e X.env) :: starEach es X.env := by rfl) (hpl : (backTo pos (starEach es X.env)).any (·.1) = false := by rfl) :
    PE X (.Call (.Name x p) (e :: es) [] pos) (tCall sp [] E0 t) := by
  obtain ⟨f, fd, ps, F, hm, kp, b⟩ := c.ex
  exact pe_call F (hr.mono hk) hg hm kp b .nil pass0 ha hdb he hpl
theorem pe_u0 (c : Cl X.prog X.w X.K X.mg X.base k x sp) (hr : Room j X.A) (hk : k ≤ j) (hg : Gl X x) (hdb : (x == ("__debug__" : Str)) = false := by decide) : PE X (.Call (.Name x p) [] [] pos) (tCall sp [] E0 tNil) := by
  obtain ⟨f, fd, ps, F, hm, kp, b⟩ := c.ex
  exact pe_call0 F (hr.mono hk) hg hm kp b .nil pass0 hdb
end
theorem FnOk.cl {P : Program} {w : World} {K : PySem.W.Frag} {mg : Str → Option Value} {base : Heap} {k : Nat} {x q : Str} {st : Stmt} {f : Addr} {fd : FuncData} {ps : List Str} {sp : Sp} (h : FnOk P w K mg base CX0 k f fd ps sp) (F : Fun K x q st f fd) (g : mg x = some (.ref f)) (b : Binds K fd ps []) : Cl P w K mg base k x sp := ⟨f, fd, ps, h, g, F.kp, b⟩
/-! ### rules with the written part named (within a comprehension) -/
section
variable {X : Cx} (K : PySem.W.Frag)
theorem ix_listK (h : X.K = K := by rfl) : IxR X (rIxL K) := by subst h; exact ix_list
theorem ix_tupK (h : X.K = K := by rfl) : IxR X (rIxT K) := by subst h; exact ix_tup
theorem ix_seqK (h : X.K = K := by rfl) : IxR X (rIx K) := by subst h; exact ix_seq
theorem len_seqK (h : X.K = K := by rfl) : CallR X (.builtin "len") (fun xs H Q => ∃ p ys, xs = [.ref p] ∧ (SqL K H p ys ∨ SqT K H p ys) ∧ Q (.int ys.length) H) := by subst h; exact call_len_seq
theorem isiK (h : X.K = K := by rfl) : CallR X (.builtin "isinstance") (rIsi K) := by subst h; exact call_isi
theorem isiTK (h : X.K = K := by rfl) : CallR X (.builtin "isinstance") (rIsiT K) := by subst h; exact call_isiT
theorem allK (hc : X.calm = true) (h : X.K = K := by rfl) : CallR X (.builtin "all") (rAll K) := by subst h; exact cr_all hc
theorem listK (h : X.K = K := by rfl) : CallR X (.type "list") (fun xs H Q => ∃ p ys, xs = [.ref p] ∧ (SqL K H p ys ∨ SqT K H p ys) ∧ ∀ l, H l = none → Q (.ref l) (upd H l (.lst ys))) := by subst h; exact call_list_of
theorem tupleK (h : X.K = K := by rfl) : CallR X (.type "tuple") (fun xs H Q => ∃ p ys, xs = [.ref p] ∧ ((SqL K H p ys ∧ ∀ l, H l = none → Q (.ref l) (upd H l (.tup ys))) ∨ (SqT K H p ys ∧ Q (.ref p) H))) := by subst h; exact call_tuple_of
theorem inK (h : X.K = K := by rfl) : OpR X (compareOp .In) (rIn K false) := by subst h; exact op_in_seq
theorem notInK (h : X.K = K := by rfl) : OpR X (compareOp .NotIn) (rIn K true) := by subst h; exact op_notIn_seq
theorem pe_bmK {T : String} {name : Str} {id : String} {r : V → List V → Hp → VK → Prop} {o e : Expr} {es : List Expr} {to : TE} {t : TA} {apos cpos : Pos} (pa : PlainAttrs T) (slot : Slot T name id) (hty : typeOf (.builtin id) = pure (.type "method_descriptor")) (hm : MtR X id r) (ho : PE X o to) (ha : PA X (e :: es) t) (hK : X.K = K := by rfl)
    (hbase : attributeBase o name X.env (eval o X.env) = eval o X.env := by rfl)
    (hfew : ((backTo cpos (starEach (e :: es) X.env)).all (fun x => !x.1) && (backToKw cpos (keywordEach [] X.env)).all (fun x => x.1.isSome)
      && decide ((e :: es).length + ([] : List Keyword).length + (if ([] : List Keyword).isEmpty then 0 else 1) < 30)) = true := by rfl)
    (hline : (apos.endLine == cpos.line) = true := by rfl) (hs : starEach (e :: es) X.env = (false, eval e X.env) :: starEach es X.env := by rfl) (hplain : (backTo cpos (starEach es X.env)).any (·.1) = false := by rfl) :
    PE X (.Call (.Attribute o name apos) (e :: es) [] cpos) (tBM K T r to t) := by subst hK; exact pe_bm pa slot hty hm ho ha hbase hfew hline hs hplain
theorem pt_truthK {a : Expr} {ta : TE} (ha : PE X a ta) (he : ∀ whole, isTrue a X.env whole = (do let v ← whole; standAt a.pos; holding [v] (truthy v))) (h : X.K = K := by rfl) : PT X a (fun σ H Q => ta σ H fun x H' => ∃ k, TruV K x H' k ∧ Q k H') := by subst h; exact pt_truth ha he
theorem eqDK (hu : X.A.units + 64 < cLine) (h : X.K = K := by rfl) : OpR X (compareOp .Eq) (rEqD K) := by subst h; exact op_eqD hu
theorem neDK (hu : X.A.units + 64 < cLine) (h : X.K = K := by rfl) : OpR X (compareOp .NotEq) (rNeD K) := by subst h; exact op_neD hu
end
/-- over the signs of a text -/
theorem for_strs {x : Str} {g : TG} {tb : TS} {D : Ends} {σ : L2.St} {H : Hp} (Pv : Nat → L2.St → Hp → Prop) (h0 : Pv 0 σ H)
    (hs : ∀ i c σ H, x.cps.toList[i]? = some c → Pv i σ H → g (.str ⟨#[c]⟩) σ H fun σ2 H2 => tb { D with nx := Pv (i + 1), ct := Pv (i + 1), bk := D.nx } σ2 H2) (hd : ∀ σ H, Pv x.cps.toList.length σ H → D.nx σ H) :
    ∃ W : Nat → Nat → L2.St → Hp → Prop, (∃ m, W 0 m σ H) ∧ ∀ i m σ H, W i m σ H →
      ((Its x).stop i H ∧ D.nx σ H) ∨ ((Its x).go i H ∧ ∃ N : L2.St → Hp → Prop, (∀ σ' H', N σ' H' → ∃ m', m' < m ∧ W (i + 1) m' σ' H') ∧ ∀ v H', (Its x).yld i H v H' → g v σ H' fun σ2 H2 => tb { D with nx := N, ct := N, bk := D.nx } σ2 H2) := by
  have es : x.cps.toList.length = x.cps.size := by simp
  refine ⟨fun i m σ H => m = x.cps.size - i ∧ i ≤ x.cps.size ∧ Pv i σ H, ⟨x.cps.size, by simp, Nat.zero_le _, h0⟩, ?_⟩
  rintro i m σ H ⟨rfl, hi, p⟩
  by_cases hlt : i < x.cps.size
  · refine .inr ⟨hlt, Pv (i + 1), fun σ' H' p' => ⟨x.cps.size - (i + 1), by omega, rfl, hlt, p'⟩, fun v H' y => ?_⟩
    obtain ⟨e, c, hc, rfl⟩ := y
    subst e
    exact hs i c σ _ (by rw [Array.getElem?_toList]; exact hc) p
  · have e : i = x.cps.size := by omega
    subst e
    exact .inl ⟨Nat.le_refl _, hd σ H (by rw [es]; exact p)⟩
theorem joinL0 : ∀ ps : List (List Nat), TL.joinL [] ps = ps.flatten
  | [] => rfl
  | [p] => by
    show p = p ++ []
    rw [List.append_nil]
  | p :: q :: r => by
    show p ++ ([] ++ TL.joinL [] (q :: r)) = p ++ (q :: r).flatten
    rw [joinL0 (q :: r), List.nil_append]
theorem join0 (ys : List Str) : Txt.join ⟨#[]⟩ ys = ⟨((ys.map TL.tl).flatten).toArray⟩ := by
  refine TL.ext_tl ?_
  rw [TL.join_eq, TL.tl_join]
  show TL.joinL [] _ = _
  rw [joinL0]
theorem flat_len : ∀ ys : List Str, ((ys.map TL.tl).flatten).length = (ys.map (·.length)).sum
  | [] => rfl
  | y :: ys => by
    rw [List.map_cons, List.flatten_cons, List.length_append, flat_len ys, List.map_cons, List.sum_cons]
    show y.cps.toList.length + _ = _
    rw [Array.length_toList]
    rfl
theorem S_len' (l : List Nat) : (⟨l.toArray⟩ : Str).length = l.length := by simp [Str.length]
theorem cut_to (l : List Nat) {o : Nat} (h : o ≤ l.length) : cutS ⟨l.toArray⟩ none (some (o : Int)) = ⟨(l.take o).toArray⟩ := by
  unfold cutS
  rw [HT.sIx_none, HT.sIx_nat, S_len', Nat.sub_zero, Nat.min_eq_left h]
  show (⟨((l.drop 0).take o).toArray⟩ : Str) = _
  rw [List.drop_zero]
theorem str1 (c : Nat) (d : Nat) : decide (V.str ⟨#[c]⟩ = V.str ⟨#[d]⟩) = decide (c = d) := by
  by_cases h : c = d
  · subst h
    rw [decide_eq_true rfl, decide_eq_true rfl]
  · rw [decide_eq_false h, decide_eq_false]
    intro e
    have e1 := V.str.inj e
    have e2 := Array.toList_inj.mpr (Str.mk.inj e1)
    exact h (by simpa using e2)
def tx (l : List Nat) : V := .str ⟨l.toArray⟩
/-- a comprehension's scope within another scope -/
def relS (scope sc : Scope) : Scope := { scope with names := scope.names.map fun (n, k) => if (k == .free && sc.kind == .function && sc.names.lookup n == some .cell) then (n, .cell) else (n, k) }
theorem anyK {X : Cx} (K : PySem.W.Frag) (hc : X.calm = true) (h : X.K = K := by rfl) : CallR X (.builtin "any") (rAny K) := by subst h; exact cr_any hc
theorem pi_listK {X : Cx} (K : PySem.W.Frag) {l tg : Expr} {tl : TE} (hl : PE X l tl) (h : X.K = K := by rfl) : PI X tg l (iList K tl) := by subst h; exact pi_list hl
theorem pi_tupK {X : Cx} (K : PySem.W.Frag) {l tg : Expr} {tl : TE} (hl : PE X l tl) (h : X.K = K := by rfl) : PI X tg l (iTup K tl) := by subst h; exact pi_tup hl

/-! ### an own error whose __init__ says super().__init__(e): its def by its body -/
theorem mw_push {h : Heap} {o : Obj} : ∀ b u, h.get? b = some u → (h.push o).get? b = some u := fun b u e => Heap.get?_push_of_some _ e
/-- the bound __init__ of ValueError, called -/
theorem call_mw {X : Cx} {pins : List (Addr × Obj)} {σ : L2.St} {H : Hp} {s : Shared} {a C u : Addr} {us : List Value} {A : Around} {E : Value → Shared → Prop} {Q : Value → Shared → Prop} (T : OexC X.K C) (I : Inv X pins σ H s) (e : H a = some (exo a C none)) (hu : s.heap.get? u = some (PySem.W.kxs_mw "ValueError.__init__" a)) (hl : us.length ≤ sizeLine) (h : ∀ s', Inv X pins σ H s' → Q .none s') :
    wpAny (model X.prog X.w) A (call (.ref u) us) Q E s := by
  obtain ⟨nm, q, N, bs, bm, sn, sub, ab, col, dd, k0, k1, k2, k3, k5, hC, hbm⟩ := T.cls
  obtain ⟨t1, ho⟩ := exo_at I.hok e
  obtain ⟨hp, g, d, t, os⟩ := s
  refine wpAny_call (codeAny_of_tree ?_)
  show wpAny _ A.in1 (callAny (.ref u) ⟨us, []⟩) _ _ _
  simp only [callAny]
  refine (wpAny_bind (wpAny_load hu ?_))
  simp only [PySem.W.kxs_mw, show (Value.type "method-wrapper" == Value.type "method" || Value.type "method-wrapper" == Value.type "builtin_function_or_method" || Value.type "method-wrapper" == Value.type "method-wrapper") = true by decide, if_true]
  refine PySem.W.KFB.if_so (by decide) ?_
  refine (wpAny_bind (PySem.W.check_bound_init PySem.F.excBase_ValueError.toExcCallFacts (I.kIn _ _ hC) ho rfl ?_))
  refine (wpAny_bind (wpAny_pure (wpAny_pure ?_)))
  refine ⟨plainId_quiet PySem.F.excBase_ValueError.init.plain _, codeAny_builtin PySem.F.excBase_ValueError.initEntry ?_⟩
  refine PySem.W.exc_init_tree (cls := .ref C) (t0 := t1) (dv := none) (c2 := .none) (c3 := .none) (b4 := .bool false) ho hl fun h' k hx ht => ?_
  have J := I.write (t' := t) (x := a) (e := a) (o := exo a C none) (by rw [e]; exact True.intro) (.inl rfl) k ⟨_, hx⟩ (exo_ok hx)
  have eu : upd H a (exo a C none) = H := by
    funext b
    by_cases hb : b = a
    · rw [hb, upd_same, e]
    · rw [upd_ne hb]
  rw [eu] at J
  exact h _ J
section
open NdefX
/-- what the written part says of such a class at C, of its __init__ F at f -/
structure SupC (P : Program) (K : PySem.W.Frag) (mg : Str → Option Value) (C f : Addr) (F : NF) (fd : FuncData) : Prop where
  lk : ∃ (oc : Value) (od : Option Addr) (osl : Array (Option Value)) (doc pm ct : Value), K.lookup f = some ⟨oc, od, .func fd, osl⟩ ∧ fd = F.fd doc pm ct
  hcd : PySem.W.codeIn K (.ref F.c) F.qual = true
  code : ∃ (ccl : Value) (cdd : Option Addr) (vs : Array Value) (ccs : Array (Option Value)) (file : Str) (tf : Tok), K.lookup F.c = some ⟨ccl, cdd, .fields vs, ccs⟩ ∧ vs[2]? = some (.str file tf) ∧ ((P.main.file : Str) == file) = true
  cell : ∃ (cc : Addr) (cl : Value) (cld : Option Addr) (csl : Array (Option Value)), F.cl = [(("__class__" : Str), cc)] ∧ K.lookup cc = some ⟨cl, cld, .cell (some (.ref C)), csl⟩
  cd : ∃ cd, PySem.W.clsIn K C = some cd
  sub : PySem.W.mroIn K C (.ref C) = some true
  noS : mg "super" = none
  top : (P.main.scope.names.lookup ("super" : Str)).isSome = false
  opq : PySem.W.nsIn K cStatics "thirdparty.any" = some none
  ini : PySem.W.ks_superIn K C C "__init__" = some (some (.builtin "ValueError.__init__"))
  isV : PySem.W.subIn K (.ref C) (.type "ValueError") = some true
  T : OexC K C
  hks : F.scope.names.lookup ("super" : Str) = some .globalImplicit
  hkc : F.scope.names.lookup ("__class__" : Str) = some .free
  hka : F.scope.names.lookup ("self" : Str) = some .local
  par : ∃ ar, (F.params.posonlyargs ++ F.params.args).head? = some ar ∧ ar.arg = "self"
theorem exo_none {C x : Addr} {h : Heap} {t1 : Addr} (he : h.get? x = some ({ cls := .ref C, dict := none, data := .fields #[.ref t1, .none, .none, .none, .bool false, .none] } : Obj)) : h.get? x = some (PySem.W.excObj C t1 none .none) := he
variable {P : Program} {w : World} {K : PySem.W.Frag} {mg : Str → Option Value} {base : Heap} {N ps : List Str} {F : NF} {f C : Addr} {k : Nat} {fd : FuncData} {sp : Sp} {e : Expr} {rest : List Stmt} {p0 p1 p2 p3 p4 : Pos}
set_option maxHeartbeats 2000000 in
theorem fn_super (U : SupC P K mg C f F fd) (S : NScope N ps ["__class__"] F.scope) (hb : F.body = .Expr (.Call (.Attribute (.Call (.Name "super" p0) [] [] p1) "__init__" p2) [e] [] p3) p4 :: rest) (hps : ps[0]? = some ("self" : Str))
    (hee : ∀ env : Env, ∃ pl : Sem Bool, eval (.Call (.Attribute (.Call (.Name "super" p0) [] [] p1) "__init__" p2) [e] [] p3) env = (do
      let ov ← attributeBase (.Call (.Name "super" p0) [] [] p1) "__init__" env (eval (.Call (.Name "super" p0) [] [] p1) env)
      standAt p2.atName
      let (f, first) ← holding [ov] (getMethod ov "__init__" pl)
      callWith p3 f first (backTo p3 (starEach [e] env)) []))
    (hst : ∀ env : Env, starEach [e] env = (false, eval e env) :: starEach [] env) (hsw : ∀ env : Env, swapsWith (.Call (.Attribute (.Call (.Name "super" p0) [] [] p1) "__init__" p2) [e] [] p3) none p4.line env = pure false)
    (len : ∀ vs H Q E, sp vs H Q E → vs.length = ps.length)
    (hbody : ∀ (A : Around) (outer : List Env) (s : Shared) (H : Hp) (vs : List V) (Q : VK) (E : XK), Room k (A.deeper (envF F f s.heap.objs.size)) → sp vs H Q E →
      ∃ te t, PE (ncx CX0 P w K mg base N F f A outer s H E) e te ∧ PSs (ncx CX0 P w K mg base N F f A outer s H E) rest t ∧
        ∃ a, vs[0]? = some (.ref a) ∧ H a = some (exo a C none) ∧ ∀ u H0, H u = none → Same H H0 → tCons te tNil (startF N vs [some (.ref C)]) H0 fun zs H1 => zs.length ≤ 1 ∧ H1 a = some (exo a C none) ∧ (∀ o, H0 u = some o → H1 u = some o) ∧ t { nx := fun _ H' => Q .non H', rt := Q } (startF N vs [some (.ref C)]) H1) :
    FnOk P w K mg base CX0 (k + 1) f fd ps sp := by
  refine ⟨len, fun A outer s H args us vs Q E hr e0 hbd r hsp => ?_⟩
  have hl := len _ _ _ _ hsp
  have KX : K.In s.heap := e0.mod.kin.keeps fun b o e => (e0.bs b o e).1
  have lim : s.heap.NoLimit := e0.mod.nolimit.keeps fun b o e => (e0.bs b o e).1
  obtain ⟨oc, od, osl, doc, pm, ct, lk, rfl⟩ := U.lk
  obtain ⟨ccl, cdd, fvs, ccs, file, tf, lkc, hfile, hmain⟩ := U.code
  obtain ⟨cc, cl, cld, csl, hcl, lkcc⟩ := U.cell
  obtain ⟨cd, hcd⟩ := U.cd
  obtain ⟨ar, har, hara⟩ := U.par
  obtain ⟨nm, q, Nn, bs, bm, sn, sub, ab, col, dd, k0, k1, k2, k3, k5, hC, hbm⟩ := U.T.cls
  obtain ⟨te, t, he, ht, a, hva, ha, hq⟩ := hbody A outer s H vs Q E (hr.deeper _) hsp
  -- the cell
  have base_at : ∀ {b : Addr} {o : Obj}, K.lookup b = some o → H b = none ∧ s.heap.get? b = some o := fun {b o} z => by
    have z1 := e0.mod.kin _ _ z
    exact ⟨(e0.bs _ _ z1).2, (e0.bs _ _ z1).1⟩
  have CA : CellsAt F.cl ["__class__"] [some (.ref C)] s.heap H := by
    rw [hcl]
    refine ⟨rfl, fun y c h => ?_, fun x y c h1 h2 => ?_, fun i y h => ?_⟩
    · obtain rfl : c = cc := by
        have := PySem.mem_of_lookup h
        exact (Prod.mk.inj (List.mem_singleton.mp this)).2
      exact ⟨(base_at lkcc).1, _, _, (base_at lkcc).2, rfl⟩
    · have e1 := (Prod.mk.inj (List.mem_singleton.mp (PySem.mem_of_lookup h1))).1
      have e2 := (Prod.mk.inj (List.mem_singleton.mp (PySem.mem_of_lookup h2))).1
      rw [e1, e2]
    · cases i with
      | zero =>
        cases h
        refine ⟨cc, by rw [List.lookup_cons, beq_self_eq_true], fun v hv => ?_⟩
        cases hv
        exact ⟨.ref C, rfl, _, (base_at lkcc).2, rfl⟩
      | succ i => cases h
  refine codeAny_call_function hr.depth (KX _ _ lk) rfl S.co S.gen rfl (PySem.W.codeRec_of KX U.hcd) (hbd _ _ _ _ ?_)
  refine wpAny_newFunctionEnv S.nocell (fun ⟨n, _⟩ hy => S.par n (List.of_mem_zip hy).1) (fun h₁ hns hsb => ⟨lim.fresh _ hsb, ?_⟩) S.kind
  show codeAny _ _ (.func F.body (envF F f s.heap.objs.size)) _ _
  have kp : ∀ b o, s.heap.get? b = some o → h₁.get? b = some o := fun b o e => hsb.extBut b o (Nat.ne_of_lt (Heap.lt_size e)) (Heap.get?_push_of_some _ e)
  have I : Inv (ncx CX0 P w K mg base N F f A outer s H E) [] (startF N vs [some (.ref C)]) H { s with heap := h₁, toks := s.toks + (ps.zip us).length } := inv_startN S hr.hd e0 hl r CA hns kp
  refine PySem.ks_codeAny_funcAt ?_
  rw [hb]
  obtain ⟨pl, hee⟩ := hee (envF F f s.heap.objs.size)
  refine PySem.ks_wpAt_execs_cons (PySem.ks_wpAt_Expr_any (PySem.ks_wpAt_MethodCall (pl := pl) ?_ hee) (hi := I.quiet) (hs := hsw _))
  -- super()
  have hu0 : us[0]? = some (.ref a) := by
    obtain ⟨u, hu, rv⟩ := r.get hva
    obtain rfl : u = Value.ref a := rv
    exact hu
  have hself : (ps.zip us).reverse.lookup ("self" : Str) = some (.ref a) := zip_look (by
    have q := S.nd.sublist (List.take_sublist (ps.length + [("__class__" : Str)].length) N)
    rw [S.pre] at q
    exact (List.nodup_append.mp q).1) hps hu0
  have K1 : ∀ {b : Addr} {o : Obj}, K.lookup b = some o → h₁.get? b = some o := fun z => kp _ _ (KX _ _ z)
  obtain ⟨mb, b1, b2⟩ := I.mod.blt
  obtain ⟨t1, hx1⟩ := exo_at I.hok ha
  have hx1 : h₁.get? a = some ({ cls := .ref C, dict := none, data := .fields #[.ref t1, .none, .none, .none, .bool false, .none] } : Obj) := hx1
  have hC1 := K1 hC
  obtain ⟨oD, hD1, hD2⟩ : ∃ oD, h₁.get? C = some oD ∧ oD.data = .cls cd := by
    have hcd := hcd
    unfold PySem.W.clsIn at hcd
    rw [hC] at hcd
    cases hcd
    exact ⟨_, hC1, rfl⟩
  refine PySem.ks_wpAt_super_base (env := envF F f s.heap.objs.size) U.hks U.hkc (by decide) rfl (K1 lk) rfl har rfl (K1 lkc) rfl hfile hmain U.top ?_
  refine PySem.W.ks_loadName_global S.kind U.hks (Calls.loadGlobal_builtin (env := envF F f s.heap.objs.size) (I.mod.glob.keeps I.bk) U.noS (b1.keeps I.bk) ((b2 "super" (by decide)).trans (by decide +kernel : bootBuiltins "super" = some (.type "super"))) ⟨rfl, ?_⟩)
  refine wpAny_loadName_free S.kind U.hkc (c := cc) (v := .ref C) (by show F.cl.lookup _ = _; rw [hcl, List.lookup_cons, beq_self_eq_true]) ⟨_, K1 lkcc, rfl⟩ ?_
  rw [hara]
  refine wpAny_loadName_local S.kind U.hka hns hself ?_
  refine PySem.ks_wpAny_isType_cls hD1 hD2 ⟨rfl, ?_⟩
  refine PySem.ks_wpAny_call_super hD1 hD2 hx1 rfl (fun c z => by cases z) (PySem.W.looks_mroIn (KX.keeps kp) U.sub) (fun h2 hso k2 => ?_)
  have I2 : Inv (ncx CX0 P w K mg base N F f A outer s H E) [] (startF N vs [some (.ref C)]) H { s with heap := h2, toks := s.toks + (ps.zip us).length } := I.kept (t' := s.toks + (ps.zip us).length) k2
  have X2 : K.In h2 := (KX.keeps kp).keeps k2
  have IA : PySem.W.InstAt h2 a { cls := .ref C, dict := none, data := .fields #[.ref t1, .none, .none, .none, .bool false, .none] } C none := ⟨k2 _ _ hx1, rfl, rfl, trivial⟩
  have hini : PySem.W.alongIn K "__init__" ((cd.mro.dropWhile (· != .ref C)).drop 1) = some (some (.builtin "ValueError.__init__")) := by
    have z := U.ini
    unfold PySem.W.ks_superIn at z
    rw [hcd] at z
    exact z
  have haC : a ≠ C := fun z => by
    have := (base_at hC).1
    rw [← z, ha] at this
    cases this
  refine PySem.W.kxs_getMethod PySem.W.kxs_ValueError hso (PySem.W.looks_opaque X2 U.opq) (l₀ := cd.mro) (fun A Q E s k q => wpAny_bind ((PySem.W.looks_clsIn X2 hcd) A _ E s k (wpAny_pure q))) rfl X2 hini (IA.type.andThen (PySem.W.looks_subIn X2 U.isV)) haC (by decide) ?_
  have nu : H h2.objs.size = none := I2.hok.fresh (Nat.le_refl _)
  have I3 := I2.laid (o := .ext fun h => h.get? h2.objs.size = some (PySem.W.kxs_mw "ValueError.__init__" a)) (h' := h2.push (PySem.W.kxs_mw "ValueError.__init__" a)) (t' := s.toks + (ps.zip us).length + 1) mw_push (Nat.le_refl _) ⟨Heap.get?_push_size _ rfl, ⟨_, Heap.get?_push_size _ rfl⟩, fun h1 h2 z g => g _ z⟩
  have q0 := hq h2.objs.size _ nu (same_upd nu (o := .ext fun h => h.get? h2.objs.size = some (PySem.W.kxs_mw "ValueError.__init__" a)))
  have ev := (pa_cons (X := ncx CX0 P w K mg base N F f A outer s H E) he pa_nil (hs := hst _)).run p3 [] _ _ _ _ I3 q0
  show wpAny _ _ (callWith p3 (.ref h2.objs.size) [] (backTo p3 (starEach [e] (envF F f s.heap.objs.size))) []) _ _ _
  rw [hst]
  rw [show starEach [e] (ncx CX0 P w K mg base N F f A outer s H E).env = (false, eval e (envF F f s.heap.objs.size)) :: starEach [] (envF F f s.heap.objs.size) from hst _] at ev
  refine PySem.W.kxs_callWith (i := "ValueError.__init__") (x := a) rfl (Calls.evalArgs_plain (thn ev fun us' s4 ⟨vs', H1, I4, r4, l4, e4, k4, q4⟩ => ?_))
  have hu4 : s4.heap.get? h2.objs.size = some (PySem.W.kxs_mw "ValueError.__init__" a) := (I4.hok _ _ (k4 _ upd_same)).1
  refine ⟨hu4, call_mw (X := ncx CX0 P w K mg base N F f A outer s H E) U.T I4 e4 hu4 (by show us'.length ≤ _; rw [← r4.length]; exact Nat.le_trans l4 (by decide)) fun s5 I5 => ?_⟩
  refine wpAt_of_wpAny (wpAny_mono (ht.run [] s5 _ H1 _ I5 q4) (fun fl s' hs => ?_) fun e s' hs => hs)
  have fin : ∀ {σ' : L2.St} {H' : Hp} {v : V} {u : Value}, Inv (ncx CX0 P w K mg base N F f A outer s H E) [] σ' H' s' → L2.RelV v u → Q v H' → CE outer P w H s Q u s' := fun {σ' H' v u} J rv q => ⟨v, H', J.os, J.bare, J.base, J.hok, rv, q⟩
  cases fl with
  | ret u =>
    obtain ⟨v, σ', H', J, rv, q⟩ := hs
    exact fin J rv q
  | next =>
    obtain ⟨σ', H', J, q⟩ := hs
    exact fin (v := V.non) (u := Value.none) J rfl q
  | brk =>
    obtain ⟨_, _, _, q⟩ := hs
    exact False.elim q
  | cont =>
    obtain ⟨_, _, _, q⟩ := hs
    exact False.elim q
end

/-! ### the program's problem: an error with a message alone -/
def fs1 (m : Str) : List (Str × V) := [("message", .str m)]
def sp_pinit (C : Addr) : Sp := fun vs H Q _ => ∃ (a : Addr) (m : Str), vs = [.ref a, .str m] ∧ H a = some (exo a C none) ∧ m.length ≤ 1000 ∧ ∀ H' d, (∀ b o, b ≠ a → H b = some o → H' b = some o) → H' a = some (exo a C (some d)) → H' d = some (exd d (fs1 m)) → H d = none → d ≠ a → Q .non H'
theorem ns_pinit : NdefX.nscB ["self", "message", "__class__"] ["self", "message"] ["__class__"] (defScope s_Problem___init__) = true := by decide +kernel
section
open NdefX
variable {P : Program} {w : World} {K : PySem.W.Frag} {mg : Str → Option Value} {base : Heap} {C f : Addr} {fd : FuncData}
abbrev pF (cc cda : Addr) : NF := ⟨"__init__", "Problem.__init__", defArgs s_Problem___init__, defBody s_Problem___init__, defScope s_Problem___init__, [("__class__", cc)], cda⟩
theorem ok_pinit {cc cda : Addr} (U : SupC P K mg C f (pF cc cda) fd) (n1 : PySem.W.findIn K (.ref C) "message" = some none) : FnOk P w K mg base CX0 1 f fd ["self", "message"] (sp_pinit C) := by
  refine fn_super (N := ["self", "message", "__class__"]) (F := pF cc cda) U (nscope_by ns_pinit) rfl rfl (fun env => ⟨_, rfl⟩) (fun env => rfl) (fun env => rfl) (fun vs H Q E h => ?_) (fun A outer s H vs Q E hr h => ?_)
  · obtain ⟨a, m, rfl, _⟩ := h
    rfl
  · obtain ⟨a, m, rfl, ha, hm, q⟩ := h
    refine ⟨_, _, pv 1, pss_one (ps_ost (pv 0) (pv 1)), a, rfl, ha, fun u H0 hu s0 => ?_⟩
    refine ⟨_, rfl, Nat.le_refl _, s0 _ _ ha, fun o e => e, ?_⟩
    refine ⟨_, rfl, _, rfl, a, C, rfl, U.T, n1, .inl ⟨s0 _ _ ha, fun dx nx nxa => ?_⟩⟩
    have nxH : H dx = none := by
      cases e : H dx with
      | none => rfl
      | some o => rw [s0 _ _ e] at nx; cases nx
    refine q _ dx (fun b o nb e => ?_) upd_same (by rw [upd_ne nxa, upd_same]; rfl) nxH nxa
    rw [upd_ne nb, upd_ne (ne_of_none (s0 _ _ e) nx)]
    exact s0 _ _ e
end
/-- all that a def that raises it needs -/
structure PrbE (P : Program) (w : World) (K : PySem.W.Frag) (mg : Str → Option Value) (base : Heap) (C : Addr) : Prop where
  T : OexC K C
  nm : mg "Problem" = some (.ref C)
  ini : ∃ (fI : Addr) (fd : FuncData), PySem.W.findIn K (.ref C) "__init__" = some (some (.ref fI)) ∧ PySem.W.typeIn K (.ref fI) = some (.type "function") ∧ FnOk P w K mg base CX0 1 fI fd ["self", "message"] (sp_pinit C) ∧ Binds K fd ["self", "message"] []
/-- Problem(m) -/
def tMkM (C : Addr) (ta : TA) : L2.St → Hp → XK → Prop := fun σ H Q => ta σ H fun vs H1 => ∃ m : Str, vs = [.str m] ∧ m.length ≤ 1000 ∧ ∀ d H', H1 d = none → Same H1 H' → H' d = some (.xd (fs1 m)) → Q (.ref C) (some d) H'
theorem pmk_prb {X : Cx} {C : Addr} {k : Nat} {ta : TA} {e : Expr} {es : List Expr} {p pos : Pos} (S : PrbE X.prog X.w X.K X.mg X.base C) (hr : Room k X.A) (hk : 2 ≤ k) (hg : L2.Gl X "Problem") (ha : PA X (e :: es) ta)
    (he : starEach (e :: es) X.env = (false, eval e X.env) :: starEach es X.env := by rfl) (hpl : (backTo pos (starEach es X.env)).any (·.1) = false := by rfl) : PMk X (.Call (.Name "Problem" p) (e :: es) [] pos) (tMkM C ta) := by
  obtain ⟨fI, fd, iC, tI, F1, hb⟩ := S.ini
  have ha' : PA X (e :: es) (fun σ H Q => ∃ Q0 : List V → Hp → Prop, ta σ H Q0 ∧ ∀ vs H1, Q0 vs H1 → Q vs H1) := ⟨fun pos pins s σ H Q I ⟨Q0, a, m⟩ => wpAny_mono (ha.run pos pins s σ H Q0 I a) (fun us s' ⟨vs, H', J, r, q⟩ => ⟨vs, H', J, r, m _ _ q⟩) fun _ _ z => z⟩
  have go := pmk_oex (p := p) (pos := pos) (dvs := []) S.T iC tI F1 (hr.mono hk) hb .nil pass0 hg S.nm ha' (by decide) he hpl
  intro pins s σ H Q I h
  refine go pins s σ H Q I ⟨_, h, fun vs H1 hv => ?_⟩
  obtain ⟨m, rfl, hm, q⟩ := hv
  refine ⟨by show 1 ≤ 1000; decide, fun a na => ⟨a, m, rfl, upd_same, hm, fun H' d kp ea ed nd nda => ⟨rfl, d, _, ea, ed, ?_, ?_⟩⟩⟩
  · rw [upd_ne nda] at nd
    exact nd
  · rw [upd_ne nda] at nd
    refine q d _ nd (fun b o e => ?_) upd_same
    have nb := ne_of_none e na
    rw [upd_ne (ne_of_none e nd), del_ne nb]
    exact kp b o nb (by rw [upd_ne nb]; exact e)
/-- raise Problem(m), out of a def -/
theorem ps_raiseM {X : Cx} {C : Addr} {k : Nat} {ta : TA} {W : WX} {e : Expr} {es : List Expr} {p pos pos' : Pos} (S : PrbE X.prog X.w X.K X.mg X.base C) (hc : X.calm = true) (tk : Takes X W) (hr : Room k X.A) (hk : 2 ≤ k) (hg : L2.Gl X "Problem") (ha : PA X (e :: es) ta)
    (he : starEach (e :: es) X.env = (false, eval e X.env) :: starEach es X.env := by rfl) (hpl : (backTo pos (starEach es X.env)).any (·.1) = false := by rfl) : PS X (.Raise (some (.Call (.Name "Problem" p) (e :: es) [] pos)) none pos') (fun _ σ H => tMkM C ta σ H fun cls d H' => W cls d σ H') :=
  ps_raise hc tk (pmk_prb S hr hk hg ha he hpl)
/-- the problem with this message -/
def Pf (C : Addr) (m : Str) (E : XK) (H : Hp) : Prop := ∀ d H', H d = none → Same H H' → H' d = some (.xd (fs1 m)) → E (.ref C) (some d) H'
theorem Pf.ext {C : Addr} {m : Str} {E : XK} {H H2 : Hp} (s : Same H H2) (h : Pf C m E H) : Pf C m E H2 := fun d H' nd s' e => h d H' (by
  cases z : H d with
  | none => rfl
  | some o => rw [s _ _ z] at nd; cases nd) (s.trans s') e
/-- d.get(key, value), d a written dict -/
def tKGet2 (K : PySem.W.Frag) (w : World) (td ty tx : TE) : TE := fun σ H Q => td σ H fun x H1 => ∃ (p : Addr) (es : Array DictEntry) (n : Nat), x = .ref p ∧ KDict K w p es n ∧ ty σ H1 fun y H2 => tx σ H2 fun z H3 => ∃ (k : Str) (r : Option Value) (v : V), y = .str k ∧ PySem.W.nsIn K p k = some r ∧ (∀ u, r = some u → RelV v u) ∧ (r = none → v = z) ∧ Q v H3
theorem pe_kget2 {X : Cx} {o e f : Expr} {apos cpos : Pos} {td ty tx : TE} (ho : PE X o td) (he : PE X e ty) (hf : PE X f tx) (m : M2 X o "get" apos e f cpos) : PE X (.Call (.Attribute o "get" apos) [e, f] [] cpos) (tKGet2 X.K X.w td ty tx) := by
  refine ⟨fun pins s σ H Q I h => ?_⟩
  refine wpAny_Call_method m.base m.few m.line PySem.F.plainAttrs_dict PySem.F.slot_dict_get PySem.F.type_dict_get (thn (ho.run pins s σ H _ I h) fun u s1 ⟨x, H1, I1, rx, a, es, n, ex, D, q1⟩ => ?_)
  subst ex
  obtain rfl : u = Value.ref a := rx
  have hm1 := PySem.W.mapOf_K (prog := X.prog) (w := X.w) I1.kIn D.at_ D.lit
  refine ⟨hm1.typeIs, hm1.noDict, ?_⟩
  rw [m.trees]
  refine wpAny_dict_get2 (knd := strKind X.prog X.w) D.low (thn (he.run pins s1 σ H1 _ I1 q1) fun iv s2 ⟨y, H2, I2, ry, q2⟩ => thn (hf.run pins s2 σ H2 _ I2 q2) fun fv s3 ⟨z, H3, I3, rz, k, r, v, ey, en, h1, h2, q3⟩ => ?_)
  subst ey
  obtain ⟨t, rfl⟩ := ry
  refine ⟨k, _, PySem.strKind_is X.prog X.w k t, PySem.W.mapOf_K (prog := X.prog) (w := X.w) I3.kIn D.at_ D.lit, ⟨v, H3, I3.tok _, ?_, q3⟩⟩
  rw [PySem.W.find_K D.at_ en]
  cases r with
  | some u => exact h1 u rfl
  | none => rw [h2 rfl]; exact rz
/-- an error of the class at S is what «except S» names -/
theorem exm_self {K : PySem.W.Frag} {S : Addr} (h1 : PySem.W.subIn K (.ref S) (.type "BaseException") = some true) (h2 : PySem.W.isClsIn K S = true) (h3 : PySem.W.typeIn K (.ref S) = some (.type "type")) (h4 : PySem.W.subIn K (.ref S) (.ref S) = some true) : PySem.W.exmOne K (.ref S) (.ref S) = some true := by
  unfold PySem.W.isClsIn at h2
  unfold PySem.W.exmOne PySem.W.kitCls
  simp only [h1, h2, h3, h4, beq_self_eq_true, Bool.and_self, if_true]

structure ClX (P : Program) (w : World) (K : PySem.W.Frag) (mg : Str → Option Value) (base : Heap) (k : Nat) (x : Str) (sp : Sp) : Prop where
  ex : ∃ (f : Addr) (fd : FuncData) (ps : List Str), FnOk P w K mg base (L2.CX P w) k f fd ps sp ∧ mg x = some (.ref f) ∧ PySem.W.keepIn K (.ref f) = true ∧ Binds K fd ps []
theorem FnOk.clx {P : Program} {w : World} {K : PySem.W.Frag} {mg : Str → Option Value} {base : Heap} {k : Nat} {x q : Str} {st : Stmt} {f : Addr} {fd : FuncData} {ps : List Str} {sp : Sp} (h : FnOk P w K mg base (L2.CX P w) k f fd ps sp) (F : Fun K x q st f fd) (g : mg x = some (.ref f)) (b : Binds K fd ps []) : ClX P w K mg base k x sp := ⟨f, fd, ps, h, g, F.kp, b⟩
theorem passX {X : Cx} {E : XK} (tk : Takes X (fun cls d _ H => E cls d H)) : Passes (L2.CX X.prog X.w) X E := fun pins σ H s e s' I c => passAt (W := fun cls d _ H => E cls d H) tk σ pins H s e s' I c
section
variable {X : Cx} {k j : Nat} {x : Str} {sp : Sp} {E : XK} {p pos : Pos} {e : Expr} {es : List Expr} {t : TA}
theorem pe_ux (c : ClX X.prog X.w X.K X.mg X.base k x sp) (hr : Room j X.A) (hk : k ≤ j) (hp : Passes (L2.CX X.prog X.w) X E) (hg : L2.Gl X x) (ha : PA X (e :: es) t)
    (hdb : (x == ("__debug__" : Str)) = false := by decide) (he : starEach (e :: es) X.env = (false, eval e X.env) :: starEach es X.env := by rfl) (hpl : (backTo pos (starEach es X.env)).any (·.1) = false := by rfl) :
    PE X (.Call (.Name x p) (e :: es) [] pos) (tCall sp [] E t) := by
  obtain ⟨f, fd, ps, F, hm, kp, b⟩ := c.ex
  exact pe_call F (hr.mono hk) hg hm kp b .nil hp ha hdb he hpl
end

/-! ### comprehensions out of which an element's call may raise -/
abbrev blkx (X : Cx) (s : Shared) (H : Hp) (scope : Scope) (cenv : Env) (fp : List Addr) (xe : Value → Shared → Prop) : Cx := (X.blk s H scope cenv fp).tr [] xe
theorem ff_move {B B2 h1 h2 : Heap} : ∀ {l : List Env}, h1.FunFrames B l → (∀ L ∈ frs l, B2.get? L = none ∧ h2.get? L = h1.get? L) → h2.FunFrames B2 l
  | [], _, _ => trivial
  | e :: l, h, k => by
    obtain ⟨hk, ⟨L, o, hf, _, ho, hd⟩, hr⟩ := h
    have z := k L (List.mem_filterMap.mpr ⟨e, List.mem_cons_self, hf⟩)
    refine ⟨hk, ⟨L, o, hf, z.1, by rw [z.2]; exact ho, hd⟩, ff_move hr fun b hb => k b ?_⟩
    obtain ⟨e2, he2, q⟩ := List.mem_filterMap.mp hb
    exact List.mem_filterMap.mpr ⟨e2, List.mem_cons_of_mem _ he2, q⟩
section
variable {X : Cx}
/-- a call's exception within the block: noted, the block's names let go, and on -/
theorem cmp_out {E : XK} {pins : List (Addr × Obj)} {σ : L2.St} {H : Hp} {s s' : Shared} {u : Value} {ce : Env} (hst : X.stack = X.env :: X.outer) (hfr : X.env.frame = some X.env.locals) (tk : Takes X (fun cls d _ H => E cls d H)) (hce : ce.frame = X.env.frame) (I : Inv X pins σ H s) (hC : FpOk X pins H ce.locals) (hNs : ∃ m, s.heap.Ns ce.locals m)
    (c : L2.CX X.prog X.w X.stack H s E u s') : wpAny (model X.prog X.w) X.A (noteFrame u ce) (fun _ s2 => CompFails (model X.prog X.w) X.A X.xe ce u s2) (fun e s2 => CompFails (model X.prog X.w) X.A X.xe ce e s2) s' := by
  obtain ⟨a, B, H2, cls, d, rfl, fl, hok, ub, na, os, ag, hE⟩ := c
  obtain ⟨L, hL⟩ : ∃ L, L = X.env.locals := ⟨_, rfl⟩
  obtain ⟨C, hCe⟩ : ∃ C, C = ce.locals := ⟨_, rfl⟩
  rw [← hCe] at hC hNs
  have hfrs : X.A.frames = some (X.env :: X.outer) := by rw [I.ok.frames, hst]
  have hCf : C ∉ frs X.stack := fun z => by
    rcases List.mem_cons.mp (I.stkSub C z) with q | q
    · exact hC.2.1 q
    · exact hC.2.2.1 q
  obtain ⟨m0, oC, es0, ep0, hoC, rC⟩ := hNs
  have hBC : B.get? C = some oC := ub.keep C oC hoC hC.1 hCf
  have fl' := fl
  rw [hst] at fl'
  show wpAny _ _ (noteFrame (.ref a) { X.env with frame := ce.frame }) _ _ _
  rw [hce]
  refine HandSPX.looks_onZ Zc.steady hfrs hfr fl' fun h1 hh1 up1 => ?_
  rw [← hst] at hh1
  obtain ⟨kb1, kn1, kf1, tr1⟩ := hh1
  refine ⟨m0, ⟨oC, es0, ep0, by rw [← hCe]; exact kb1 _ _ hBC, rC⟩, fun h2 m2 hN2 sb => ?_⟩
  rw [← hCe] at sb hN2
  have sbo := sb.2
  obtain ⟨B2, b1, b2⟩ := L2.restrict h2 fun b => (B.get? b).isSome
  have sB2 : B2.StaysIn h2 := fun b o e => by
    cases q : (B.get? b).isSome with
    | false => rw [b2 b q] at e; cases e
    | true => rw [b1 b q] at e; exact e
  have nB2 : ∀ b, B.get? b = none → B2.get? b = none := fun b e => b2 b (by rw [e]; rfl)
  have tr2 : HandSPX.HeldZ B2 X.stack a (Zc cls d) L h2 := by
    refine ⟨sB2, nB2 _ kn1, ff_move kf1 fun b hb => ⟨nB2 _ (kf1.mem hb).1, sbo b fun z => hCf (by rw [← z]; exact hb)⟩, ?_⟩
    obtain ⟨oe, vs, T, oT, ts, he, hz, hd, g1, hnT, hTe, hT, hdT, g3⟩ := tr1
    exact ⟨oe, vs, T, oT, ts, (sbo a fun z => by rw [z, hBC] at kn1; cases kn1).trans he, hz, hd, g1, nB2 _ hnT, hTe, (sbo T fun z => by rw [z, hBC] at hnT; cases hnT).trans hT, hdT, by rw [hL]; exact g3⟩
  obtain ⟨oe, vs, T, oT, ts, he, hz, hd, g1, hnT, hTe, hT, hdT, g3⟩ := id tr2.2.2.2
  unfold PySem.passOn
  refine wpAny_bind (wpAny_field he hd g1 ?_)
  rw [if_neg (by simp)]
  rw [hce, hfr, ← hL]
  refine wpAny_bind (HandSPX.setFlight_onZ tr2 fun h3 hh3 up3 => wpAny_throw ?_)
  -- what X wants of it
  obtain ⟨G, r1, r2⟩ := L2.restrict h3 fun b => (B2.get? b).isSome || decide (b ∈ frs X.stack)
  have gB : ∀ b o, B2.get? b = some o → G.get? b = some o := fun b o e => (r1 b (by rw [e]; rfl)).trans (hh3.1 b o e)
  have gF : ∀ b, b ∈ frs X.stack → G.get? b = h3.get? b := fun b hb => r1 b (by simp [hb])
  have gO : ∀ b o, G.get? b = some o → h3.get? b = some o ∧ (b ∉ frs X.stack → B2.get? b = some o) := fun b o e => by
    cases q : ((B2.get? b).isSome || decide (b ∈ frs X.stack)) with
    | false => rw [r2 b q] at e; cases e
    | true =>
      rw [r1 b q] at e
      refine ⟨e, fun nb => ?_⟩
      have : (B2.get? b).isSome = true := by simpa [nb] using q
      obtain ⟨o', q'⟩ := Option.isSome_iff_exists.mp this
      rw [hh3.1 b o' q'] at e
      rw [q']
      exact e
  have bB : ∀ b o, b ≠ C → B.get? b = some o → B2.get? b = some o := fun b o hb e => by
    rw [b1 b (by rw [e]; rfl), sbo b hb]
    exact kb1 b o e
  have slots : ∀ b o, s.heap.get? b = some o → b ∈ frs X.stack → ∃ sl, G.get? b = some { o with slots := sl } := fun b o e hb => by
    obtain ⟨_, o0, e0, nf⟩ := I.stack.mem hb
    rw [e] at e0
    cases e0
    obtain ⟨l1, q1⟩ := ub.slot b o e hb
    obtain ⟨l2, q2⟩ := up1 b _ q1 nf
    have q3 := (sbo b fun z => hCf (by rw [← z]; exact hb)).trans q2
    obtain ⟨l4, q4⟩ := up3 b _ q3 nf
    exact ⟨l4, by rw [gF b hb]; exact q4⟩
  have J : Inv X pins σ H2 { s with heap := G, gens := s'.gens, drawn := s'.drawn, toks := s'.toks } := by
    refine I.call (ch := [C]) ⟨fun b o e n hb hc => ?_, fun b o e n hb _ => slots b o e hb, fun b o e n _ => ub.free b o e n, fun b o e hc => ?_, ub.tups, ub.frzs, ub.tbls⟩ (fun b o e => (hok b o e).stay (fun x v hx q => gB _ _ (bB _ _ (fun z => ?_) q)) (fun _ q => q) fun _ _ q => q) ag (fun b hb => ?_)
    · exact gB _ _ (bB _ _ (fun z => hc (by rw [z]; exact List.mem_singleton.mpr rfl)) (ub.keep b o e n hb))
    · by_cases hb : b ∈ frs X.stack
      · obtain ⟨sl, q⟩ := slots b o e hb
        exact ⟨_, q⟩
      · obtain ⟨o', q⟩ := ub.there b o e hb
        exact ⟨o', gB _ _ (bB _ _ (fun z => hc (by rw [z]; exact List.mem_singleton.mpr rfl)) q)⟩
    · have nC := ub.free C oC hoC hC.1
      rcases hx with hx | hx
      · rw [hx] at z
        rw [z, nC] at e
        cases e
      · rw [z, nC] at hx
        cases hx
    · rw [List.mem_singleton.mp hb]
      exact ⟨hC.2.2.2.1, hC.2.1, hC.2.2.2.2.1, hC.2.2.2.2.2⟩
  exact tk _ _ ⟨a, B2, _, pins, σ, H2, cls, d, rfl, J, fun b o e nb => (gO b o e).2 nb, Heap.UpToSlots.of_keeps fun b o e => (gO b o e).1, .inr (.inr (by rw [← hL]; exact hh3)), na, os, ag, hE⟩
end
section
variable {X : Cx}
theorem lcx_core {pins : List (Addr × Obj)} {s : Shared} {σ : L2.St} {H : Hp} {Q : VK} {E : XK} {elt tg iter : Expr} {ifs : List Expr} {scope : Scope} {own : List (Str × Nat)} {pos pos' : Pos} {wi : TI} {g : TG} {tt : TT} {te : TE} {use : Option (Value → Sem Unit)} {Qf : Value → Shared → Prop}
    (hc : X.calm = true) (hN : X.N.Nodup) (hst : X.stack = X.env :: X.outer) (hfr : X.env.frame = some X.env.locals) (tk : Takes X (fun cls d _ H => E cls d H)) (I : Inv X pins σ H s) (hi : PI X tg iter wi) (ok : BlkOk X.N X.env.scope scope own)
    (hg : ∀ s H C cl fp xe, PG (blkx X s H scope (compEnvC scope cl C X.env) fp xe) tg g) (ht : ∀ s H C cl fp xe, PTs (blkx X s H scope (compEnvC scope cl C X.env) fp xe) ifs tt)
    (he : ∀ s H C cl fp xe, Passes (L2.CX X.prog X.w) (blkx X s H scope (compEnvC scope cl C X.env) fp xe) E → PE (blkx X s H scope (compEnvC scope cl C X.env) fp xe) elt te) (hs : ∀ x, foldedSetIterable iter X.env x = pure x)
    (h : tLc wi g tt te (own.map (·.2)) σ H Q)
    (hRR : ∀ D ce s' m H', Inv X pins σ H' s' → Q (.ref D) H' → s'.heap.Ns ce.locals m → FpOk X pins H' ce.locals → compEnds (model X.prog X.w) X.A X.xe use Qf (.ref D) ce (.ok .next) s') :
    wpAny (model X.prog X.w) X.A (comprehension (.ListComp elt [⟨tg, iter, ifs, 0⟩] scope pos) scope X.env pos' (newList []) false (eval iter X.env) use) Qf X.xe s := by
  have hfree : ∀ y ∈ scope.names, y.2 = .free → ∃ c, X.env.cells.lookup y.1 = some c := fun y hy e => (ok.free y hy e).elim (fun k => I.ok.has _ (.inl k)) fun k => I.ok.has _ (.inr k)
  refine comprehension_at (use := use) rfl hs (closure_ok hfree) ok.kind (fun y hy e => by rw [ok.uniq y hy, e]) (thn (hi.run pins s σ H _ I h) fun xv s1 hx => thn hx fun itv s2 h2 => ?_)
  obtain ⟨it, fp, tn, J, H2, rfl, I2, T, st2, f2, q⟩ := h2
  refine wpAny_newObj_type (newEnv_comp ?_) (by show 0 ≤ sizeLine; decide)
  obtain ⟨D, hD⟩ : ∃ D, D = s2.heap.objs.size := ⟨_, rfl⟩
  rw [← hD]
  have hDn : H2 D = none := I2.hok.fresh (Nat.le_of_eq hD.symm)
  obtain ⟨W, ⟨m0, w0⟩, turn⟩ := q D hDn
  obtain ⟨u3, hu3⟩ : ∃ u3 : Shared, u3 = { s2 with heap := s2.heap.push { cls := .type "list", data := .seq ([] : List Value).toArray } } := ⟨_, rfl⟩
  have e3 : u3.heap = s2.heap.push { cls := .type "list", data := .seq ([] : List Value).toArray } := by rw [hu3]
  have I3 : Inv X pins σ (upd H2 D (.lst [])) u3 := by
    rw [hu3]
    refine I2.laid (t' := s2.toks) (fun _ _ e => Heap.get?_push_of_some _ e) (Nat.le_of_eq hD.symm) ⟨Nat.zero_le _, [], 0, .nil, ?_⟩
    rw [hD]
    exact Heap.get?_push_size _ rfl
  have f3 : ∀ b ∈ fp, FpOk X pins (upd H2 D (.lst [])) b ∧ b < u3.heap.objs.size := fun b hb => by
    obtain ⟨o, e, _⟩ := T.obj _ _ st2 b hb
    have lt := Heap.lt_size e
    refine ⟨⟨?_, (f2 b hb).2⟩, by rw [e3, Heap.size_push]; exact Nat.lt_succ_of_lt lt⟩
    rw [upd_ne (by rw [hD]; exact Nat.ne_of_lt lt)]
    exact (f2 b hb).1
  have st3 : tn 0 u3.heap := T.keep _ _ _ st2 fun b _ o e => by rw [e3]; exact Heap.get?_push_of_some _ e
  have I4 := (block_start I3 ok hN f3)
  obtain ⟨ce, hce⟩ : ∃ ce, ce = compEnvC scope (cellsFrom (u3.heap.objs.size + 1) scope.names (cloFrom X.env.cells scope.names [])) u3.heap.objs.size X.env := ⟨_, rfl⟩
  have cL : ce.locals = u3.heap.objs.size := by rw [hce]; rfl
  have cF : ce.frame = X.env.frame := by rw [hce]; rfl
  rw [← hu3]
  show codeAny _ _ (.compStart (.ListComp elt [⟨tg, iter, ifs, 0⟩] scope pos) 0 (.ref it) (.ref D) (compEnvC scope (cellsFrom (u3.heap.objs.size + 1) scope.names (cloFrom X.env.cells scope.names [])) u3.heap.objs.size X.env)) (compEnds (model X.prog X.w) X.A X.xe use Qf (.ref D) (compEnvC scope (cellsFrom (u3.heap.objs.size + 1) scope.names (cloFrom X.env.cells scope.names [])) u3.heap.objs.size X.env)) { u3 with heap := pushCells (u3.heap.push { cls := .type "dict", data := .dict #[] }) scope.names }
  obtain ⟨xe, hxe⟩ : ∃ xe : Value → Shared → Prop, xe = notedBy (model X.prog X.w) X.A ce fun e s' => compEnds (model X.prog X.w) X.A X.xe use Qf (.ref D) ce (.error e) s' := ⟨_, rfl⟩
  have pg := hg u3 (upd H2 D (.lst [])) u3.heap.objs.size (cellsFrom (u3.heap.objs.size + 1) scope.names (cloFrom X.env.cells scope.names [])) fp xe
  have pt := ht u3 (upd H2 D (.lst [])) u3.heap.objs.size (cellsFrom (u3.heap.objs.size + 1) scope.names (cloFrom X.env.cells scope.names [])) fp xe
  have pe := he u3 (upd H2 D (.lst [])) u3.heap.objs.size (cellsFrom (u3.heap.objs.size + 1) scope.names (cloFrom X.env.cells scope.names [])) fp xe
  rw [← hce] at I4 pg pt pe ⊢
  have nfp : ∀ b ∈ fp, (upd H2 D (.lst [])) b = none := fun b hb => (f3 b hb).1.1
  obtain ⟨H3, hH3⟩ : ∃ H3, H3 = upd H2 D (.lst []) := ⟨_, rfl⟩
  rw [← hH3] at I3 I4 pg pt pe w0 nfp
  have fpk : ∀ b ∈ fp, (b ∈ X.ex ∨ X.s_0.heap.objs.size ≤ b) ∧ b ≠ X.env.locals ∧ (∀ x c, X.env.cells.lookup x = some c → c ≠ b) ∧ ∀ p ∈ X.pn ++ pins, p.1 ≠ b := fun b hb => ⟨(f3 b hb).1.2.2.2.1, (f3 b hb).1.2.1, (f3 b hb).1.2.2.2.2.1, (f3 b hb).1.2.2.2.2.2⟩
  -- back in the def's context
  have back : ∀ {pins' : List (Addr × Obj)} {σ' : L2.St} {H' : Hp} {s' : Shared}, Inv (blkx X u3 H3 scope ce fp xe) pins' σ' H' s' → Inv X pins σ H' s' ∧ FpOk X pins H' ce.locals ∧ ∃ m, s'.heap.Ns ce.locals m := fun {pins' σ' H' s'} J' => by
    have nC : H' ce.locals = none := J'.free
    obtain ⟨m, hn, _⟩ := J'.loc
    exact ⟨I3.call' (ch := fp) J'.os J'.base J'.hok J'.bare fpk, I3.fpOk (by rw [cL]; exact Nat.le_refl _) nC, m, hn⟩
  have pe := pe fun pins' σ' H' s' u s'' J' c => by
    obtain ⟨J1, J2, J3⟩ := back J'
    have out := cmp_out (ce := ce) hst hfr tk cF J1 J2 J3 c
    show xe u s''
    rw [hxe]
    refine wpAny_mono out (fun _ s3 z => ?_) (fun _ s3 z => ?_) <;> (cases use <;> exact z)
  obtain ⟨u4, hu4⟩ : ∃ u4 : Shared, u4 = { u3 with heap := pushCells (u3.heap.push { cls := .type "dict", data := .dict #[] }) scope.names } := ⟨_, rfl⟩
  rw [← hu4] at I4 ⊢
  have I4 : Inv (blkx X u3 H3 scope ce fp xe) [] (wipe σ (own.map (·.2))) H3 u4 := Inv.toTry I4 xe
  have st4 : tn 0 u4.heap := T.keep _ _ _ st3 fun b _ o e => by rw [hu4]; exact pushCells_keeps _ _ _ _ (Heap.get?_push_of_some _ e)
  have stat : ∀ {σ' : L2.St} {H' : Hp} {s' : Shared}, Inv (blkx X u3 H3 scope ce fp xe) [] σ' H' s' → (∀ b ∈ fp, H' b = none) → ∀ b ∈ fp, FpOk (blkx X u3 H3 scope ce fp xe) [] H' b := fun {σ' H' s'} J' hn b hb =>
    ⟨hn b hb, (J'.ok.exf b hb).1, J'.ok.exfs b hb, .inl hb, fun x c e => (J'.ok.exf b hb).2 x c e, fun p hp => by cases hp⟩
  have loop : codeAny (model X.prog X.w) X.A (.compLoop (.ListComp elt [⟨tg, iter, ifs, 0⟩] scope pos) 0 (.ref it) (.ref D) ce) (compEnds (model X.prog X.w) X.A X.xe use Qf (.ref D) ce) u4 := by
    refine compLoop_any (fun n s' => ∃ i H', Inv (blkx X u3 H3 scope ce fp xe) [] (wipe σ (own.map (·.2))) H' s' ∧ tn i s'.heap ∧ (∀ b ∈ fp, H' b = none) ∧ W i n H') ?_ m0 ⟨0, H3, I4, st4, nfp, w0⟩
    intro n s5 ⟨i, H5, I5, st5, n5, w5⟩
    rw [← hxe]
    rcases turn i n H5 w5 with ⟨stop, qq⟩ | ⟨go, Nx, hNx, step⟩
    · refine thnF (T.done (blkx X u3 H3 scope ce fp xe) rfl rfl rfl hc i [] s5 _ H5 (fun _ _ => False) I5 (stat I5 n5) st5 stop) fun r s6 ⟨hr, I6⟩ => ?_
      cases hr
      obtain ⟨J1, J2, m, J3⟩ := back I6
      exact hRR D ce s6 m H5 J1 qq J3 J2
    · refine thnF (T.item (blkx X u3 H3 scope ce fp xe) rfl rfl rfl hc i [] s5 _ H5 (fun _ _ => False) I5 (stat I5 n5) st5 go) fun r s6 ⟨u, hr, h6⟩ => ?_
      cases hr
      refine thnF h6 fun _ s7 ⟨x, H7, I7, r7, y7, st7, n7⟩ => ?_
      have I7' := I7.pinned (stat I7 n7) (T.obj _ _ st7)
      refine thn (pg.run _ s7 _ H7 x u _ I7' r7 (step x H7 y7)) fun _ s8 ⟨σ8, H8, I8, hw8, q8⟩ => ?_
      refine thn (pt.run _ s8 σ8 H8 _ I8 q8) fun b s9 ⟨H9, I9, q9⟩ => ?_
      have fin : ∀ {s' : Shared} {H' : Hp}, Inv (blkx X u3 H3 scope ce fp xe) ([] ++ pinsAt fp s7.heap) σ8 H' s' → Nx H' → ∃ m, m < n ∧ ∃ i H', Inv (blkx X u3 H3 scope ce fp xe) [] (wipe σ (own.map (·.2))) H' s' ∧ tn i s'.heap ∧ (∀ b ∈ fp, H' b = none) ∧ W i m H' := fun {s' H'} J' nx => by
        obtain ⟨m', hm, w'⟩ := hNx H' nx
        have pin' : ∀ b ∈ fp, ∀ o, s7.heap.get? b = some o → s'.heap.get? b = some o ∧ H' b = none := fun b hb o e =>
          let z := J'.pin (b, o) (List.mem_append_right _ (List.mem_append_right _ (mem_pinsAt hb e)))
          ⟨z.1, z.2.1⟩
        have hl : (wipe σ (own.map (·.2))).length = σ8.length := by rw [← hw8, wipe_length]
        refine ⟨m', hm, i + 1, H', (J'.unpinned (pins := [])).weak hl (fun j v e => ?_), T.keep _ _ _ st7 fun b hb o e => (pin' b hb o e).1, fun b hb => ?_, w'⟩
        · rw [← hw8] at e
          exact (wipe_some e).1
        · obtain ⟨o, e, _⟩ := T.obj _ _ st7 b hb
          exact (pin' b hb o e).2
      cases b with
      | false =>
        simp only [Bool.false_eq_true, if_false] at q9 ⊢
        exact fin I9 q9
      | true =>
        simp only [if_true] at q9 ⊢
        refine thn (pe.run _ s9 σ8 H9 _ I9 q9) fun z s10 ⟨yv, H10, I10, r10, acc, hD10, hz10, nx⟩ => ?_
        exact app_ok (X := blkx X u3 H3 scope ce fp xe) I10 hD10 hz10 r10 fun s11 I11 => fin I11 nx
  exact codeAny_compStart_list loop (T.self X.A 0 _ _ _ st4 loop)
/-- y = [..], whose elements may raise -/
theorem ps_setLcx {i : Nat} {y : Str} {py : Pos} {E : XK} {elt tg iter : Expr} {ifs : List Expr} {scope : Scope} {own : List (Str × Nat)} {pos spos : Pos} {wi : TI} {g : TG} {tt : TT} {te : TE} (hc : X.calm = true) (hN : X.N.Nodup) (hst : X.stack = X.env :: X.outer) (hfr : X.env.frame = some X.env.locals) (tk : Takes X (fun cls d _ H => E cls d H)) (hy : X.N[i]? = some y) (hyl : X.env.scope.names.lookup y = some .local)
    (hsw : swapsWith (.ListComp elt [⟨tg, iter, ifs, 0⟩] scope pos) (some (.Name y py)) spos.line X.env = pure true) (hi : PI X tg iter wi) (ok : BlkOk X.N X.env.scope scope own)
    (hg : ∀ s H C cl fp xe, PG (blkx X s H scope (compEnvC scope cl C X.env) fp xe) tg g) (ht : ∀ s H C cl fp xe, PTs (blkx X s H scope (compEnvC scope cl C X.env) fp xe) ifs tt)
    (he : ∀ s H C cl fp xe, Passes (L2.CX X.prog X.w) (blkx X s H scope (compEnvC scope cl C X.env) fp xe) E → PE (blkx X s H scope (compEnvC scope cl C X.env) fp xe) elt te) (hs : ∀ x, foldedSetIterable iter X.env x = pure x := by intro _; rfl) :
    PS X (.Assign [.Name y py] (.ListComp elt [⟨tg, iter, ifs, 0⟩] scope pos) spos) (tAsg (tLc wi g tt te (own.map (·.2))) (gName i)) := by
  refine ⟨fun pins s σ H D I h => ?_⟩
  rw [exec_Assign_Name_used _ _ _ _ hsw]
  refine wpAny_bind (wpAny_standAt (wpAny_bind ?_))
  show wpAny _ X.A (comprehension (.ListComp elt [⟨tg, iter, ifs, 0⟩] scope pos) scope X.env (firstIterPos [⟨tg, iter, ifs, 0⟩] pos) (newList []) false (eval iter X.env) (some (assign (.Name y py) X.env)) >>= fun _ => pure ()) _ _ s
  have h : tLc wi g tt te (own.map (·.2)) σ H (fun x H1 => gName i x σ H1 D.nx) := h
  refine wpAny_bind (thn (lcx_core (Qf := fun _ s' => SP X pins D .next s') hc hN hst hfr tk I hi ok hg ht he hs h fun L ce s' m H' I' q hn f => ?_) fun _ s' hq => wpAny_pure (wpAny_pure hq))
  show wpAny _ _ (assign (.Name y py) X.env (.ref L)) _ _ _
  refine wpAny_assign_Name (store_ok2 (v := V.ref L) I' hN hy (.inl hyl) rfl (fun s2 I2 ⟨a, sb, ha⟩ => ?_) (.inr hyl))
  obtain ⟨f0, f1, f2, f3, f4, f5⟩ := f
  have haC : ce.locals ≠ a := ha.elim (fun z => by rw [z]; exact f1) fun z e => f4 y a z e.symm
  exact ⟨m, hn.sameBut sb haC, fun h3 sb3 => ⟨_, H', I2.turned (t' := s2.toks) (fun b o hb e => (sb3.2 b hb).trans e) f0 f1 f3 f4 f5, q⟩⟩
end

structure Mg (mg : Str → Option Value) : Prop where
  abs : mg "abs" = none
  all : mg "all" = none
  bool : mg "bool" = none
  enumerate : mg "enumerate" = none
  int : mg "int" = none
  isinstance : mg "isinstance" = none
  len : mg "len" = none
  list : mg "list" = none
  range : mg "range" = none
  str : mg "str" = none
  sum : mg "sum" = none
  tuple : mg "tuple" = none
/-! ### the law's draws: a list of the script's copy, a place in it, what is left of a great number, a seed -/
def Dr (H : Hp) (d c : Addr) : Prop := c ≠ d ∧ ∃ (ns : List Int) (pos rest seed : Int), H d = some (.lst [.ref c, .int pos, .int rest, .int seed]) ∧ H c = some (.lst (ns.map V.int)) ∧ 0 ≤ pos ∧ 0 ≤ rest ∧ 0 ≤ seed ∧ seed < 2147483647
theorem Dr.ext {H H' : Hp} {d c : Addr} (h : Dr H d c) (e : Same H H') : Dr H' d c := by
  obtain ⟨n, ns, pos, rest, seed, h1, h2, r⟩ := h
  exact ⟨n, ns, pos, rest, seed, e _ _ h1, e _ _ h2, r⟩
theorem Dr.upd {H : Hp} {d c p : Addr} {o : HO} (h : Dr H d c) (n1 : p ≠ d) (n2 : p ≠ c) : Dr (upd H p o) d c := by
  obtain ⟨n, ns, pos, rest, seed, h1, h2, r⟩ := h
  exact ⟨n, ns, pos, rest, seed, by rw [upd_ne n1.symm]; exact h1, by rw [upd_ne n2.symm]; exact h2, r⟩
theorem Dr.nd {H : Hp} {d c p : Addr} (h : Dr H d c) (n : H p = none) : p ≠ d := by
  obtain ⟨_, ns, pos, rest, seed, h1, _⟩ := h
  exact (ne_of_none h1 n).symm
theorem Dr.nc {H : Hp} {d c p : Addr} (h : Dr H d c) (n : H p = none) : p ≠ c := by
  obtain ⟨_, ns, pos, rest, seed, _, h2, _⟩ := h
  exact (ne_of_none h2 n).symm
theorem Dr.lst {H : Hp} {d c : Addr} (h : Dr H d c) : ∃ zs, H d = some (.lst zs) := by
  obtain ⟨_, ns, pos, rest, seed, h1, _⟩ := h
  exact ⟨_, h1⟩
theorem Dr.lift {H H' : Hp} {d c d' c' : Addr} (_h : Dr H d c) (h' : Dr H' d' c') : Dr H' d' c' := h'
def sp_draw (K : PySem.W.Frag) : Sp := fun vs H Q _ => ∃ (a : Addr) (ns : List Int), vs = [.ref a] ∧ SqL K H a (ns.map V.int) ∧ ∀ H' d c, Same H H' → H d = none → Dr H' d c → Q (.ref d) H'
/-- a draw: some number below many -/
def sp_next : Sp := fun vs H Q _ => ∃ (d c : Addr) (many : Int), vs = [.ref d, .int many] ∧ Dr H d c ∧ 1 ≤ many ∧ many < 2 ^ 64 ∧ ∀ H' r, Fd d H H' → (∀ p, p ≠ d → H' p = H p) → Dr H' d c → 0 ≤ r → r < many → Q (.int r) H'
section
variable {P : Program} {w : World} {K : PySem.W.Frag} {mg : Str → Option Value} {base : Heap}
theorem ok_draw {f : Addr} {fd : FuncData} (F : Fun K "_law_draw" "_law_draw" s__law_draw f fd) (M : Mg mg) : FnOk P w K mg base CX0 1 f fd ["script"] (sp_draw K) := by
  refine F.ok sc__law_draw (fun vs H Q E h => ?_) (fun cdv A outer s H vs Q E hr h => ?_)
  · obtain ⟨a, ns, rfl, _⟩ := h
    rfl
  · obtain ⟨a, ns, rfl, hS, q⟩ := h
    refine ⟨_, (pss_one (ps_ret (pe_lst (pa_cons (pe_callTy (listK K) (by rfl) M.list (by decide +kernel) (pa_cons (pv 0) pa_nil)) (pa_cons pe_int (pa_cons pe_int (pa_cons pe_int pa_nil))))))), ?_⟩
    refine ⟨_, rfl, a, _, rfl, .inl hS, fun c nc => ?_⟩
    refine ⟨by show 4 ≤ sizeLine; decide, fun d nd => ?_⟩
    have hc : (upd H c (.lst (ns.map V.int))) c = some (.lst (ns.map V.int)) := upd_same
    have ncd : c ≠ d := ne_of_none hc nd
    have s1 := (same_upd nc (o := .lst (ns.map V.int))).trans (same_upd nd (o := .lst [.ref c, .int 0, .int 0, .int 17]))
    refine q _ d c s1 ((same_upd nc).free nd) ⟨ncd, ns, 0, 0, 17, upd_same, ?_, by decide, by decide, by decide, by decide⟩
    rw [upd_ne ncd]
    exact hc
theorem next_aux {H : Hp} {d c : Addr} {xs' : List V} {pos rest seed : Int} {ns : List Int} (hn : c ≠ d) (h2 : H c = some (.lst (ns.map V.int))) (hx : xs' = [.ref c, .int pos, .int rest, .int seed]) (h0 : 0 ≤ pos) (h1 : 0 ≤ rest) (h3 : 0 ≤ seed) (h4 : seed < 2147483647) : Dr (upd H d (.lst xs')) d c := by
  subst hx
  refine ⟨hn, ns, pos, rest, seed, upd_same, ?_, h0, h1, h3, h4⟩
  rw [upd_ne hn]
  exact h2
theorem ok_next {f : Addr} {fd : FuncData} (F : Fun K "_law_next" "_law_next" s__law_next f fd) (M : Mg mg) : FnOk P w K mg base CX0 1 f fd ["draw", "many"] sp_next := by
  refine F.ok sc__law_next (fun vs H Q E h => ?_) (fun cdv A outer s H vs Q E hr h => ?_)
  · obtain ⟨d, c, many, rfl, _⟩ := h
    rfl
  · obtain ⟨d, c, many, rfl, ⟨ncd, ns, pos, rest, seed, h1, h2, h0, h3, h4, h5⟩, hm1, hm2, q⟩ := h
    have hdv : ∀ x : Int, CDivW x many := fun x => wide_div (b := 64) (by omega) (by omega) (by decide) (by decide)
    have hcd : d ≠ c := ncd.symm
    have L0 : SqL K H d [.ref c, .int pos, .int rest, .int seed] := .of h1
    have at0 : ∀ (a b e g : V), atI [a, b, e, g] (0 : Int) = some a := fun a b e g => atI_nat (j := 0) rfl
    have at1 : ∀ (a b e g : V), atI [a, b, e, g] (1 : Int) = some b := fun a b e g => atI_nat (j := 1) rfl
    have at2 : ∀ (a b e g : V), atI [a, b, e, g] (2 : Int) = some e := fun a b e g => atI_nat (j := 2) rfl
    have at3 : ∀ (a b e g : V), atI [a, b, e, g] (3 : Int) = some g := fun a b e g => atI_nat (j := 3) rfl
    have fr : ∀ (H0 : Hp) (o : HO), (∀ p, p ≠ d → H0 p = H p) → (∀ p, p ≠ d → (upd H0 d o) p = H p) := fun H0 o e p n => by rw [upd_ne n]; exact e p n
    have fF : ∀ (H0 : Hp), (∀ p, p ≠ d → H0 p = H p) → Fd d H H0 := fun H0 e b o n h => by rw [e b n]; exact h
    -- the last row's value
    have last : ∀ (seed' : Int), 0 ≤ seed' → seed' < 2147483647 → ∀ H0 : Hp, (∀ p, p ≠ d → H0 p = H p) → (∃ pos rest, H0 d = some (.lst [.ref c, .int pos, .int rest, .int seed']) ∧ 0 ≤ pos ∧ 0 ≤ rest) → Q (.int ((seed' * 69621 % 2147483629 / 7) % many)) H0 := by
      intro seed' g0 g1 H0 e ⟨pos', rest', g2, g3, g4⟩
      exact q H0 _ (fF _ e) e ⟨ncd, ns, pos', rest', seed', g2, by rw [e c ncd]; exact h2, g3, g4, g0, g1⟩ (Int.emod_nonneg _ (by omega)) (Int.emod_lt_of_pos _ (by omega))
    refine ⟨_, (pss_cons (ps_if (pt_cmpR op_gt (pe_ix (ix_listK K) (pv 0) pe_int (fun _ _ => rfl)) pe_int (nomark _)) (pss_cons (ps_set (i := 2) sc__law_next.nd rfl (.inl rfl) (pe_op op_mod (pe_callTy call_int1 (by rfl) M.int (by decide +kernel) (pa_cons (pe_ix (ix_listK K) (pv 0) pe_int (fun _ _ => rfl)) pa_nil)) (pv 1)))
      (pss_cons (ps_asg (pe_op op_fdivW (pe_ix (ix_listK K) (pv 0) pe_int (fun _ _ => rfl)) (pv 1)) (pg_sub (pv 0) pe_int set_list))
      (pss_one (ps_ret (pv 2))))) pss_nil)
      (pss_cons (ps_if (pt_cmpR op_lt (pe_ix (ix_listK K) (pv 0) pe_int (fun _ _ => rfl)) (pe_callB (len_seqK K) (by rfl) M.len PySem.boot_len (pa_cons (pe_ix (ix_listK K) (pv 0) pe_int (fun _ _ => rfl)) pa_nil)) (nomark _)) (pss_cons (ps_set (i := 3) sc__law_next.nd rfl (.inl rfl) (pe_callB call_abs (by rfl) M.abs (by decide +kernel) (pa_cons (pe_ix (ix_listK K) (pe_ix (ix_listK K) (pv 0) pe_int (fun _ _ => rfl)) (pe_ix (ix_listK K) (pv 0) pe_int (fun _ _ => rfl)) (fun _ _ => rfl)) pa_nil)))
      (pss_cons (ps_asg (pe_op op_add (pe_ix (ix_listK K) (pv 0) pe_int (fun _ _ => rfl)) pe_int) (pg_sub (pv 0) pe_int set_list))
      (pss_cons (ps_if (pt_cmpR op_ge (pv 3) (pe_op op_pow pe_int pe_int) (nomark _)) (pss_cons (ps_asg (pe_op op_fdivW (pv 3) (pv 1)) (pg_sub (pv 0) pe_int set_list))
      (pss_one (ps_ret (pe_op op_mod (pe_callTy call_int1 (by rfl) M.int (by decide +kernel) (pa_cons (pv 3) pa_nil)) (pv 1))))) pss_nil)
      (pss_one (ps_asg (pe_op op_mod (pe_callTy call_int1 (by rfl) M.int (by decide +kernel) (pa_cons (pe_op op_add (pe_op op_add (pe_op op_mul (pe_ix (ix_listK K) (pv 0) pe_int (fun _ _ => rfl)) pe_int) (pv 3)) pe_int) pa_nil)) pe_int) (pg_sub (pv 0) pe_int set_list)))))) (pss_one (ps_asg (pe_op op_mod (pe_callTy call_int1 (by rfl) M.int (by decide +kernel) (pa_cons (pe_op op_add (pe_op op_mul (pe_ix (ix_listK K) (pv 0) pe_int (fun _ _ => rfl)) pe_int) pe_int) pa_nil)) pe_int) (pg_sub (pv 0) pe_int set_list))))
      (pss_one (ps_ret (pe_op op_mod (pe_op op_fdivW (pe_callTy call_int1 (by rfl) M.int (by decide +kernel) (pa_cons (pe_op op_mod (pe_op op_mul (pe_ix (ix_listK K) (pv 0) pe_int (fun _ _ => rfl)) pe_int) pe_int) pa_nil)) pe_int) (pv 1)))))), ?_⟩
    refine ⟨_, rfl, d, _, 2, .int rest, rfl, rfl, L0, at2 .., ?_⟩
    refine ⟨_, _, rfl, rfl, _, rfl, ite2 (fun e => ?_) (fun e => ?_)⟩
    · -- draw[2] > 0
      have hr0 : 0 < rest := of_decide_eq_true e
      refine ⟨_, rfl, d, _, 2, .int rest, rfl, rfl, L0, at2 .., .inl ⟨_, rfl, ?_⟩⟩
      refine ⟨_, rfl, _, _, rfl, rfl, by omega, ?_⟩
      refine ⟨_, rfl, d, _, 2, .int rest, rfl, rfl, L0, at2 .., ?_⟩
      refine ⟨_, rfl, _, _, rfl, rfl, hdv _, ?_⟩
      refine ⟨_, rfl, d, _, 2, 2, rfl, rfl, h1, rfl, ?_⟩
      refine ⟨_, rfl, ?_⟩
      have e1 := fr H (.lst ([.ref c, .int pos, .int rest, .int seed].set 2 (.int (rest / many)))) (fun _ _ => rfl)
      exact q _ _ (fF _ e1) e1 (next_aux ncd h2 rfl h0 (Int.ediv_nonneg h3 (by omega)) h4 h5) (Int.emod_nonneg _ (by omega)) (Int.emod_lt_of_pos _ (by omega))
    · refine ⟨_, rfl, d, _, 1, .int pos, rfl, rfl, L0, at1 .., ?_⟩
      refine ⟨_, rfl, d, _, 0, .ref c, rfl, rfl, L0, at0 .., ?_⟩
      refine ⟨c, _, rfl, .inl (.of h2), ?_⟩
      refine ⟨_, _, rfl, rfl, _, rfl, ite2 (fun e2 => ?_) (fun e2 => ?_)⟩
      · have hp : pos < ((ns.map V.int).length : Int) := of_decide_eq_true e2
        rw [List.length_map] at hp
        obtain ⟨i, rfl⟩ := Int.eq_ofNat_of_zero_le h0
        have hi : i < ns.length := by omega
        have hat : atI (ns.map V.int) ((i : Nat) : Int) = some (.int ns[i]) := atI_nat (by rw [List.getElem?_map, List.getElem?_eq_getElem hi]; rfl)
        -- cell = abs(..)
        refine ⟨_, rfl, d, _, 0, .ref c, rfl, rfl, L0, at0 .., ?_⟩
        refine ⟨_, rfl, d, _, 1, _, rfl, rfl, L0, at1 .., ?_⟩
        refine ⟨c, _, _, _, rfl, rfl, .of h2, hat, ?_⟩
        refine ⟨_, rfl, ?_⟩
        have hcell : (0 : Int) ≤ (if ns[i] < 0 then -ns[i] else ns[i]) := by split <;> omega
        generalize (if ns[i] < 0 then -ns[i] else ns[i]) = cell at hcell
        -- draw[1] = draw[1] + 1
        refine ⟨_, rfl, d, _, 1, _, rfl, rfl, L0, at1 .., ?_⟩
        refine ⟨_, _, rfl, rfl, ?_⟩
        refine ⟨_, rfl, d, _, 1, 1, rfl, rfl, h1, rfl, ?_⟩
        have hd1 : (upd H d (.lst ([.ref c, .int ((i : Nat) : Int), .int rest, .int seed].set 1 (.int ((i : Nat) + 1))))) d = some (.lst [.ref c, .int ((i : Nat) + 1), .int rest, .int seed]) := upd_same
        have e1 := fr H (.lst ([.ref c, .int ((i : Nat) : Int), .int rest, .int seed].set 1 (.int ((i : Nat) + 1)))) (fun _ _ => rfl)
        generalize upd H d (.lst ([.ref c, .int ((i : Nat) : Int), .int rest, .int seed].set 1 (.int ((i : Nat) + 1)))) = H1 at hd1 e1
        have h2' : H1 c = some (.lst (ns.map V.int)) := by rw [e1 c ncd]; exact h2
        -- cell >= 10 ** 18
        refine ⟨_, rfl, _, _, rfl, rfl, ⟨by decide, by decide, by decide⟩, ?_⟩
        refine ⟨_, _, rfl, rfl, _, rfl, ite2 (fun e3 => ?_) (fun e3 => ?_)⟩
        · refine ⟨_, rfl, _, rfl, _, _, rfl, rfl, hdv _, ?_⟩
          refine ⟨_, rfl, d, _, 2, 2, rfl, rfl, hd1, rfl, ?_⟩
          refine ⟨_, rfl, .inl ⟨_, rfl, ?_⟩⟩
          refine ⟨_, rfl, _, _, rfl, rfl, by omega, ?_⟩
          have e5 := fr H1 (.lst ([.ref c, .int ((i : Nat) + 1), .int rest, .int seed].set 2 (.int (cell / many)))) e1
          exact q _ _ (fF _ e5) e5 (next_aux ncd h2' rfl (by omega) (Int.ediv_nonneg hcell (by omega)) h4 h5) (Int.emod_nonneg _ (by omega)) (Int.emod_lt_of_pos _ (by omega))
        · -- draw[3] = ..
          refine ⟨_, rfl, d, _, 3, .int seed, rfl, rfl, .of hd1, at3 .., ?_⟩
          refine ⟨_, _, rfl, rfl, .inl ⟨by omega, by omega⟩, ?_⟩
          refine ⟨_, rfl, _, _, rfl, rfl, ?_⟩
          refine ⟨_, _, rfl, rfl, .inl ⟨_, rfl, ?_⟩⟩
          refine ⟨_, _, rfl, rfl, by show (0 : Int) < 2147483647; decide, ?_⟩
          refine ⟨_, rfl, d, _, 3, 3, rfl, rfl, hd1, rfl, ?_⟩
          have hs0 : 0 ≤ (seed * 48271 + cell + 11) % 2147483647 := Int.emod_nonneg _ (by decide)
          have hs1 : (seed * 48271 + cell + 11) % 2147483647 < 2147483647 := Int.emod_lt_of_pos _ (by decide)
          have e5 := fr H1 (.lst ([.ref c, .int ((i : Nat) + 1), .int rest, .int seed].set 3 (.int ((seed * 48271 + cell + 11) % 2147483647)))) e1
          have hd5 : (upd H1 d (.lst ([.ref c, .int ((i : Nat) + 1), .int rest, .int seed].set 3 (.int ((seed * 48271 + cell + 11) % 2147483647))))) d = some (.lst [.ref c, .int ((i : Nat) + 1), .int rest, .int ((seed * 48271 + cell + 11) % 2147483647)]) := upd_same
          dsimp only
          generalize (seed * 48271 + cell + 11) % 2147483647 = seed' at hs0 hs1 e5 hd5 ⊢
          refine ⟨_, rfl, d, _, 3, .int seed', rfl, rfl, .of hd5, at3 .., ?_⟩
          refine ⟨_, _, rfl, rfl, .inl ⟨by omega, by omega⟩, ?_⟩
          refine ⟨_, _, rfl, rfl, by show (0 : Int) < 2147483629; decide, .inl ⟨_, rfl, ?_⟩⟩
          refine ⟨_, _, rfl, rfl, ⟨by decide, by decide⟩, ?_⟩
          refine ⟨_, rfl, _, _, rfl, rfl, by omega, ?_⟩
          exact last seed' hs0 hs1 _ e5 ⟨_, _, hd5, by omega, h3⟩
      · -- draw[3] = ..
        refine ⟨_, rfl, d, _, 3, .int seed, rfl, rfl, L0, at3 .., ?_⟩
        refine ⟨_, _, rfl, rfl, .inl ⟨by omega, by omega⟩, ?_⟩
        refine ⟨_, _, rfl, rfl, .inl ⟨_, rfl, ?_⟩⟩
        refine ⟨_, _, rfl, rfl, by show (0 : Int) < 2147483647; decide, ?_⟩
        refine ⟨_, rfl, d, _, 3, 3, rfl, rfl, h1, rfl, ?_⟩
        have hs0 : 0 ≤ (seed * 48271 + 12345) % 2147483647 := Int.emod_nonneg _ (by decide)
        have hs1 : (seed * 48271 + 12345) % 2147483647 < 2147483647 := Int.emod_lt_of_pos _ (by decide)
        have e5 := fr H (.lst ([.ref c, .int pos, .int rest, .int seed].set 3 (.int ((seed * 48271 + 12345) % 2147483647)))) (fun _ _ => rfl)
        have hd5 : (upd H d (.lst ([.ref c, .int pos, .int rest, .int seed].set 3 (.int ((seed * 48271 + 12345) % 2147483647))))) d = some (.lst [.ref c, .int pos, .int rest, .int ((seed * 48271 + 12345) % 2147483647)]) := upd_same
        dsimp only
        generalize (seed * 48271 + 12345) % 2147483647 = seed' at hs0 hs1 e5 hd5 ⊢
        refine ⟨_, rfl, d, _, 3, .int seed', rfl, rfl, .of hd5, at3 .., ?_⟩
        refine ⟨_, _, rfl, rfl, .inl ⟨by omega, by omega⟩, ?_⟩
        refine ⟨_, _, rfl, rfl, by show (0 : Int) < 2147483629; decide, .inl ⟨_, rfl, ?_⟩⟩
        refine ⟨_, _, rfl, rfl, ⟨by decide, by decide⟩, ?_⟩
        refine ⟨_, rfl, _, _, rfl, rfl, by omega, ?_⟩
        exact last seed' hs0 hs1 _ e5 ⟨_, _, hd5, h0, h3⟩
end

/-! ### data in the heap -/
theorem SqT.ext {K : PySem.W.Frag} {H H' : Hp} {a : Addr} {xs : List V} (e : Same H H') (h : SqT K H a xs) : SqT K H' a xs := by
  rcases h with (h | ⟨o, h⟩) | h
  · exact .inl (.inl (e _ _ h))
  · exact .inl (.inr ⟨o, e _ _ h⟩)
  · exact .inr h
mutual
theorem Dp.ext {K : PySem.W.Frag} {H H' : Hp} (e : Same H H') : ∀ (d : PyData) (v : V), Dp K H v d → Dp K H' v d
  | .none, _, h => by cases h; exact .non
  | .bool b, _, h => by cases h; exact .bl b
  | .int i, _, h => by cases h; exact .int i
  | .str x, _, h => by cases h; exact .str x
  | .list ds, _, h => by
    cases h with
    | lst hs ha => exact .lst (e.seq hs) (DpAll.ext e ds _ ha)
  | .tuple ds, _, h => by
    cases h with
    | tup hs ha => exact .tup (SqT.ext e hs) (DpAll.ext e ds _ ha)
  | .dict _, _, h => by cases h
theorem DpAll.ext {K : PySem.W.Frag} {H H' : Hp} (e : Same H H') : ∀ (ds : List PyData) (vs : List V), DpAll K H vs ds → DpAll K H' vs ds
  | [], _, h => by cases h; exact .nil
  | d :: ds, _, h => by
    cases h with
    | cons h1 h2 => exact .cons (Dp.ext e d _ h1) (DpAll.ext e ds _ h2)
end
theorem DpAll.len {K : PySem.W.Frag} {H : Hp} : ∀ {ds : List PyData} {vs : List V}, DpAll K H vs ds → vs.length = ds.length
  | [], _, h => by cases h; rfl
  | d :: ds, _, h => by
    cases h with
    | cons h1 h2 => exact congrArg (· + 1) (DpAll.len h2)
theorem DpAll.get {K : PySem.W.Frag} {H : Hp} : ∀ {ds : List PyData} {vs : List V} {i : Nat} {d : PyData}, DpAll K H vs ds → ds[i]? = some d → ∃ v, vs[i]? = some v ∧ Dp K H v d
  | [], _, _, _, _, e => by simp at e
  | x :: ds, _, 0, d, h, e => by
    cases h with
    | cons h1 h2 =>
      have e1 : x = d := Option.some.inj e
      subst e1
      exact ⟨_, rfl, h1⟩
  | x :: ds, _, i + 1, d, h, e => by
    cases h with
    | cons h1 h2 =>
      obtain ⟨v, hv, hd⟩ := DpAll.get (i := i) h2 (by simpa using e)
      exact ⟨v, by simpa using hv, hd⟩
theorem tyL {K : PySem.W.Frag} {H : Hp} {a : Addr} {xs : List V} (h : SqL K H a xs) : TyX K H (.ref a) (.type "list") := by
  rcases h with (h | ⟨o, h⟩) | ⟨o, its, n, h, c, _⟩
  · exact .base (.lst h)
  · exact .base (.frz h)
  · exact .kList h c
theorem tyT {K : PySem.W.Frag} {H : Hp} {a : Addr} {xs : List V} (h : SqT K H a xs) : TyX K H (.ref a) (.type "tuple") := by
  rcases h with (h | ⟨o, h⟩) | ⟨o, its, n, h, c, _⟩
  · exact .base (.tup h)
  · exact .fTuple h
  · exact .kTuple h c
mutual
/-- no list within -/
def tupOnly : PyData → Bool
  | .list _ => false
  | .dict _ => false
  | .tuple ds => tupOnlys ds
  | _ => true
def tupOnlys : List PyData → Bool
  | [] => true
  | d :: ds => tupOnly d && tupOnlys ds
end
mutual
theorem Dp.away {K : PySem.W.Frag} {H : Hp} {D : Addr} {zs : List V} {o : HO} (hD : H D = some (.lst zs)) : ∀ (d : PyData) (v : V), tupOnly d = true → Dp K H v d → Dp K (upd H D o) v d
  | .none, _, _, h => by cases h; exact .non
  | .bool b, _, _, h => by cases h; exact .bl b
  | .int i, _, _, h => by cases h; exact .int i
  | .str x, _, _, h => by cases h; exact .str x
  | .list ds, _, e, _ => by unfold tupOnly at e; cases e
  | .tuple ds, _, e, h => by
    unfold tupOnly at e
    cases h with
    | @tup a _ _ hs ha =>
      refine .tup ?_ (DpAll.away hD ds _ e ha)
      rcases hs with (hs | ⟨o', hs⟩) | hs
      · exact .inl (.inl (by rw [upd_ne (ne_of hs hD (fun z => nomatch z))]; exact hs))
      · exact .inl (.inr ⟨o', by rw [upd_ne (ne_of hs hD (fun z => nomatch z))]; exact hs⟩)
      · exact .inr hs
  | .dict _, _, _, h => by cases h
theorem DpAll.away {K : PySem.W.Frag} {H : Hp} {D : Addr} {zs : List V} {o : HO} (hD : H D = some (.lst zs)) : ∀ (ds : List PyData) (vs : List V), tupOnlys ds = true → DpAll K H vs ds → DpAll K (upd H D o) vs ds
  | [], _, _, h => by cases h; exact .nil
  | d :: ds, _, e, h => by
    unfold tupOnlys at e
    rw [Bool.and_eq_true] at e
    cases h with
    | cons h1 h2 => exact .cons (Dp.away hD d _ e.1 h1) (DpAll.away hD ds _ e.2 h2)
end
theorem DpAll.snoc {K : PySem.W.Frag} {H : Hp} : ∀ {ds : List PyData} {xs : List V} {v : V} {d : PyData}, DpAll K H xs ds → Dp K H v d → DpAll K H (xs ++ [v]) (ds ++ [d])
  | [], _, _, _, h, h2 => by cases h; exact .cons h2 .nil
  | _ :: ds, _, _, _, h, h2 => by
    cases h with
    | cons a b => exact .cons a (DpAll.snoc b h2)
theorem at_0 {α : Type} {xs : List α} {i : Nat} {v : α} (h : xs[i]? = some v) : atI xs (0 + (i : Int)) = some v := by
  rw [Int.zero_add]
  exact atI_nat h
mutual
/-- what is made of tuples stands when another list is changed -/
theorem Dp.fd {K : PySem.W.Frag} {H H' : Hp} {D : Addr} (hD : ∃ zs, H D = some (.lst zs)) (e : Fd D H H') : ∀ (d : PyData) (v : V), tupOnly d = true → Dp K H v d → Dp K H' v d
  | .none, _, _, h => by cases h; exact .non
  | .bool b, _, _, h => by cases h; exact .bl b
  | .int i, _, _, h => by cases h; exact .int i
  | .str x, _, _, h => by cases h; exact .str x
  | .list ds, _, e, _ => by unfold tupOnly at e; cases e
  | .tuple ds, _, e', h => by
    unfold tupOnly at e'
    obtain ⟨zs, hz⟩ := hD
    cases h with
    | @tup a _ _ hs ha =>
      refine .tup ?_ (DpAll.fd ⟨zs, hz⟩ e ds _ e' ha)
      rcases hs with (hs | ⟨o', hs⟩) | hs
      · exact .inl (.inl (e _ _ (ne_of hs hz (fun z => nomatch z)) hs))
      · exact .inl (.inr ⟨o', e _ _ (ne_of hs hz (fun z => nomatch z)) hs⟩)
      · exact .inr hs
  | .dict _, _, _, h => by cases h
theorem DpAll.fd {K : PySem.W.Frag} {H H' : Hp} {D : Addr} (hD : ∃ zs, H D = some (.lst zs)) (e : Fd D H H') : ∀ (ds : List PyData) (vs : List V), tupOnlys ds = true → DpAll K H vs ds → DpAll K H' vs ds
  | [], _, _, h => by cases h; exact .nil
  | d :: ds, _, e', h => by
    unfold tupOnlys at e'
    rw [Bool.and_eq_true] at e'
    cases h with
    | cons h1 h2 => exact .cons (Dp.fd hD e d _ e'.1 h1) (DpAll.fd hD e ds _ e'.2 h2)
end

/-! ### two data that are the same -/
/-- data of some depth, their lists not too long -/
inductive Sh : Nat → PyData → Prop
  | non {n : Nat} : Sh n .none
  | bl {n : Nat} (b : Bool) : Sh n (.bool b)
  | int {n : Nat} (i : Int) : Sh n (.int i)
  | str {n : Nat} (x : Str) : Sh n (.str x)
  | lst {n : Nat} {ds : List PyData} (l : ds.length ≤ 100000) (h : ∀ d ∈ ds, Sh n d) : Sh (n + 1) (.list ds)
  | tup {n : Nat} {ds : List PyData} (l : ds.length ≤ 100000) (h : ∀ d ∈ ds, Sh n d) : Sh (n + 1) (.tuple ds)
def tnm : PyData → String
  | .none => "NoneType"
  | .bool _ => "bool"
  | .int _ => "int"
  | .str _ => "str"
  | .list _ => "list"
  | .tuple _ => "tuple"
  | .dict _ => "dict"
theorem tyD {K : PySem.W.Frag} {H : Hp} {v : V} {d : PyData} (h : Dp K H v d) : TyX K H v (.type (tnm d)) := by
  cases h with
  | non => exact .base .non
  | bl b => exact .base (.bl b)
  | int i => exact .base (.int i)
  | str x => exact .base (.str x)
  | lst hs _ => exact tyL hs
  | tup hs _ => exact tyT hs
theorem k_any2 {K : PySem.W.Frag} {tn c1 c2 : String} {r1 r2 : Bool} (h1 : kitB tn c1 = some r1) (h2 : kitB tn c2 = some r2) : PySem.W.kitAny K (.type tn) [.type c1, .type c2] = some (r1 || r2) :=
  kitAny_cons (kit_ty h1) (fun e => by
    rw [e, Bool.false_or]
    exact kitAny_cons (b := r2) (kit_ty h2) (fun e2 => by rw [e2]; exact kitAny_nil) (fun e2 => e2)) (fun e => by rw [e, Bool.true_or])
theorem rep_bl (n : Nat) : (List.replicate n true).all id = true := by
  rw [List.all_replicate]
  simp
def sp_same (K : PySem.W.Frag) (n : Nat) : Sp := fun vs H Q _ => ∃ (x y : V) (D : PyData) (m : Nat), n = m + 1 ∧ vs = [x, y] ∧ Sh m D ∧ Dp K H x D ∧ Dp K H y D ∧ ∀ H', Same H H' → Q (.bl true) H'
section
variable {P : Program} {w : World} {K : PySem.W.Frag} {mg : Str → Option Value} {base : Heap}
theorem ok_same {f : Addr} {fd : FuncData} {n l : Nat} (F : Fun K "_law_same" "_law_same" s__law_same f fd) (M : Mg mg) (c__law_same : Cl P w K mg base l "_law_same" (sp_same K n)) : FnOk P w K mg base CX0 (l + 1) f fd ["actual", "due"] (sp_same K (n + 1)) := by
  refine F.ok sc__law_same (fun vs H Q E h => ?_) (fun cdv A outer s H vs Q E hr h => ?_)
  · obtain ⟨x, y, D, m, _, rfl, _⟩ := h
    rfl
  · obtain ⟨x, y, D, m, em, rfl, sh, hx, hy, q⟩ := h
    refine ⟨_, (pss_cons (ps_if (pt_val (pe_callB (isiTK K) (by rfl) M.isinstance (by decide +kernel) (pa_cons (pv 1) (pa_cons (pe_tup (pa_cons (pe_bltn (v := .ty "list") (by rfl) M.list (by decide +kernel) rfl) (pa_cons (pe_bltn (v := .ty "tuple") (by rfl) M.tuple (by decide +kernel) rfl) pa_nil))) pa_nil)))) (pss_cons (ps_if (PW.pt (pw_or (pt_cmpR op_ne (pe_callB (isiK K) (by rfl) M.isinstance (by decide +kernel) (pa_cons (pv 1) (pa_cons (pe_bltn (v := .ty "list") (by rfl) M.list (by decide +kernel) rfl) pa_nil))) (pe_callB (isiK K) (by rfl) M.isinstance (by decide +kernel) (pa_cons (pv 0) (pa_cons (pe_bltn (v := .ty "list") (by rfl) M.list (by decide +kernel) rfl) pa_nil))) (nomark _)) (pw_or1 (pt_cmpR op_ne (pe_callB (isiK K) (by rfl) M.isinstance (by decide +kernel) (pa_cons (pv 1) (pa_cons (pe_bltn (v := .ty "tuple") (by rfl) M.tuple (by decide +kernel) rfl) pa_nil))) (pe_callB (isiK K) (by rfl) M.isinstance (by decide +kernel) (pa_cons (pv 0) (pa_cons (pe_bltn (v := .ty "tuple") (by rfl) M.tuple (by decide +kernel) rfl) pa_nil))) (nomark _))))) (pss_one (ps_ret pe_bl)) pss_nil)
      (pss_cons (ps_if (pt_cmpR op_ne (pe_callB (len_seqK K) (by rfl) M.len PySem.boot_len (pa_cons (pv 0) pa_nil)) (pe_callB (len_seqK K) (by rfl) M.len PySem.boot_len (pa_cons (pv 1) pa_nil)) (nomark _)) (pss_one (ps_ret pe_bl)) pss_nil)
      (pss_one (ps_ret (pe_callB (allK K rfl) (by rfl) M.all (by decide +kernel) (pa_cons (pe_lc (own := [("k", 2)]) (g := gName 2) (tt := tYes) rfl sc__law_same.nd (pi_range1 (by rfl) M.range (pa_cons (pe_callB (len_seqK K) (by rfl) M.len PySem.boot_len (pa_cons (pv 1) pa_nil)) pa_nil)) (blkOk_by (N := N__law_same) (sc := defScope s__law_same) (by decide +kernel)) (fun _ _ _ _ _ => (pg_name (i := 2) sc__law_same.nd rfl (.inl rfl))) (fun _ _ _ _ _ => pts_nil) (fun _ _ _ _ _ => (pe_u c__law_same hr (by first | decide | omega) (by rfl) (pa_cons (pe_ix (ix_seqK K) (pv 0) (pv 2) (fun _ _ => rfl)) (pa_cons (pe_ix (ix_seqK K) (pv 1) (pv 2) (fun _ _ => rfl)) pa_nil))))) pa_nil)))))) pss_nil)
      (pss_cons (ps_if (pt_cmpR op_isN (pv 1) pe_non (nomark _)) (pss_one (ps_ret (pe_cmpR op_isN (pv 0) pe_non (nomark _)))) pss_nil)
      (pss_cons (ps_if (pt_cmpR op_ne (pe_callB (isiK K) (by rfl) M.isinstance (by decide +kernel) (pa_cons (pv 1) (pa_cons (pe_bltn (v := .ty "bool") (by rfl) M.bool (by decide +kernel) rfl) pa_nil))) (pe_callB (isiK K) (by rfl) M.isinstance (by decide +kernel) (pa_cons (pv 0) (pa_cons (pe_bltn (v := .ty "bool") (by rfl) M.bool (by decide +kernel) rfl) pa_nil))) (nomark _)) (pss_one (ps_ret pe_bl)) pss_nil)
      (pss_cons (ps_if (pt_val (pe_callB (isiK K) (by rfl) M.isinstance (by decide +kernel) (pa_cons (pv 1) (pa_cons (pe_bltn (v := .ty "str") (by rfl) M.str (by decide +kernel) rfl) pa_nil)))) (pss_one (ps_ret (pe_and (pe_callB (isiK K) (by rfl) M.isinstance (by decide +kernel) (pa_cons (pv 0) (pa_cons (pe_bltn (v := .ty "str") (by rfl) M.str (by decide +kernel) rfl) pa_nil))) (pe_one (pe_cmpR op_eq (pv 0) (pv 1) (nomark _)))))) pss_nil)
      (pss_one (ps_ret (pe_and (pe_callB (isiK K) (by rfl) M.isinstance (by decide +kernel) (pa_cons (pv 0) (pa_cons (pe_bltn (v := .ty "int") (by rfl) M.int (by decide +kernel) rfl) pa_nil))) (pe_one (pe_cmpR op_eq (pv 0) (pv 1) (nomark _)))))))))), ?_⟩
    refine ⟨_, rfl, by show 2 ≤ sizeLine; decide, fun p np => ?_⟩
    have s1 : Same H (upd H p (.tup [.ty "list", .ty "tuple"])) := same_upd np
    have h1 : (upd H p (.tup [.ty "list", .ty "tuple"])) p = some (.tup [.ty "list", .ty "tuple"]) := upd_same
    generalize upd H p (.tup [.ty "list", .ty "tuple"]) = H1 at s1 h1
    have hx1 := Dp.ext s1 D x hx
    have hy1 := Dp.ext s1 D y hy
    have key : (∃ (a b : Addr) (xs ys : List V) (ds : List PyData) (k : Nat) (tn : String) (r1 r2 : Bool), x = .ref a ∧ y = .ref b ∧ (SqL K H1 a xs ∧ SqL K H1 b ys ∨ SqT K H1 a xs ∧ SqT K H1 b ys) ∧ DpAll K H1 xs ds ∧ DpAll K H1 ys ds ∧ ds.length ≤ 100000 ∧ m = k + 1 ∧ (∀ d ∈ ds, Sh k d) ∧
        TyX K H1 x (.type tn) ∧ TyX K H1 y (.type tn) ∧ kitB tn "list" = some r1 ∧ kitB tn "tuple" = some r2 ∧ (r1 || r2) = true) ∨
        (∃ (tn : String), TyX K H1 x (.type tn) ∧ TyX K H1 y (.type tn) ∧ kitB tn "list" = some false ∧ kitB tn "tuple" = some false ∧ (x = .non ∧ y = .non ∨ (∃ b, x = .bl b ∧ y = .bl b ∧ tn = "bool") ∨ (∃ i, x = .int i ∧ y = .int i ∧ tn = "int") ∨ (∃ z, x = .str z ∧ y = .str z ∧ tn = "str"))) := by
      cases sh with
      | non => cases hx1; cases hy1; exact .inr ⟨"NoneType", .base .non, .base .non, by decide +kernel, by decide +kernel, .inl ⟨rfl, rfl⟩⟩
      | bl b => cases hx1; cases hy1; exact .inr ⟨"bool", .base (.bl b), .base (.bl b), by decide +kernel, by decide +kernel, .inr (.inl ⟨b, rfl, rfl, rfl⟩)⟩
      | int i => cases hx1; cases hy1; exact .inr ⟨"int", .base (.int i), .base (.int i), by decide +kernel, by decide +kernel, .inr (.inr (.inl ⟨i, rfl, rfl, rfl⟩))⟩
      | str z => cases hx1; cases hy1; exact .inr ⟨"str", .base (.str z), .base (.str z), by decide +kernel, by decide +kernel, .inr (.inr (.inr ⟨z, rfl, rfl, rfl⟩))⟩
      | lst l h =>
        cases hx1 with
        | lst hs ha =>
          cases hy1 with
          | lst hs' ha' => exact .inl ⟨_, _, _, _, _, _, "list", true, false, rfl, rfl, .inl ⟨hs, hs'⟩, ha, ha', l, rfl, h, tyL hs, tyL hs', by decide +kernel, by decide +kernel, rfl⟩
      | tup l h =>
        cases hx1 with
        | tup hs ha =>
          cases hy1 with
          | tup hs' ha' => exact .inl ⟨_, _, _, _, _, _, "tuple", false, true, rfl, rfl, .inr ⟨hs, hs'⟩, ha, ha', l, rfl, h, tyT hs, tyT hs', by decide +kernel, by decide +kernel, rfl⟩
    rcases key with ⟨a, b, xs, ys, ds, k, tn, r1, r2, rfl, rfl, hq, ha, hb, hl, ek, hk, tx, ty, k1, k2, kr⟩ | ⟨tn, tx, ty, k1, k2, hs⟩
    · -- a list or a tuple
      have ex := DpAll.len ha
      have ey := DpAll.len hb
      have hqa : SqL K H1 a xs ∨ SqT K H1 a xs := hq.elim (fun z => .inl z.1) (fun z => .inr z.1)
      have hqb : SqL K H1 b ys ∨ SqT K H1 b ys := hq.elim (fun z => .inl z.2) (fun z => .inr z.2)
      refine ⟨_, _, _, _, _, _, rfl, h1, .cons (.ty _) (.cons (.ty _) .nil), ty, k_any2 k1 k2, ?_⟩
      refine ⟨_, rfl, ?_⟩
      rw [kr]
      refine iteT ?_
      -- the kinds
      refine ⟨_, rfl, ⟨_, _, _, _, _, rfl, .ty _, ty, kit_ty k1, _, rfl, ⟨_, _, _, _, _, rfl, .ty _, tx, kit_ty k1, rfl, _, rfl, ?_⟩⟩⟩
      rw [decide_eq_true (rfl : V.bl r1 = V.bl r1)]
      refine iteF ?_
      refine ⟨_, rfl, ⟨_, _, _, _, _, rfl, .ty _, ty, kit_ty k2, _, rfl, ⟨_, _, _, _, _, rfl, .ty _, tx, kit_ty k2, rfl, _, rfl, ?_⟩⟩⟩
      rw [decide_eq_true (rfl : V.bl r2 = V.bl r2)]
      refine iteF ?_
      -- the lengths
      refine ⟨_, rfl, a, xs, rfl, hqa, ⟨_, rfl, b, ys, rfl, hqb, rfl, _, rfl, ?_⟩⟩
      rw [ex, ey, decide_eq_true (rfl : V.int (ds.length : Int) = V.int (ds.length : Int))]
      refine iteF ?_
      -- by places
      refine ⟨_, rfl, b, ys, rfl, hqb, _, rfl, by omega, by omega, fun D nD => ?_⟩
      rw [ey]
      refine lc_range (lo := 0) (n := ((ds.length : Nat) : Int).toNat) (fun i Hi => Same H1 Hi ∧ Hi D = some (.lst ((List.replicate i true).map V.bl))) ⟨same_upd nD, upd_same⟩ (fun i Hi hi hp => ?_) (fun Hn hp => ?_)
      · obtain ⟨si, eD⟩ := hp
        have hi2 : i < ds.length := by omega
        obtain ⟨va, hva, da⟩ := DpAll.get (DpAll.ext si ds xs ha) (List.getElem?_eq_getElem hi2)
        obtain ⟨vb, hvb, db⟩ := DpAll.get (DpAll.ext si ds ys hb) (List.getElem?_eq_getElem hi2)
        have ia : rIx K (.ref a) (.int (0 + (i : Int))) Hi = rIx K (.ref a) (.int (0 + (i : Int))) Hi := rfl
        refine ⟨rfl, ?_⟩
        have go : ∀ (c : Addr) (zs : List V) (v : V) (Q : VK), (SqL K H1 c zs ∨ SqT K H1 c zs) → zs[i]? = some v → Q v Hi → rIx K (.ref c) (.int (0 + (i : Int))) Hi Q := fun c zs v Q hz hv hQ => by
          rcases hz with hz | hz
          · exact .inl ⟨c, zs, _, v, rfl, rfl, si.seq hz, at_0 hv, hQ⟩
          · exact .inr (.inl ⟨c, zs, _, v, rfl, rfl, SqT.ext si hz, at_0 hv, hQ⟩)
        refine ⟨_, rfl, _, rfl, go a xs va _ hqa hva ⟨_, rfl, _, rfl, go b ys vb _ hqb hvb ?_⟩⟩
        refine ⟨va, vb, ds[i], k, by omega, rfl, hk _ (List.getElem_mem hi2), da, db, fun H' s' => ?_⟩
        refine ⟨_, s' _ _ eD, ?_, fun b o e => ?_, ?_⟩
        · rw [List.length_map, List.length_replicate]
          exact Nat.lt_of_lt_of_le (m := 100000) (by omega) (by decide)
        · have nb : b ≠ D := ne_of_none e nD
          rw [upd_ne nb]
          exact s' _ _ (si _ _ e)
        · rw [upd_same, List.replicate_succ', List.map_append]
          rfl
      · obtain ⟨si, eD⟩ := hp
        refine ⟨D, _, rfl, .of eD, ?_⟩
        rw [rep_bl]
        exact q _ (s1.trans si)
    · -- neither
      refine ⟨_, _, _, _, _, _, rfl, h1, .cons (.ty _) (.cons (.ty _) .nil), ty, k_any2 k1 k2, ?_⟩
      refine ⟨_, rfl, iteF ?_⟩
      rcases hs with ⟨rfl, rfl⟩ | ⟨b, rfl, rfl, rfl⟩ | ⟨i, rfl, rfl, rfl⟩ | ⟨z, rfl, rfl, rfl⟩
      · -- None
        refine ⟨_, rfl, rfl, _, rfl, iteT ?_⟩
        refine ⟨_, rfl, rfl, ?_⟩
        exact q _ s1
      · refine ⟨_, rfl, rfl, _, rfl, iteF ?_⟩
        refine ⟨_, rfl, ⟨_, _, _, _, _, rfl, .ty _, ty, kit_ty (show kitB _ _ = some true by decide +kernel), _, rfl, ⟨_, _, _, _, _, rfl, .ty _, tx, kit_ty (show kitB _ _ = some true by decide +kernel), rfl, _, rfl, iteF ?_⟩⟩⟩
        refine ⟨_, rfl, ⟨_, _, _, _, _, rfl, .ty _, ty, kit_ty (show kitB _ _ = some false by decide +kernel), _, rfl, iteF ?_⟩⟩
        refine ⟨_, rfl, ⟨_, _, _, _, _, rfl, .ty _, tx, kit_ty (show kitB _ _ = some true by decide +kernel), _, rfl, iteT ?_⟩⟩
        refine ⟨_, rfl, _, rfl, by cases b <;> rfl, ?_⟩
        rw [decide_eq_true (rfl : V.bl b = V.bl b)]
        exact q _ s1
      · refine ⟨_, rfl, rfl, _, rfl, iteF ?_⟩
        refine ⟨_, rfl, ⟨_, _, _, _, _, rfl, .ty _, ty, kit_ty (show kitB _ _ = some false by decide +kernel), _, rfl, ⟨_, _, _, _, _, rfl, .ty _, tx, kit_ty (show kitB _ _ = some false by decide +kernel), rfl, _, rfl, iteF ?_⟩⟩⟩
        refine ⟨_, rfl, ⟨_, _, _, _, _, rfl, .ty _, ty, kit_ty (show kitB _ _ = some false by decide +kernel), _, rfl, iteF ?_⟩⟩
        refine ⟨_, rfl, ⟨_, _, _, _, _, rfl, .ty _, tx, kit_ty (show kitB _ _ = some true by decide +kernel), _, rfl, iteT ?_⟩⟩
        refine ⟨_, rfl, _, rfl, rfl, ?_⟩
        rw [decide_eq_true (rfl : V.int i = V.int i)]
        exact q _ s1
      · refine ⟨_, rfl, rfl, _, rfl, iteF ?_⟩
        refine ⟨_, rfl, ⟨_, _, _, _, _, rfl, .ty _, ty, kit_ty (show kitB _ _ = some false by decide +kernel), _, rfl, ⟨_, _, _, _, _, rfl, .ty _, tx, kit_ty (show kitB _ _ = some false by decide +kernel), rfl, _, rfl, iteF ?_⟩⟩⟩
        refine ⟨_, rfl, ⟨_, _, _, _, _, rfl, .ty _, ty, kit_ty (show kitB _ _ = some true by decide +kernel), _, rfl, iteT ?_⟩⟩
        refine ⟨_, rfl, ⟨_, _, _, _, _, rfl, .ty _, tx, kit_ty (show kitB _ _ = some true by decide +kernel), _, rfl, iteT ?_⟩⟩
        refine ⟨_, rfl, _, rfl, rfl, ?_⟩
        rw [decide_eq_true (rfl : V.str z = V.str z)]
        exact q _ s1
/-- no data at all: where the recursion ends -/
theorem ok_same0 {f : Addr} {fd : FuncData} (F : Fun K "_law_same" "_law_same" s__law_same f fd) : FnOk P w K mg base CX0 1 f fd ["actual", "due"] (sp_same K 0) := by
  refine F.ok sc__law_same (fun vs H Q E h => ?_) (fun cdv A outer s H vs Q E hr h => ?_)
  · obtain ⟨x, y, D, m, e, _⟩ := h
    exact absurd e (by omega)
  · obtain ⟨x, y, D, m, e, _⟩ := h
    exact absurd e (by omega)
/-- of any depth -/
theorem cl_same {f : Addr} {fd : FuncData} (F : Fun K "_law_same" "_law_same" s__law_same f fd) (M : Mg mg) (g : mg "_law_same" = some (.ref f)) (b : Binds K fd ["actual", "due"] []) : ∀ n : Nat, Cl P w K mg base (n + 1) "_law_same" (sp_same K n)
  | 0 => FnOk.cl (ok_same0 F) F g b
  | n + 1 => FnOk.cl (ok_same F M (cl_same F M g b n)) F g b
end

/-- over a list's items with their places, into a list -/
theorem lc_enum {K : PySem.W.Frag} {a : Addr} {xs : List V} {g : TG} {tt : TT} {te : TE} {vs : List Nat} {σ : L2.St} {H1 : Hp} {D : Addr} {Qd : Hp → Prop} (Pv : Nat → Hp → Prop) (h0 : Pv 0 (upd H1 D (.lst []))) (hl : ∀ i H, i ≤ xs.length → Pv i H → SqL K H a xs)
    (hs : ∀ i x H T, xs[i]? = some x → Pv i H → H T = none → g (.ref T) (wipe σ vs) (upd H T (.tup [.int ((i : Nat) : Int), x])) fun σ2 H2 => wipe σ2 vs = wipe σ vs ∧ tt σ2 H2 fun b H3 =>
      if b = true then te σ2 H3 fun y H4 => ∃ acc, H4 D = some (.lst acc) ∧ acc.length < sizeLine ∧ Pv (i + 1) (upd H4 D (.lst (acc ++ [y]))) else Pv (i + 1) H3) (hd : ∀ H, Pv xs.length H → Qd H) :
    ∃ W : Nat → Nat → Hp → Prop, (∃ m, W 0 m (upd H1 D (.lst []))) ∧ ∀ i m H, W i m H →
      ((Ite K a).stop i H ∧ Qd H) ∨ ((Ite K a).go i H ∧ ∃ Nx : Hp → Prop, (∀ H', Nx H' → ∃ m', m' < m ∧ W (i + 1) m' H') ∧ ∀ x H', (Ite K a).yld i H x H' → g x (wipe σ vs) H' fun σ2 H2 => wipe σ2 vs = wipe σ vs ∧ tt σ2 H2 fun b H3 =>
        if b = true then te σ2 H3 fun y H4 => ∃ acc, H4 D = some (.lst acc) ∧ acc.length < sizeLine ∧ Nx (upd H4 D (.lst (acc ++ [y]))) else Nx H3) := by
  refine ⟨fun i m H => m = xs.length - i ∧ i ≤ xs.length ∧ Pv i H, ⟨xs.length, by simp, Nat.zero_le _, h0⟩, ?_⟩
  rintro i m H ⟨rfl, hi, p⟩
  have q := hl i H hi p
  by_cases hlt : i < xs.length
  · refine .inr ⟨⟨xs, xs[i], q, by simp [hlt]⟩, Pv (i + 1), fun H' p' => ⟨xs.length - (i + 1), by omega, rfl, hlt, p'⟩, fun x H' y => ?_⟩
    obtain ⟨T, z, rfl, nT, rfl, hz⟩ := y
    exact hs i z H T (hz xs q) p nT
  · have e : i = xs.length := by omega
    subst e
    exact .inl ⟨⟨xs, q, Nat.le_refl _⟩, hd H p⟩

/-! ### the kinds of expressions, and their forms -/
inductive Kd where | int | text | truth
deriving DecidableEq
def Kd.s : Kd → String | .int => "int" | .text => "text" | .truth => "truth"
def kdV : Option Kd → V | none => .non | some k => .str (Str.ofString k.s)
def kdD : Option Kd → PyData | none => .none | some k => .str (Str.ofString k.s)
inductive Ow where | neg | nt | or | and | lt | le | eq | ne | ge | gt | add | sub | mul | div | mod | missing | length | starts | coalesce | ite
deriving DecidableEq
def Ow.s : Ow → String
  | .neg => "negate" | .nt => "not" | .or => "or" | .and => "and" | .lt => "<" | .le => "<=" | .eq => "=" | .ne => "!=" | .ge => ">=" | .gt => ">" | .add => "+" | .sub => "-" | .mul => "*" | .div => "div" | .mod => "mod" | .missing => "missing" | .length => "length" | .starts => "starts" | .coalesce => "coalesce" | .ite => "if"
def Ow.w (o : Ow) : Str := Str.ofString o.s
def Ow.ar : Ow → Nat | .neg => 1 | .nt => 1 | .missing => 1 | .length => 1 | .ite => 3 | _ => 2
def tld (l : List Str) : Str := Txt.join (Str.ofString ".") l
inductive Et where
  | num (i : Int) | text (x : Str) | truth (i : Int) | null | name (x : Str) | field (x y : Str) | op1 (o : Ow) (a : Et) | op2 (o : Ow) (a b : Et) | op3 (o : Ow) (a b c : Et)
def Et.d : Et → PyData
  | .num i => .tuple [.str "number", .int i]
  | .text x => .tuple [.str "text", .str x]
  | .truth i => .tuple [.str "truth", .int i]
  | .null => .tuple [.str "null"]
  | .name x => .tuple [.str "name", .str x]
  | .field x y => .tuple [.str "field", .str x, .str y]
  | .op1 o a => .tuple [.str o.w, a.d]
  | .op2 o a b => .tuple [.str o.w, a.d, b.d]
  | .op3 o a b c => .tuple [.str o.w, a.d, b.d, c.d]
def Et.ht : Et → Nat
  | .op1 _ a => a.ht + 1
  | .op2 _ a b => max a.ht b.ht + 1
  | .op3 _ a b c => max a.ht (max b.ht c.ht) + 1
  | _ => 0
def Et.ok : Et → Prop
  | .name x => x.length ≤ 100 ∧ (tld [x]).length ≤ 900 ∧ PyData.strOk x = true
  | .field x y => x.length ≤ 100 ∧ y.length ≤ 100 ∧ (tld [x, y]).length ≤ 900 ∧ PyData.strOk x = true ∧ PyData.strOk y = true
  | .op1 o a => o.ar = 1 ∧ a.ok
  | .op2 o a b => o.ar = 2 ∧ a.ok ∧ b.ok
  | .op3 o a b c => o.ar = 3 ∧ a.ok ∧ b.ok ∧ c.ok
  | _ => True
structure Col where
  src : Option Str
  nm : Str
  kd : Option Kd
def Col.ok (c : Col) : Prop := PyData.strOk c.nm = true ∧ ∀ x, c.src = some x → PyData.strOk x = true
def srcD : Option Str → PyData | none => .none | some x => .str x
def Col.d (c : Col) : PyData := .tuple [srcD c.src, .str c.nm, kdD c.kd]
/-- the plain form, the kind, the size -/
abbrev Cr := PyData × Option Kd × Nat
def need (k : Kd) (x : Option Kd) : Bool := decide (x = none) || decide (x = some k)
def exM : Kd → Str | .int => "expected an integer" | .text => "expected a text" | .truth => "expected a truth value"
def common (a b : Option Kd) : Except Str (Option Kd) :=
  match a with
  | none => .ok b
  | some k => if need k b = true then .ok (some k) else .error "different kinds"
/-- what an operator wants of its operands, and what it gives -/
def Ow.want : Ow → Option (Kd × Kd)
  | .neg => some (.int, .int) | .add => some (.int, .int) | .sub => some (.int, .int) | .mul => some (.int, .int) | .div => some (.int, .int) | .mod => some (.int, .int)
  | .nt => some (.truth, .truth) | .and => some (.truth, .truth) | .or => some (.truth, .truth) | .length => some (.text, .int) | .starts => some (.text, .truth) | _ => none
def Ow.cmp : Ow → Bool
  | .lt => true | .le => true | .eq => true | .ne => true | .ge => true | .gt => true | _ => false
def opK (o : Ow) (ks : List (Option Kd)) : Except Str (Option Kd) :=
  match o.want with
  | some (x, r) => if ks.all (need x) = true then .ok (some r) else .error (exM x)
  | none =>
    match o, ks with
    | .missing, _ => .ok (some .truth)
    | .ite, [a, b, c] => if need .truth a = true then common b c else .error (exM .truth)
    | o, [a, b] => (common a b).map fun c => if o.cmp = true then some .truth else c
    | _, _ => .ok none
def Ow.plain : Ow → String
  | .add => "add" | .sub => "subtract" | .mul => "multiply" | .div => "divide" | .mod => "remainder" | .lt => "less" | .eq => "equal" | .ite => "choose" | o => o.s
def opF (o : Ow) (ps : List PyData) : PyData :=
  match o, ps with
  | .le, [a, b] => .tuple [.str "not", .tuple [.str "less", b, a]]
  | .ne, [a, b] => .tuple [.str "not", .tuple [.str "equal", a, b]]
  | .ge, [a, b] => .tuple [.str "not", .tuple [.str "less", a, b]]
  | .gt, [a, b] => .tuple [.str "less", b, a]
  | .coalesce, [a, b] => .tuple [.str "choose", .tuple [.str "missing", a], b, a]
  | o, ps => .tuple (.str (Str.ofString o.plain) :: ps)
def opZ (o : Ow) (ss : List Nat) : Nat :=
  match o, ss with
  | .coalesce, [a, b] => 2 + 2 * a + b
  | .le, ss => 2 + ss.sum
  | .ne, ss => 2 + ss.sum
  | .ge, ss => 2 + ss.sum
  | _, ss => 1 + ss.sum
def seqE {α : Type} : List (Except Str α) → Except Str (List α)
  | [] => .ok []
  | .error m :: _ => .error m
  | .ok x :: l => match seqE l with | .ok xs => .ok (x :: xs) | .error m => .error m
def opC (o : Ow) (rs : List (Except Str Cr)) : Except Str Cr :=
  match seqE rs with
  | .error m => .error m
  | .ok xs => match opK o (xs.map (·.2.1)) with | .error m => .error m | .ok k => .ok (opF o (xs.map (·.1)), k, opZ o (xs.map (·.2.2)))
def plcs (cols : List Col) (p : Col → Bool) : List Nat := (List.range cols.length).filter fun i => (cols[i]?.map p).getD false
def namedC (cols : List Col) (told : Str) (p : Col → Bool) : Except Str Cr :=
  match plcs cols p with
  | [] => .error ((Str.empty ++ Str.ofString "unknown name: ") ++ told)
  | [i] => .ok (.tuple [.str "column", .int (i : Nat)], (cols[i]?.map (·.kd)).getD none, 1)
  | _ => .error ((Str.empty ++ Str.ofString "ambiguous name: ") ++ told)
def comp (cols : List Col) : Et → Except Str Cr
  | .num i => .ok (.tuple [.str "constant", .int i], some .int, 1)
  | .text x => .ok (.tuple [.str "constant", .str x], some .text, 1)
  | .truth i => .ok (.tuple [.str "constant", .int i], some .truth, 1)
  | .null => .ok (.tuple [.str "constant", .none], none, 1)
  | .name x => namedC cols (tld [x]) fun c => decide (c.nm = x)
  | .field x y => namedC cols (tld [x, y]) fun c => decide (c.src = some x) && decide (c.nm = y)
  | .op1 o a => opC o [comp cols a]
  | .op2 o a b => opC o [comp cols a, comp cols b]
  | .op3 o a b c => opC o [comp cols a, comp cols b, comp cols c]
theorem wne (a b : String) (h : (Str.ofString a == Str.ofString b) = false) : decide (V.str (Str.ofString a) = V.str (Str.ofString b)) = false := by
  refine decide_eq_false fun e => ?_
  rw [V.str.inj e] at h
  have : (Str.ofString b == Str.ofString b) = true := beq_self_eq_true _
  rw [this] at h
  cases h
theorem weq (a : Str) : decide (V.str a = V.str a) = true := decide_eq_true rfl
theorem ow_missing (o : Ow) : decide (V.str o.w = V.str "missing") = decide (o = .missing) := by cases o <;> first | exact weq _ | exact wne _ _ (by decide)
theorem ow_if (o : Ow) : decide (V.str o.w = V.str "if") = decide (o = .ite) := by cases o <;> first | exact weq _ | exact wne _ _ (by decide)
theorem ow_le (o : Ow) : decide (V.str o.w = V.str "<=") = decide (o = .le) := by cases o <;> first | exact weq _ | exact wne _ _ (by decide)
theorem ow_ne (o : Ow) : decide (V.str o.w = V.str "!=") = decide (o = .ne) := by cases o <;> first | exact weq _ | exact wne _ _ (by decide)
theorem ow_ge (o : Ow) : decide (V.str o.w = V.str ">=") = decide (o = .ge) := by cases o <;> first | exact weq _ | exact wne _ _ (by decide)
theorem ow_gt (o : Ow) : decide (V.str o.w = V.str ">") = decide (o = .gt) := by cases o <;> first | exact weq _ | exact wne _ _ (by decide)
theorem ow_coalesce (o : Ow) : decide (V.str o.w = V.str "coalesce") = decide (o = .coalesce) := by cases o <;> first | exact weq _ | exact wne _ _ (by decide)
theorem ow_null (o : Ow) : decide (V.str o.w = V.str "null") = false := by cases o <;> exact wne _ _ (by decide)
theorem ow_number (o : Ow) : decide (V.str o.w = V.str "number") = false := by cases o <;> exact wne _ _ (by decide)
theorem ow_names (o : Ow) : inV (.str o.w) [.str "name", .str "field"] = false := by cases o <;> decide +kernel
theorem ow_texts (o : Ow) : inV (.str o.w) [.str "text", .str "truth"] = false := by cases o <;> decide +kernel
theorem ow_cmp (o : Ow) : inV (.str o.w) (["<", "<=", "=", "!=", ">=", ">"].map fun s => V.str (Str.ofString s)) = o.cmp := by cases o <;> decide +kernel
def Ow.lrg : Ow → Bool | .le => true | .ne => true | .ge => true | _ => false
theorem ow_lrg (o : Ow) : inV (.str o.w) (["<=", "!=", ">="].map fun s => V.str (Str.ofString s)) = o.lrg := by cases o <;> decide +kernel
theorem need_in (x : Kd) (k : Option Kd) : inV (kdV k) [.non, .str (Str.ofString x.s)] = need x k := by
  cases k with
  | none => cases x <;> decide +kernel
  | some k => cases k <;> cases x <;> decide +kernel
theorem kd_flat (k : Option Kd) : flatV (kdV k) = true := by cases k <;> rfl
theorem kd_non (k : Option Kd) : decide (kdV k = .non) = decide (k = none) := by
  cases k with
  | none => rfl
  | some k => exact (decide_eq_false fun z => nomatch z).trans (decide_eq_false fun z => nomatch z).symm
theorem dp_kd {K : PySem.W.Frag} {H : Hp} (k : Option Kd) : Dp K H (kdV k) (kdD k) := by
  cases k with
  | none => exact .non
  | some k => exact .str _
theorem exM_len (x : Kd) : (exM x).length ≤ 1000 := by cases x <;> decide +kernel
theorem dp_tup {K : PySem.W.Frag} {H : Hp} {p : V} {ds : List PyData} (h : Dp K H p (.tuple ds)) : ∃ a xs, p = .ref a ∧ SqT K H a xs ∧ DpAll K H xs ds := by
  cases h with
  | tup hs ha => exact ⟨_, _, rfl, hs, ha⟩
/-! ### operands and results -/
def crD (r : Cr) : PyData := .tuple [r.1, kdD r.2.1, .int ((r.2.2 : Nat) : Int)]
theorem seqE_snoc {α : Type} : ∀ {l : List (Except Str α)} {rs : List α} {x : α}, seqE l = .ok rs → seqE (l ++ [.ok x]) = .ok (rs ++ [x])
  | [], rs, x, h => by
    cases h
    rfl
  | .error m :: l, rs, x, h => by cases h
  | .ok y :: l, rs, x, h => by
    unfold seqE at h
    cases e : seqE l with
    | error m => rw [e] at h; cases h
    | ok ys =>
      rw [e] at h
      cases h
      show (match seqE (l ++ [.ok x]) with | .ok xs => _ | .error m => _) = _
      rw [seqE_snoc e]
      rfl
theorem seqE_err {α : Type} {m : Str} : ∀ {l r : List (Except Str α)} {rs : List α}, seqE l = .ok rs → seqE (l ++ .error m :: r) = .error m
  | [], r, rs, h => rfl
  | .error m :: l, r, rs, h => by cases h
  | .ok y :: l, r, rs, h => by
    unfold seqE at h
    cases e : seqE l with
    | error m => rw [e] at h; cases h
    | ok ys =>
      show (match seqE (l ++ .error m :: r) with | .ok xs => _ | .error m => _) = _
      rw [seqE_err e]
theorem seqE_len {α : Type} : ∀ {l : List (Except Str α)} {rs : List α}, seqE l = .ok rs → rs.length = l.length
  | [], rs, h => by
    cases h
    rfl
  | .error m :: l, rs, h => by cases h
  | .ok y :: l, rs, h => by
    unfold seqE at h
    cases e : seqE l with
    | error m => rw [e] at h; cases h
    | ok ys =>
      rw [e] at h
      cases h
      rw [List.length_cons, List.length_cons, seqE_len e]
theorem seqE_mem {α : Type} : ∀ {l : List (Except Str α)} {rs : List α}, seqE l = .ok rs → ∀ x ∈ rs, Except.ok x ∈ l
  | [], rs, h, x, hx => by
    cases h
    cases hx
  | .error m :: l, rs, h, x, hx => by cases h
  | .ok y :: l, rs, h, x, hx => by
    unfold seqE at h
    cases e : seqE l with
    | error m => rw [e] at h; cases h
    | ok ys =>
      rw [e] at h
      cases h
      rcases List.mem_cons.mp hx with rfl | hx
      · exact List.mem_cons_self
      · exact List.mem_cons_of_mem _ (seqE_mem e x hx)
theorem only_all : ∀ {ds : List PyData}, (∀ d ∈ ds, tupOnly d = true) → tupOnlys ds = true
  | [], _ => rfl
  | d :: ds, h => by
    unfold tupOnlys
    rw [h d List.mem_cons_self, only_all fun x hx => h x (List.mem_cons_of_mem _ hx)]
    rfl
theorem only_tup {ds : List PyData} (h : ∀ d ∈ ds, tupOnly d = true) : tupOnly (.tuple ds) = true := by
  unfold tupOnly
  exact only_all h
theorem opF_only (o : Ow) {ps : List PyData} (h : ∀ d ∈ ps, tupOnly d = true) : tupOnly (opF o ps) = true := by
  have plain : tupOnly (.tuple (.str (Str.ofString o.plain) :: ps)) = true := only_tup fun d hd => by
    rcases List.mem_cons.mp hd with rfl | hd
    · rfl
    · exact h d hd
  have two : ∀ {a b : PyData}, ps = [a, b] → tupOnly a = true ∧ tupOnly b = true := fun e => by
    rw [e] at h
    exact ⟨h _ List.mem_cons_self, h _ (List.mem_cons_of_mem _ List.mem_cons_self)⟩
  have three : ∀ {a b c : PyData}, tupOnly a = true → tupOnly b = true → tupOnly c = true → tupOnly (.tuple [a, b, c]) = true := fun ha hb hc => only_tup fun d hd => by
    simp only [List.mem_cons, List.not_mem_nil, or_false] at hd
    rcases hd with rfl | rfl | rfl <;> assumption
  have pair : ∀ {a b : PyData}, tupOnly a = true → tupOnly b = true → tupOnly (.tuple [a, b]) = true := fun ha hb => only_tup fun d hd => by
    simp only [List.mem_cons, List.not_mem_nil, or_false] at hd
    rcases hd with rfl | rfl <;> assumption
  unfold opF
  split
  · obtain ⟨h1, h2⟩ := two rfl
    exact pair rfl (three rfl h2 h1)
  · obtain ⟨h1, h2⟩ := two rfl
    exact pair rfl (three rfl h1 h2)
  · obtain ⟨h1, h2⟩ := two rfl
    exact pair rfl (three rfl h1 h2)
  · obtain ⟨h1, h2⟩ := two rfl
    exact three rfl h2 h1
  · obtain ⟨h1, h2⟩ := two rfl
    exact only_tup fun d hd => by
      simp only [List.mem_cons, List.not_mem_nil, or_false] at hd
      rcases hd with rfl | rfl | rfl | rfl
      · rfl
      · exact pair rfl h1
      · exact h2
      · exact h1
  · exact plain
theorem namedC_only {cols : List Col} {told : Str} {p : Col → Bool} {r : Cr} (h : namedC cols told p = .ok r) : tupOnly r.1 = true := by
  unfold namedC at h
  split at h
  · cases h
  · cases h
    rfl
  · cases h
theorem opC_inv {o : Ow} {l : List (Except Str Cr)} {r : Cr} (h : opC o l = .ok r) : ∃ xs k, seqE l = .ok xs ∧ opK o (xs.map (·.2.1)) = .ok k ∧ r = (opF o (xs.map (·.1)), k, opZ o (xs.map (·.2.2))) := by
  unfold opC at h
  cases e : seqE l with
  | error m => rw [e] at h; cases h
  | ok xs =>
    rw [e] at h
    dsimp only at h
    cases e2 : opK o (xs.map (·.2.1)) with
    | error m => rw [e2] at h; cases h
    | ok k =>
      rw [e2] at h
      cases h
      exact ⟨xs, k, rfl, e2, rfl⟩
theorem opC_only {o : Ow} {l : List (Except Str Cr)} {r : Cr} (h : opC o l = .ok r) (hl : ∀ x, Except.ok x ∈ l → tupOnly x.1 = true) : tupOnly r.1 = true := by
  obtain ⟨xs, k, e1, _, rfl⟩ := opC_inv h
  refine opF_only o fun d hd => ?_
  obtain ⟨x, hx, rfl⟩ := List.mem_map.mp hd
  exact hl x (seqE_mem e1 x hx)
theorem comp_only (cols : List Col) : ∀ (e : Et) (r : Cr), comp cols e = .ok r → tupOnly r.1 = true
  | .num i, r, h => by cases h; rfl
  | .text i, r, h => by cases h; rfl
  | .truth i, r, h => by cases h; rfl
  | .null, r, h => by cases h; rfl
  | .name x, r, h => namedC_only h
  | .field x y, r, h => namedC_only h
  | .op1 o a, r, h => opC_only h fun x hx => by
    rw [List.mem_singleton] at hx
    exact comp_only cols a x hx.symm
  | .op2 o a b, r, h => opC_only h fun x hx => by
    simp only [List.mem_cons, List.not_mem_nil, or_false] at hx
    rcases hx with hx | hx
    · exact comp_only cols a x hx.symm
    · exact comp_only cols b x hx.symm
  | .op3 o a b c, r, h => opC_only h fun x hx => by
    simp only [List.mem_cons, List.not_mem_nil, or_false] at hx
    rcases hx with hx | hx | hx
    · exact comp_only cols a x hx.symm
    · exact comp_only cols b x hx.symm
    · exact comp_only cols c x hx.symm
theorem crD_only {r : Cr} (h : tupOnly r.1 = true) : tupOnly (crD r) = true := only_tup fun d hd => by
  simp only [List.mem_cons, List.not_mem_nil, or_false] at hd
  rcases hd with rfl | rfl | rfl
  · exact h
  · cases r.2.1 <;> rfl
  · rfl
/-- an operator with its operands -/
theorem op_view (cols : List Col) (e : Et) (h : e.ok) : (∃ i, e = .num i) ∨ (∃ x, e = .text x) ∨ (∃ i, e = .truth i) ∨ e = .null ∨ (∃ told p, (∃ x, e = .name x ∧ p = (fun c : Col => decide (c.nm = x)) ∧ told = tld [x]) ∧ comp cols e = namedC cols told p) ∨ (∃ told p, (∃ x y, e = .field x y ∧ p = (fun c : Col => decide (c.src = some x) && decide (c.nm = y)) ∧ told = tld [x, y]) ∧ comp cols e = namedC cols told p) ∨
    ∃ (o : Ow) (kids : List Et), e.d = .tuple (.str o.w :: kids.map Et.d) ∧ kids.length = o.ar ∧ comp cols e = opC o (kids.map (comp cols)) ∧ ∀ k ∈ kids, k.ok ∧ k.ht < e.ht := by
  cases e with
  | num i => exact .inl ⟨i, rfl⟩
  | text x => exact .inr (.inl ⟨x, rfl⟩)
  | truth i => exact .inr (.inr (.inl ⟨i, rfl⟩))
  | null => exact .inr (.inr (.inr (.inl rfl)))
  | name x => exact .inr (.inr (.inr (.inr (.inl ⟨_, _, ⟨x, rfl, rfl, rfl⟩, rfl⟩))))
  | field x y => exact .inr (.inr (.inr (.inr (.inr (.inl ⟨_, _, ⟨x, y, rfl, rfl, rfl⟩, rfl⟩)))))
  | op1 o a => exact .inr (.inr (.inr (.inr (.inr (.inr ⟨o, [a], rfl, h.1.symm, rfl, fun k hk => by
      rw [List.mem_singleton.mp hk]
      exact ⟨h.2, Nat.lt_succ_self _⟩⟩)))))
  | op2 o a b => exact .inr (.inr (.inr (.inr (.inr (.inr ⟨o, [a, b], rfl, h.1.symm, rfl, fun k hk => by
      simp only [List.mem_cons, List.not_mem_nil, or_false] at hk
      show _ ∧ _ < max a.ht b.ht + 1
      rcases hk with rfl | rfl
      · exact ⟨h.2.1, by omega⟩
      · exact ⟨h.2.2, by omega⟩⟩)))))
  | op3 o a b c => exact .inr (.inr (.inr (.inr (.inr (.inr ⟨o, [a, b, c], rfl, h.1.symm, rfl, fun k hk => by
      simp only [List.mem_cons, List.not_mem_nil, or_false] at hk
      show _ ∧ _ < max a.ht (max b.ht c.ht) + 1
      rcases hk with rfl | rfl | rfl
      · exact ⟨h.2.1, by omega⟩
      · exact ⟨h.2.2.1, by omega⟩
      · exact ⟨h.2.2.2, by omega⟩⟩)))))
theorem dp_kdV {K : PySem.W.Frag} {H : Hp} {v : V} {k : Option Kd} (h : Dp K H v (kdD k)) : v = kdV k := by
  cases k with
  | none => cases h; rfl
  | some k => cases h; rfl
theorem dp_cr {K : PySem.W.Frag} {H : Hp} {v : V} {r : Cr} (h : Dp K H v (crD r)) : ∃ t pv, v = .ref t ∧ SqT K H t [pv, kdV r.2.1, .int ((r.2.2 : Nat) : Int)] ∧ Dp K H pv r.1 := by
  obtain ⟨t, xs, rfl, ht, hx⟩ := dp_tup h
  cases hx with
  | cons g1 g2 =>
  cases g2 with
  | cons g2 g3 =>
  cases g3 with
  | cons g3 g4 =>
  cases g3
  cases g4
  rw [dp_kdV g2] at ht
  exact ⟨t, _, rfl, ht, g1⟩

/-! ### compile_expression -/
/-- the constants of the module -/
structure Kg (K : PySem.W.Frag) (w : World) (mg : Str → Option Value) (aO aC aE aP aL : Addr) (eO eE eP : Array DictEntry) (nO nE nP : Nat) : Prop where
  OPERATORS : ∃ u, mg "OPERATORS" = some u ∧ RelV (.ref aO) u
  COMPARISONS : ∃ u, mg "COMPARISONS" = some u ∧ RelV (.ref aC) u
  EXPECTED : ∃ u, mg "EXPECTED" = some u ∧ RelV (.ref aE) u
  PLAIN_WORDS : ∃ u, mg "PLAIN_WORDS" = some u ∧ RelV (.ref aP) u
  LARGER : ∃ u, mg "LARGER" = some u ∧ RelV (.ref aL) u
  MOST_SIZE : ∃ u, mg "MOST_SIZE" = some u ∧ RelV (.int 200) u
  OPERATORS_D : KDict K w aO eO nO
  EXPECTED_D : KDict K w aE eE nE
  PLAIN_WORDS_D : KDict K w aP eP nP
  cmp : ∀ H : Hp, SqT K H aC (["<", "<=", "=", "!=", ">=", ">"].map fun s => V.str (Str.ofString s))
  lrg : ∀ H : Hp, SqT K H aL (["<=", "!=", ">="].map fun s => V.str (Str.ofString s))
  ex : ∀ x : Kd, ∃ u, PySem.W.nsIn K aE (Str.ofString x.s) = some (some u) ∧ RelV (.str (exM x)) u
  opI : ∀ (o : Ow) (x r : Kd), o.want = some (x, r) → ∃ t : Addr, PySem.W.nsIn K aO o.w = some (some (.ref t)) ∧ ∀ H : Hp, SqT K H t [.str (Str.ofString x.s), .str (Str.ofString r.s)]
  opM : ∀ o : Ow, o.want = none → PySem.W.nsIn K aO o.w = some none
  pl : ∀ o : Ow, (o.lrg || decide (o = .gt) || decide (o = .coalesce)) = false → (∃ u, PySem.W.nsIn K aP o.w = some (some u) ∧ RelV (.str (Str.ofString o.plain)) u) ∨ (PySem.W.nsIn K aP o.w = some none ∧ o.plain = o.s)
def sp_ek (C : Addr) : Sp := fun vs H Q E => ∃ (k : Option Kd) (x : Kd), vs = [kdV k, .str (Str.ofString x.s)] ∧ (need x k = true → ∀ H', Same H H' → Q .non H') ∧ (need x k = false → Pf C (exM x) E H)
def sp_ck (C : Addr) : Sp := fun vs H Q E => ∃ a b : Option Kd, vs = [kdV a, kdV b] ∧ (∀ c, common a b = .ok c → ∀ H', Same H H' → Q (kdV c) H') ∧ ∀ m, common a b = .error m → Pf C m E H
def sp_rk (C : Addr) : Sp := fun vs H Q E => ∃ (o : Ow) (ks : List (Option Kd)) (a : Addr), vs = [.str o.w, .ref a] ∧ H a = some (.lst (ks.map kdV)) ∧ ks.length = o.ar ∧ (∀ k, opK o ks = .ok k → ∀ H', Same H H' → Q (kdV k) H') ∧ ∀ m, opK o ks = .error m → Pf C m E H
section
variable {P : Program} {w : World} {K : PySem.W.Frag} {mg : Str → Option Value} {base : Heap} {C : Addr} {aO aC aE aP aL : Addr} {eO eE eP : Array DictEntry} {nO nE nP : Nat}
theorem ok_ek {f : Addr} {fd : FuncData} (F : Fun K "expect_kind" "expect_kind" s_expect_kind f fd) (M : Mg mg) (PB : PrbE P w K mg base C) (G : Kg K w mg aO aC aE aP aL eO eE eP nO nE nP) : FnOk P w K mg base (L2.CX P w) 3 f fd ["kind", "expected"] (sp_ek C) := by
  refine F.okX sc_expect_kind (fun vs H Q E h => ?_) (fun cdv A outer s H vs Q E hr h => ?_)
  · obtain ⟨k, x, rfl, _⟩ := h
    rfl
  obtain ⟨k, x, rfl, q, fl⟩ := h
  refine ⟨_, (pss_one (ps_if (pt_cmpR (notInK K) (pv 0) (pe_tup (pa_cons pe_non (pa_cons (pv 1) pa_nil))) (by rfl)) (pss_one (ps_raiseM PB rfl (takes_of rfl rfl rfl rfl) hr (by first | decide | omega) (by rfl) (pa_cons (pe_ix ix_kdict (C8.pe_gc (by rfl) G.EXPECTED) (pv 1) (fun _ _ => rfl)) pa_nil))) pss_nil)), ?_⟩
  refine ⟨_, rfl, _, rfl, by show 2 ≤ sizeLine; decide, fun p np => ⟨p, _, rfl, .inr (.of upd_same), kd_flat k, rfl, ?_⟩⟩
  have sp := same_upd np (o := .tup [.non, .str (Str.ofString x.s)])
  rw [if_pos rfl, need_in]
  refine ⟨_, rfl, ?_⟩
  cases hn : need x k with
  | true => exact iteF (q hn _ sp)
  | false =>
    obtain ⟨u, e1, e2⟩ := G.ex x
    exact iteT ⟨_, rfl, _, _, _, rfl, rfl, ⟨_, _, _, G.EXPECTED_D.1, G.EXPECTED_D.2, e1, e2⟩, _, rfl, exM_len x, fun d H' nd s' e => (fl hn).ext sp d H' nd s' e⟩
theorem ok_ck {f : Addr} {fd : FuncData} (F : Fun K "common_kind" "common_kind" s_common_kind f fd) (M : Mg mg) (PB : PrbE P w K mg base C) : FnOk P w K mg base (L2.CX P w) 3 f fd ["first", "second"] (sp_ck C) := by
  refine F.okX sc_common_kind (fun vs H Q E h => ?_) (fun cdv A outer s H vs Q E hr h => ?_)
  · obtain ⟨a, b, rfl, _⟩ := h
    rfl
  obtain ⟨a, b, rfl, q, fl⟩ := h
  refine ⟨_, (pss_cons (ps_if (pt_cmpR op_isN (pv 0) pe_non (nomark _)) (pss_one (ps_ret (pv 1))) pss_nil)
      (pss_cons (ps_if (pt_cmpR (notInK K) (pv 1) (pe_tup (pa_cons pe_non (pa_cons (pv 0) pa_nil))) (by rfl)) (pss_one (ps_raiseM PB rfl (takes_of rfl rfl rfl rfl) hr (by first | decide | omega) (by rfl) (pa_cons pe_str pa_nil))) pss_nil)
      (pss_one (ps_ret (pv 0))))), ?_⟩
  refine ⟨_, rfl, rfl, _, rfl, ?_⟩
  rw [kd_non]
  cases a with
  | none => exact iteT ⟨_, rfl, q b rfl H fun _ _ h => h⟩
  | some x =>
    refine iteF ?_
    refine ⟨_, rfl, _, rfl, by show 2 ≤ sizeLine; decide, fun p np => ⟨p, _, rfl, .inr (.of upd_same), kd_flat b, rfl, ?_⟩⟩
    have sp := same_upd np (o := .tup [.non, kdV (some x)])
    rw [if_pos rfl, show inV (kdV b) [V.non, kdV (some x)] = need x b from need_in x b]
    refine ⟨_, rfl, ?_⟩
    have e : common (some x) b = if need x b = true then .ok (some x) else .error "different kinds" := rfl
    cases hn : need x b with
    | true => exact iteF ⟨_, rfl, q (some x) (by rw [e, hn]; rfl) _ sp⟩
    | false => exact iteT ⟨_, rfl, by decide +kernel, fun d H' nd s' e' => (fl _ (by rw [e, hn]; rfl)).ext sp d H' nd s' e'⟩
theorem ok_rk {f : Addr} {fd : FuncData} (F : Fun K "result_kind" "result_kind" s_result_kind f fd) (M : Mg mg) (PB : PrbE P w K mg base C) (G : Kg K w mg aO aC aE aP aL eO eE eP nO nE nP) (cx_expect_kind : ClX P w K mg base 3 "expect_kind" (sp_ek C)) (cx_common_kind : ClX P w K mg base 3 "common_kind" (sp_ck C)) : FnOk P w K mg base (L2.CX P w) 4 f fd ["word", "kinds"] (sp_rk C) := by
  refine F.okX sc_result_kind (fun vs H Q E h => ?_) (fun cdv A outer s H vs Q E hr h => ?_)
  · obtain ⟨o, ks, a, rfl, _⟩ := h
    rfl
  obtain ⟨o, ks, a, rfl, ha, hl, q, fl⟩ := h
  refine ⟨_, (pss_cons (ps_if (pt_cmpR (op_in_kd G.OPERATORS_D) (pv 0) (C8.pe_gc (by rfl) G.OPERATORS) (by rfl)) (pss_cons (ps_asg (pe_ix ix_kdict (C8.pe_gc (by rfl) G.OPERATORS) (pv 0) (fun _ _ => rfl)) (pg_tup (by rfl) (pgs_cons (pg_name (i := 2) sc_result_kind.nd rfl (.inl rfl)) (pgs_cons (pg_name (i := 3) sc_result_kind.nd rfl (.inl rfl)) pgs_nil))))
      (pss_cons (ps_for (passes_of rfl) rfl (pi_list (pv 1)) (pg_name (i := 4) sc_result_kind.nd rfl (.inl rfl)) (pss_one (ps_expr (pe_ux cx_expect_kind hr (by first | decide | omega) (E := E) (passX (takes_of rfl rfl rfl rfl)) (by rfl) (pa_cons (pv 4) (pa_cons (pv 2) pa_nil))))))
      (pss_one (ps_ret (pv 3))))) pss_nil)
      (pss_cons (ps_if (pt_cmpR op_eq (pv 0) pe_str (nomark _)) (pss_one (ps_ret pe_str)) pss_nil)
      (pss_cons (ps_if (pt_cmpR op_eq (pv 0) pe_str (nomark _)) (pss_cons (ps_expr (pe_ux cx_expect_kind hr (by first | decide | omega) (E := E) (passX (takes_of rfl rfl rfl rfl)) (by rfl) (pa_cons (pe_ix (ix_listK K) (pv 1) pe_int (fun _ _ => rfl)) (pa_cons pe_str pa_nil))))
      (pss_one (ps_ret (pe_ux cx_common_kind hr (by first | decide | omega) (E := E) (passX (takes_of rfl rfl rfl rfl)) (by rfl) (pa_cons (pe_ix (ix_listK K) (pv 1) pe_int (fun _ _ => rfl)) (pa_cons (pe_ix (ix_listK K) (pv 1) pe_int (fun _ _ => rfl)) pa_nil)))))) pss_nil)
      (pss_cons (ps_set (i := 5) sc_result_kind.nd rfl (.inl rfl) (pe_ux cx_common_kind hr (by first | decide | omega) (E := E) (passX (takes_of rfl rfl rfl rfl)) (by rfl) (pa_cons (pe_ix (ix_listK K) (pv 1) pe_int (fun _ _ => rfl)) (pa_cons (pe_ix (ix_listK K) (pv 1) pe_int (fun _ _ => rfl)) pa_nil))))
      (pss_one (ps_ret (pe_ifExp (pt_cmpR (inK K) (pv 0) (C8.pe_gc (by rfl) G.COMPARISONS) (by rfl)) pe_str (pv 5)))))))), ?_⟩
  cases hw : o.want with
  | some xr =>
    obtain ⟨x, r⟩ := xr
    obtain ⟨t, ht, hT⟩ := G.opI o x r hw
    refine ⟨_, rfl, _, _, rfl, rfl, ht, _, rfl, iteT ?_⟩
    refine ⟨_, rfl, _, _, _, rfl, rfl, ⟨_, _, _, G.OPERATORS_D.1, G.OPERATORS_D.2, ht, (show RelV (.ref t) (.ref t) from rfl)⟩, t, _, rfl, hT H, rfl, _, _, rfl, _, _, rfl, rfl, ?_⟩
    have eo : opK o ks = if ks.all (need x) = true then .ok (some r) else .error (exM x) := by
      unfold opK
      rw [hw]
    refine ⟨_, rfl, a, rfl, ⟨_, .of ha⟩, ?_⟩
    refine for_list (K := K) (a := a) (xs := ks.map kdV) (fun i σ Hi => Same H Hi ∧ (ks.take i).all (need x) = true ∧ ∃ z4 z5, σ = [some (.str o.w), some (.ref a), some (.str (Str.ofString x.s)), some (.str (Str.ofString r.s)), z4, z5]) ⟨fun _ _ h => h, rfl, _, _, rfl⟩ (fun i σ Hi _ hp => .of (hp.1 _ _ ha)) (fun i y σ Hi hy hp => ?_) (fun σ Hn hp => ?_)
    · obtain ⟨si, hall, z4, z5, rfl⟩ := hp
      rw [List.getElem?_map] at hy
      obtain ⟨k, hk, rfl⟩ := Option.map_eq_some_iff.mp hy
      refine ⟨_, rfl, _, rfl, k, x, rfl, fun hn H' s' => ?_, fun hn => ?_⟩
      · refine ⟨si.trans s', ?_, _, _, rfl⟩
        rw [List.take_add_one, hk, List.all_append, hall]
        show (true && (need x k && true)) = true
        rw [hn]
        rfl
      · refine (fl _ ?_).ext si
        rw [eo, if_neg]
        intro z
        rw [List.all_eq_true.mp z k (List.mem_of_getElem? hk)] at hn
        cases hn
    · obtain ⟨sn, hall, z4, z5, rfl⟩ := hp
      rw [List.length_map, List.take_of_length_le (Nat.le_refl _)] at hall
      exact ⟨_, rfl, q (some r) (by rw [eo, if_pos hall]) _ sn⟩
  | none =>
    refine ⟨_, rfl, _, _, rfl, rfl, G.opM o hw, _, rfl, iteF ?_⟩
    refine ⟨_, rfl, rfl, _, rfl, ?_⟩
    rw [ow_missing]
    have two : ∀ {a b : Option Kd}, ks = [a, b] → o ≠ .ite → o ≠ .missing → opK o ks = (common a b).map fun c => if o.cmp = true then some .truth else c := fun e h1 h2 => by
      subst e
      unfold opK
      rw [hw]
      cases o <;> first | rfl | exact absurd rfl h1 | exact absurd rfl h2
    by_cases h1 : o = .missing
    · rw [decide_eq_true h1]
      have e : opK o ks = .ok (some .truth) := by
        subst h1
        rfl
      exact iteT (q _ e H fun _ _ h => h)
    rw [decide_eq_false h1]
    refine iteF ⟨_, rfl, rfl, _, rfl, ?_⟩
    rw [ow_if]
    by_cases h2 : o = .ite
    · rw [decide_eq_true h2]
      subst h2
      refine iteT ?_
      obtain ⟨k1, k2, k3, rfl⟩ : ∃ k1 k2 k3, ks = [k1, k2, k3] := by
        match ks, hl with
        | [a, b, c], _ => exact ⟨a, b, c, rfl⟩
      have e3 : opK .ite [k1, k2, k3] = if need .truth k1 = true then common k2 k3 else .error (exM .truth) := rfl
      refine ⟨_, rfl, a, _, _, kdV k1, rfl, rfl, .of ha, rfl, k1, .truth, rfl, fun hn H1 s1 => ?_, fun hn => fl _ (by rw [e3, hn]; rfl)⟩
      rw [if_pos hn] at e3
      exact ⟨_, rfl, a, _, _, kdV k2, rfl, rfl, .of (s1 _ _ ha), rfl, _, rfl, a, _, _, kdV k3, rfl, rfl, .of (s1 _ _ ha), rfl, k2, k3, rfl, fun c hc H2 s2 => q c (by rw [e3]; exact hc) _ (s1.trans s2), fun m hm => (fl m (by rw [e3]; exact hm)).ext s1⟩
    rw [decide_eq_false h2]
    refine iteF ?_
    have h2l : o.ar = 2 := by cases o <;> first | rfl | exact absurd rfl h1 | exact absurd rfl h2 | cases hw
    rw [h2l] at hl
    obtain ⟨k1, k2, rfl⟩ : ∃ k1 k2, ks = [k1, k2] := by
      match ks, hl with
      | [a, b], _ => exact ⟨a, b, rfl⟩
    have e2 := two rfl h2 h1
    refine ⟨_, rfl, a, _, _, kdV k1, rfl, rfl, .of ha, rfl, _, rfl, a, _, _, kdV k2, rfl, rfl, .of ha, rfl, k1, k2, rfl, fun c hc H2 s2 => ?_, fun m hm => fl m (by rw [e2, hm]; rfl)⟩
    refine ⟨_, rfl, aC, _, rfl, .inr (G.cmp H2), rfl, by decide +kernel, ?_⟩
    rw [if_neg Bool.false_ne_true, ow_cmp]
    refine ⟨_, rfl, ?_⟩
    have q := q _ (by rw [e2, hc]; rfl) H2 s2
    cases hcm : o.cmp with
    | true =>
      rw [hcm] at q
      exact iteT q
    | false =>
      rw [hcm] at q
      exact iteF ⟨_, rfl, q⟩

def sp_rz : Sp := fun vs H Q _ => ∃ (o : Ow) (ss : List Nat) (a : Addr), vs = [.str o.w, .ref a] ∧ H a = some (.lst (ss.map fun n => V.int ((n : Nat) : Int))) ∧ ss.length = o.ar ∧ Q (.int ((opZ o ss : Nat) : Int)) H
theorem sum_cast : ∀ ss : List Nat, ((ss.map fun n => ((n : Nat) : Int)).sum) = ((ss.sum : Nat) : Int)
  | [] => rfl
  | n :: ss => by
    rw [List.map_cons, List.sum_cons, List.sum_cons, sum_cast ss]
    omega
theorem ok_rz {f : Addr} {fd : FuncData} (F : Fun K "result_size" "result_size" s_result_size f fd) (M : Mg mg) (G : Kg K w mg aO aC aE aP aL eO eE eP nO nE nP) : FnOk P w K mg base CX0 1 f fd ["word", "sizes"] sp_rz := by
  refine F.ok sc_result_size (fun vs H Q E h => ?_) (fun cdv A outer s H vs Q E hr h => ?_)
  · obtain ⟨o, ss, a, rfl, _⟩ := h
    rfl
  obtain ⟨o, ss, a, rfl, ha, hl, q⟩ := h
  refine ⟨_, (pss_cons (ps_if (pt_cmpR op_eq (pv 0) pe_str (nomark _)) (pss_one (ps_ret (pe_op op_add (pe_op op_add pe_int (pe_op op_mul pe_int (pe_ix (ix_listK K) (pv 1) pe_int (fun _ _ => rfl)))) (pe_ix (ix_listK K) (pv 1) pe_int (fun _ _ => rfl))))) pss_nil)
      (pss_cons (ps_if (pt_cmpR (inK K) (pv 0) (C8.pe_gc (by rfl) G.LARGER) (by rfl)) (pss_one (ps_ret (pe_op op_add pe_int (pe_callB (cr_sum rfl) (by rfl) M.sum (by decide +kernel) (pa_cons (pv 1) pa_nil))))) pss_nil)
      (pss_one (ps_ret (pe_op op_add pe_int (pe_callB (cr_sum rfl) (by rfl) M.sum (by decide +kernel) (pa_cons (pv 1) pa_nil))))))), ?_⟩
  refine ⟨_, rfl, rfl, _, rfl, ?_⟩
  rw [ow_coalesce]
  by_cases h1 : o = .coalesce
  · rw [decide_eq_true h1]
    subst h1
    obtain ⟨n1, n2, rfl⟩ : ∃ k1 k2, ss = [k1, k2] := by
      match ss, hl with
      | [a, b], _ => exact ⟨a, b, rfl⟩
    refine iteT ⟨_, rfl, a, _, _, .int ((n1 : Nat) : Int), rfl, rfl, .of ha, rfl, _, _, rfl, rfl, .inl ⟨by decide, by decide⟩, _, _, rfl, rfl, _, rfl, a, _, _, .int ((n2 : Nat) : Int), rfl, rfl, .of ha, rfl, _, _, rfl, rfl, ?_⟩
    have e : (2 : Int) + 2 * ((n1 : Nat) : Int) + ((n2 : Nat) : Int) = ((opZ .coalesce [n1, n2] : Nat) : Int) := by
      show _ = ((2 + 2 * n1 + n2 : Nat) : Int)
      omega
    show Q (.int ((2 : Int) + 2 * ((n1 : Nat) : Int) + ((n2 : Nat) : Int))) H
    rw [e]
    exact q
  rw [decide_eq_false h1]
  refine iteF ⟨_, rfl, aL, _, rfl, .inr (G.lrg H), rfl, by decide +kernel, ?_⟩
  rw [if_neg Bool.false_ne_true, ow_lrg]
  refine ⟨_, rfl, ?_⟩
  have hs : (ss.map fun n => V.int ((n : Nat) : Int)) = (ss.map fun n => ((n : Nat) : Int)).map V.int := by rw [List.map_map]; rfl
  rw [hs] at ha
  cases hcm : o.lrg with
  | true =>
    have e : opZ o ss = 2 + ss.sum := by cases o <;> first | rfl | cases hcm
    refine iteT ⟨_, rfl, a, _, rfl, .of ha, _, _, rfl, rfl, ?_⟩
    rw [sum_cast]
    rw [e] at q
    show Q (.int ((2 : Int) + ((ss.sum : Nat) : Int))) H
    rw [show (2 : Int) + ((ss.sum : Nat) : Int) = ((2 + ss.sum : Nat) : Int) by omega]
    exact q
  | false =>
    have e : opZ o ss = 1 + ss.sum := by cases o <;> first | rfl | exact absurd rfl h1 | cases hcm
    refine iteF ⟨_, rfl, a, _, rfl, .of ha, _, _, rfl, rfl, ?_⟩
    rw [sum_cast]
    rw [e] at q
    show Q (.int ((1 : Int) + ((ss.sum : Nat) : Int))) H
    rw [show (1 : Int) + ((ss.sum : Nat) : Int) = ((1 + ss.sum : Nat) : Int) by omega]
    exact q
def sp_pf (K : PySem.W.Frag) : Sp := fun vs H Q _ => ∃ (o : Ow) (ps : List PyData) (xs : List V) (a : Addr), vs = [.str o.w, .ref a] ∧ H a = some (.lst xs) ∧ DpAll K H xs ps ∧ ps.length = o.ar ∧ ∀ H' r, Same H H' → Dp K H' (.ref r) (opF o ps) → Q (.ref r) H'
theorem ok_pf {f : Addr} {fd : FuncData} (F : Fun K "plain_form" "plain_form" s_plain_form f fd) (M : Mg mg) (G : Kg K w mg aO aC aE aP aL eO eE eP nO nE nP) : FnOk P w K mg base CX0 1 f fd ["word", "parts"] (sp_pf K) := by
  refine F.ok sc_plain_form (fun vs H Q E h => ?_) (fun cdv A outer s H vs Q E hr h => ?_)
  · obtain ⟨o, ps, xs, a, rfl, _⟩ := h
    rfl
  obtain ⟨o, ps, xs, a, rfl, ha, hd, hl, q⟩ := h
  refine ⟨_, (pss_cons (ps_set (i := 2) sc_plain_form.nd rfl (.inl rfl) (pe_ix (ix_listK K) (pv 1) pe_int (fun _ _ => rfl)))
      (pss_cons (ps_set (i := 3) sc_plain_form.nd rfl (.inl rfl) (pe_ix (ix_listK K) (pv 1) (pe_un un_neg pe_int) (fun _ _ => rfl)))
      (pss_cons (ps_if (pt_cmpR op_eq (pv 0) pe_str (nomark _)) (pss_one (ps_ret (pe_tup (pa_cons pe_str (pa_cons (pe_tup (pa_cons pe_str (pa_cons (pv 3) (pa_cons (pv 2) pa_nil)))) pa_nil))))) pss_nil)
      (pss_cons (ps_if (pt_cmpR op_eq (pv 0) pe_str (nomark _)) (pss_one (ps_ret (pe_tup (pa_cons pe_str (pa_cons (pe_tup (pa_cons pe_str (pa_cons (pv 2) (pa_cons (pv 3) pa_nil)))) pa_nil))))) pss_nil)
      (pss_cons (ps_if (pt_cmpR op_eq (pv 0) pe_str (nomark _)) (pss_one (ps_ret (pe_tup (pa_cons pe_str (pa_cons (pe_tup (pa_cons pe_str (pa_cons (pv 2) (pa_cons (pv 3) pa_nil)))) pa_nil))))) pss_nil)
      (pss_cons (ps_if (pt_cmpR op_eq (pv 0) pe_str (nomark _)) (pss_one (ps_ret (pe_tup (pa_cons pe_str (pa_cons (pv 3) (pa_cons (pv 2) pa_nil)))))) pss_nil)
      (pss_cons (ps_if (pt_cmpR op_eq (pv 0) pe_str (nomark _)) (pss_one (ps_ret (pe_tup (pa_cons pe_str (pa_cons (pe_tup (pa_cons pe_str (pa_cons (pv 2) pa_nil))) (pa_cons (pv 3) (pa_cons (pv 2) pa_nil))))))) pss_nil)
      (pss_one (ps_ret (pe_tup (pa_cons (pe_kget2 (C8.pe_gc (by rfl) G.PLAIN_WORDS) (pv 0) (pv 0) ⟨rfl, rfl, rfl, rfl⟩) (StX.pa_star (pv 1) pa_nil)))))))))))), ?_⟩
  have lx := DpAll.len hd
  have har : o.ar = 1 ∨ o.ar = 2 ∨ o.ar = 3 := by cases o <;> first | exact .inl rfl | exact .inr (.inl rfl) | exact .inr (.inr rfl)
  obtain ⟨x1, xl, h0, hlst⟩ : ∃ x1 xl, atI xs 0 = some x1 ∧ atI xs (-1) = some xl := by
    rcases har with e | e | e <;> rw [e] at hl <;> rw [hl] at lx
    · match xs, lx with
      | [a], _ => exact ⟨a, a, rfl, rfl⟩
    · match xs, lx with
      | [a, b], _ => exact ⟨a, b, rfl, rfl⟩
    · match xs, lx with
      | [a, b, c], _ => exact ⟨a, c, rfl, rfl⟩
  refine ⟨_, rfl, a, _, _, x1, rfl, rfl, .of ha, h0, ?_⟩
  refine ⟨_, rfl, _, rfl, a, _, _, xl, rfl, rfl, .of ha, hlst, ?_⟩
  have two : o.ar = 2 → ∃ p1 p2, ps = [p1, p2] ∧ Dp K H x1 p1 ∧ Dp K H xl p2 := fun e => by
    rw [e] at hl
    match ps, hl with
    | [p1, p2], _ =>
      cases hd with
      | cons g1 g2 =>
        cases g2 with
        | cons g2 g3 =>
          cases g3
          cases (Option.some.inj h0)
          cases (Option.some.inj hlst)
          exact ⟨p1, p2, rfl, g1, g2⟩
  refine ⟨_, rfl, rfl, _, rfl, ?_⟩
  rw [ow_le]
  by_cases h1 : o = .le
  · obtain ⟨p1, p2, rfl, d1, d2⟩ := two (by rw [h1]; rfl)
    rw [decide_eq_true h1]
    rw [h1] at q
    refine iteT ⟨_, rfl, _, rfl, by show 3 ≤ sizeLine; decide, fun p np => ⟨by show 2 ≤ sizeLine; decide, fun r nr => ?_⟩⟩
    have s1 := same_upd np (o := .tup [.str "less", xl, x1])
    have s2 := same_upd nr (o := .tup [.str "not", .ref p])
    exact q _ r (s1.trans s2) (.tup (.of upd_same) (.cons (.str _) (.cons (Dp.ext s2 _ _ (.tup (.of upd_same) (.cons (.str _) (.cons (Dp.ext s1 _ _ d2) (.cons (Dp.ext s1 _ _ d1) .nil))))) .nil)))
  rw [decide_eq_false h1]
  refine iteF ⟨_, rfl, rfl, _, rfl, ?_⟩
  rw [ow_ne]
  by_cases h2 : o = .ne
  · obtain ⟨p1, p2, rfl, d1, d2⟩ := two (by rw [h2]; rfl)
    rw [decide_eq_true h2]
    rw [h2] at q
    refine iteT ⟨_, rfl, _, rfl, by show 3 ≤ sizeLine; decide, fun p np => ⟨by show 2 ≤ sizeLine; decide, fun r nr => ?_⟩⟩
    have s1 := same_upd np (o := .tup [.str "equal", x1, xl])
    have s2 := same_upd nr (o := .tup [.str "not", .ref p])
    exact q _ r (s1.trans s2) (.tup (.of upd_same) (.cons (.str _) (.cons (Dp.ext s2 _ _ (.tup (.of upd_same) (.cons (.str _) (.cons (Dp.ext s1 _ _ d1) (.cons (Dp.ext s1 _ _ d2) .nil))))) .nil)))
  rw [decide_eq_false h2]
  refine iteF ⟨_, rfl, rfl, _, rfl, ?_⟩
  rw [ow_ge]
  by_cases h3 : o = .ge
  · obtain ⟨p1, p2, rfl, d1, d2⟩ := two (by rw [h3]; rfl)
    rw [decide_eq_true h3]
    rw [h3] at q
    refine iteT ⟨_, rfl, _, rfl, by show 3 ≤ sizeLine; decide, fun p np => ⟨by show 2 ≤ sizeLine; decide, fun r nr => ?_⟩⟩
    have s1 := same_upd np (o := .tup [.str "less", x1, xl])
    have s2 := same_upd nr (o := .tup [.str "not", .ref p])
    exact q _ r (s1.trans s2) (.tup (.of upd_same) (.cons (.str _) (.cons (Dp.ext s2 _ _ (.tup (.of upd_same) (.cons (.str _) (.cons (Dp.ext s1 _ _ d1) (.cons (Dp.ext s1 _ _ d2) .nil))))) .nil)))
  rw [decide_eq_false h3]
  refine iteF ⟨_, rfl, rfl, _, rfl, ?_⟩
  rw [ow_gt]
  by_cases h4 : o = .gt
  · obtain ⟨p1, p2, rfl, d1, d2⟩ := two (by rw [h4]; rfl)
    rw [decide_eq_true h4]
    rw [h4] at q
    refine iteT ⟨_, rfl, _, rfl, by show 3 ≤ sizeLine; decide, fun p np => ?_⟩
    have s1 := same_upd np (o := .tup [.str "less", xl, x1])
    exact q _ p s1 (.tup (.of upd_same) (.cons (.str _) (.cons (Dp.ext s1 _ _ d2) (.cons (Dp.ext s1 _ _ d1) .nil))))
  rw [decide_eq_false h4]
  refine iteF ⟨_, rfl, rfl, _, rfl, ?_⟩
  rw [ow_coalesce]
  by_cases h5 : o = .coalesce
  · obtain ⟨p1, p2, rfl, d1, d2⟩ := two (by rw [h5]; rfl)
    rw [decide_eq_true h5]
    rw [h5] at q
    refine iteT ⟨_, rfl, by show 2 ≤ sizeLine; decide, fun p np => ⟨_, rfl, _, rfl, by show 4 ≤ sizeLine; decide, fun r nr => ?_⟩⟩
    have s1 := same_upd np (o := .tup [.str "missing", x1])
    have s2 := same_upd nr (o := .tup [.str "choose", .ref p, xl, x1])
    have s12 := s1.trans s2
    exact q _ r s12 (.tup (.of upd_same) (.cons (.str _) (.cons (Dp.ext s2 _ _ (.tup (.of upd_same) (.cons (.str _) (.cons (Dp.ext s1 _ _ d1) .nil)))) (.cons (Dp.ext s12 _ _ d2) (.cons (Dp.ext s12 _ _ d1) .nil)))))
  rw [decide_eq_false h5]
  refine iteF ?_
  have ef : opF o ps = .tuple (.str (Str.ofString o.plain) :: ps) := by cases o <;> first | rfl | exact absurd rfl h1 | exact absurd rfl h2 | exact absurd rfl h3 | exact absurd rfl h4 | exact absurd rfl h5
  rw [ef] at q
  have hsp : (o.lrg || decide (o = .gt) || decide (o = .coalesce)) = false := by cases o <;> first | rfl | exact absurd rfl h1 | exact absurd rfl h2 | exact absurd rfl h3 | exact absurd rfl h4 | exact absurd rfl h5
  have lxs : (V.str (Str.ofString o.plain) :: (xs ++ [])).length ≤ sizeLine := by
    rw [List.length_cons, List.append_nil, lx, hl]
    rcases har with e | e | e <;> rw [e] <;> decide
  have done : ∀ r, H r = none → Q (.ref r) (upd H r (.tup (.str (Str.ofString o.plain) :: (xs ++ [])))) := fun r nr => by
    have s1 := same_upd nr (o := .tup (.str (Str.ofString o.plain) :: (xs ++ [])))
    rw [List.append_nil] at s1 ⊢
    exact q _ r s1 (.tup (.of upd_same) (.cons (.str _) (DpAll.ext s1 _ _ hd)))
  rcases G.pl o hsp with ⟨u, e1, e2⟩ | ⟨e1, e2⟩
  · exact ⟨aP, eP, nP, rfl, G.PLAIN_WORDS_D, _, rfl, _, rfl, o.w, _, .str (Str.ofString o.plain), rfl, e1, fun u' e => by cases e; exact e2, fun z => (by cases z), _, rfl, a, xs, rfl, .inr (.of ha), lxs, done⟩
  · have ew : V.str o.w = .str (Str.ofString o.plain) := by rw [e2]; rfl
    exact ⟨aP, eP, nP, rfl, G.PLAIN_WORDS_D, _, rfl, _, rfl, o.w, _, .str (Str.ofString o.plain), rfl, e1, fun u' e => (by cases e), fun _ => ew.symm, _, rfl, a, xs, rfl, .inr (.of ha), lxs, done⟩
theorem str_dec (a b : Str) : decide (V.str a = V.str b) = decide (a = b) := by
  rw [Bool.eq_iff_iff, decide_eq_true_iff, decide_eq_true_iff]
  exact ⟨V.str.inj, fun h => by rw [h]⟩
theorem src_eqv (c : Col) (x y : Str) : PyData.eqv (.tuple [srcD c.src, .str c.nm]) (.tuple [.str x, .str y]) = (decide (c.src = some x) && decide (c.nm = y)) := by
  have e : PyData.eqv (.tuple [srcD c.src, .str c.nm]) (.tuple [.str x, .str y]) = (PyData.eqv (srcD c.src) (.str x) && ((c.nm == y) && true)) := by
    simp only [PyData.eqv, PyData.eqvAll]
  rw [e, Bool.and_true]
  have e2 : (c.nm == y) = decide (c.nm = y) := by
    rw [Bool.eq_iff_iff, decide_eq_true_iff]
    exact beq_iff_eq
  rw [e2]
  congr 1
  cases h : c.src with
  | none => rfl
  | some z =>
    show (z == x) = _
    rw [Bool.eq_iff_iff, decide_eq_true_iff]
    exact beq_iff_eq.trans ⟨fun h => by rw [h], fun h => Option.some.inj h⟩
theorem src_sh {c : Col} (h : c.ok) : SeqAt.shaped (.tuple [srcD c.src, .str c.nm]) = true := by
  have h2 := h.2
  cases e : c.src with
  | none => simp [srcD, SeqAt.shaped, PyData.canLay0, PyData.depth, PyData.canLayAll0, PyData.depthAll, h.1]
  | some x => simp [srcD, SeqAt.shaped, PyData.canLay0, PyData.depth, PyData.canLayAll0, PyData.depthAll, h.1, h2 x e]
def sp_in (K : PySem.W.Frag) : Sp := fun vs H Q _ => ∃ (c : Col) (e : Et) (v u : V) (p : Col → Bool), vs = [v, u] ∧ c.ok ∧ e.ok ∧ Dp K H v c.d ∧ Dp K H u e.d ∧ ((∃ x, e = .name x ∧ p = fun c => decide (c.nm = x)) ∨ ∃ x y, e = .field x y ∧ p = fun c => decide (c.src = some x) && decide (c.nm = y)) ∧ ∀ H', Same H H' → Q (.bl (p c)) H'
theorem ok_in {f : Addr} {fd : FuncData} (F : Fun K "is_named" "is_named" s_is_named f fd) (M : Mg mg) : FnOk P w K mg base CX0 1 f fd ["column", "expression"] (sp_in K) := by
  refine F.ok sc_is_named (fun vs H Q E h => ?_) (fun cdv A outer s H vs Q E hr h => ?_)
  · obtain ⟨c, e, v, u, p, rfl, _⟩ := h
    rfl
  obtain ⟨c, e, v, u, p, rfl, hco, heo, hv, hu, hp, q⟩ := h
  refine ⟨_, (pss_cons (ps_asg (pv 0) (pg_tup (by rfl) (pgs_cons (pg_name (i := 2) sc_is_named.nd rfl (.inl rfl)) (pgs_cons (pg_name (i := 3) sc_is_named.nd rfl (.inl rfl)) (pgs_cons (pg_name (i := 4) sc_is_named.nd rfl (.inl rfl)) pgs_nil)))))
      (pss_cons (ps_if (pt_cmpR op_eq (pe_ix (ix_tupK K) (pv 1) pe_int (fun _ _ => rfl)) pe_str (nomark _)) (pss_one (ps_ret (pe_cmpR op_eq (pv 3) (pe_ix (ix_tupK K) (pv 1) pe_int (fun _ _ => rfl)) (nomark _)))) pss_nil)
      (pss_one (ps_ret (pe_cmpR (eqDK K hr.units) (pe_tup (pa_cons (pv 2) (pa_cons (pv 3) pa_nil))) (pe_slice sl_tup (pv 1) (po_some pe_int) po_none) (nomark _)))))), ?_⟩
  obtain ⟨t, xs, rfl, ht, hx⟩ := dp_tup hv
  cases hx with
  | @cons sv _ _ _ g1 g2 =>
  cases g2 with
  | cons g2 g3 =>
  cases g2
  cases g3 with
  | @cons kv _ _ _ g3 g4 =>
  cases g4
  refine ⟨_, rfl, t, _, rfl, ht, rfl, _, _, rfl, _, _, rfl, _, _, rfl, rfl, ?_⟩
  rcases hp with ⟨x, rfl, rfl⟩ | ⟨x, y, rfl, rfl⟩
  · obtain ⟨b, ys, rfl, hb, hy⟩ := dp_tup hu
    cases hy with
    | cons k1 k2 =>
    cases k1
    cases k2 with
    | cons k2 k3 =>
    cases k2
    cases k3
    refine ⟨_, rfl, b, _, _, .str "name", rfl, rfl, hb, rfl, rfl, _, rfl, ?_⟩
    rw [weq]
    refine iteT ⟨_, rfl, _, rfl, b, _, _, .str x, rfl, rfl, hb, rfl, rfl, ?_⟩
    rw [str_dec]
    exact q H fun _ _ h => h
  · obtain ⟨b, ys, rfl, hb, hy⟩ := dp_tup hu
    cases hy with
    | cons k1 k2 =>
    cases k1
    cases k2 with
    | cons k2 k3 =>
    cases k2
    cases k3 with
    | cons k3 k4 =>
    cases k3
    cases k4
    refine ⟨_, rfl, b, _, _, .str "field", rfl, rfl, hb, rfl, rfl, _, rfl, ?_⟩
    rw [wne "field" "name" (by decide)]
    refine iteF ⟨_, rfl, _, rfl, by show 2 ≤ sizeLine; decide, fun p np => ?_⟩
    have s1 := same_upd np (o := .tup [sv, .str c.nm])
    refine ⟨_, rfl, _, rfl, b, _, rfl, SqT.ext s1 hb, by show ¬ (1 = 0 ∧ _); exact fun z => absurd z.1 (by decide), fun p2 np2 => ?_⟩
    have s2 := same_upd np2 (o := .tup [.str x, .str y])
    refine ⟨.tuple [srcD c.src, .str c.nm], .tuple [.str x, .str y], .tup (.of (s2 _ _ upd_same)) (.cons (Dp.ext (s1.trans s2) _ _ g1) (.cons (.str _) .nil)), .tup (.of upd_same) (.cons (.str _) (.cons (.str _) .nil)), src_sh hco, by simp [SeqAt.shaped, PyData.canLay0, PyData.depth, PyData.canLayAll0, PyData.depthAll, heo.2.2.2.1, heo.2.2.2.2], ?_⟩
    rw [src_eqv]
    exact q _ (s1.trans s2)
/-- where a column is named -/
structure Nmd (e : Et) (told : Str) (p : Col → Bool) : Prop where
  k : (∃ x, e = .name x ∧ p = (fun c => decide (c.nm = x)) ∧ told = tld [x]) ∨ ∃ x y, e = .field x y ∧ p = (fun c => decide (c.src = some x) && decide (c.nm = y)) ∧ told = tld [x, y]
  ok : e.ok
def sp_nc (C : Addr) (K : PySem.W.Frag) : Sp := fun vs H Q E => ∃ (ca : Addr) (v : V) (cols : List Col) (ys : List V) (e : Et) (told : Str) (p : Col → Bool), vs = [.ref ca, v] ∧ H ca = some (.lst ys) ∧ DpAll K H ys (cols.map Col.d) ∧ cols.length ≤ 1000 ∧ (∀ c ∈ cols, c.ok) ∧ Dp K H v e.d ∧ Nmd e told p ∧
  (∀ pl k s, namedC cols told p = .ok (pl, k, s) → ∀ H' r, Same H H' → Dp K H' (.ref r) (.tuple [pl, kdD k, .int ((s : Nat) : Int)]) → Q (.ref r) H') ∧ ∀ m, namedC cols told p = .error m → Pf C m E H
theorem plcs_add (cols : List Col) (p : Col → Bool) {i : Nat} {c : Col} (h : cols[i]? = some c) : ((List.range (i + 1)).filter fun i => (cols[i]?.map p).getD false) = ((List.range i).filter fun i => (cols[i]?.map p).getD false) ++ if p c = true then [i] else [] := by
  rw [List.range_succ, List.filter_append]
  congr 1
  rw [List.filter_cons, h]
  rfl
theorem strLen2 {a b : Str} {n m : Nat} (ha : a.length ≤ n) (hb : b.length ≤ m) : (a ++ b).length ≤ n + m := by
  have h := strLen_append a b
  omega
theorem ok_nc {f : Addr} {fd : FuncData} (F : Fun K "named_column" "named_column" s_named_column f fd) (M : Mg mg) (PB : PrbE P w K mg base C) (c_is_named : Cl P w K mg base 1 "is_named" (sp_in K)) : FnOk P w K mg base (L2.CX P w) 3 f fd ["columns", "expression"] (sp_nc C K) := by
  refine F.okX sc_named_column (fun vs H Q E h => ?_) (fun cdv A outer s H vs Q E hr h => ?_)
  · obtain ⟨ca, v, cols, ys, e, told, p, rfl, _⟩ := h
    rfl
  obtain ⟨ca, v, cols, ys, e, told, p, rfl, hca, hcs, hc1, hco, hv, hn, q, fl⟩ := h
  refine ⟨_, (pss_cons (ps_set (i := 2) sc_named_column.nd rfl (.inl rfl) (pe_join pe_str (pe_slice sl_tup (pv 1) (po_some pe_int) po_none)))
      (pss_cons (ps_setLc (i := 3) (own := [("at", 6), ("column", 7)]) (g := gTup K 2 (gCons (gName 6) (gCons (gName 7) (gNil)))) rfl sc_named_column.nd rfl rfl (sw_true rfl rfl rfl (by decide +kernel)) (pi_enum (by rfl) M.enumerate (pa_cons (pv 0) pa_nil)) (blkOk_by (N := N_named_column) (sc := defScope s_named_column) (by decide +kernel)) (fun _ _ _ _ _ => (pg_tup (by rfl) (pgs_cons (pg_name (i := 6) sc_named_column.nd rfl (.inl rfl)) (pgs_cons (pg_name (i := 7) sc_named_column.nd rfl (.inl rfl)) pgs_nil)))) (fun _ _ _ _ _ => (pts_one (pt_val (pe_u c_is_named hr (by first | decide | omega) (by rfl) (pa_cons (pv 7) (pa_cons (pv 1) pa_nil)))))) (fun _ _ _ _ _ => (pv 6)))
      (pss_cons (ps_if (pt_not (pt_truthK K (pv 3) (by intro _; rfl))) (pss_one (ps_raiseM PB rfl (takes_of rfl rfl rfl rfl) hr (by first | decide | omega) (by rfl) (pa_cons (pe_joined (.cons pe_str (.cons (pe_fmt (pv 2)) .nil))) pa_nil))) pss_nil)
      (pss_cons (ps_if (pt_cmpR op_gt (pe_callB (len_seqK K) (by rfl) M.len PySem.boot_len (pa_cons (pv 3) pa_nil)) pe_int (nomark _)) (pss_one (ps_raiseM PB rfl (takes_of rfl rfl rfl rfl) hr (by first | decide | omega) (by rfl) (pa_cons (pe_joined (.cons pe_str (.cons (pe_fmt (pv 2)) .nil))) pa_nil))) pss_nil)
      (pss_cons (ps_asg (pe_ix (ix_listK K) (pv 0) (pe_ix (ix_listK K) (pv 3) pe_int (fun _ _ => rfl)) (fun _ _ => rfl)) (pg_tup (by rfl) (pgs_cons (pg_name (i := 4) sc_named_column.nd rfl (.inl rfl)) (pgs_cons (pg_name (i := 4) sc_named_column.nd rfl (.inl rfl)) (pgs_cons (pg_name (i := 5) sc_named_column.nd rfl (.inl rfl)) pgs_nil)))))
      (pss_one (ps_ret (pe_tup (pa_cons (pe_tup (pa_cons pe_str (pa_cons (pe_ix (ix_listK K) (pv 3) pe_int (fun _ _ => rfl)) pa_nil))) (pa_cons (pv 5) (pa_cons pe_int pa_nil))))))))))), ?_⟩
  have hlen : told.length ≤ 900 := by
    rcases hn with ⟨⟨x, rfl, _, rfl⟩ | ⟨x, y, rfl, _, rfl⟩, ok⟩
    · exact ok.2.1
    · exact ok.2.2.1
  obtain ⟨b, w0, parts, rfl, hb, hparts, h10⟩ : ∃ b w0 parts, v = .ref b ∧ SqT K H b (w0 :: parts.map V.str) ∧ Txt.join (Str.ofString ".") parts = told ∧ (parts.map (·.length)).sum + parts.length * 1 ≤ 1000 := by
    obtain ⟨b, zs, rfl, hb, hz⟩ : ∃ b zs, v = .ref b ∧ SqT K H b zs ∧ True := by
      rcases hn with ⟨⟨x, rfl, _, rfl⟩ | ⟨x, y, rfl, _, rfl⟩, ok⟩
      · obtain ⟨b, zs, h1, h2, _⟩ := dp_tup hv
        exact ⟨b, zs, h1, h2, trivial⟩
      · obtain ⟨b, zs, h1, h2, _⟩ := dp_tup hv
        exact ⟨b, zs, h1, h2, trivial⟩
    clear hz
    rcases hn with ⟨⟨x, rfl, _, rfl⟩ | ⟨x, y, rfl, _, rfl⟩, ok⟩
    · obtain ⟨b', zs', e1, h2, hy⟩ := dp_tup hv
      cases e1
      cases hy with
      | cons k1 k2 =>
      cases k1
      cases k2 with
      | cons k2 k3 =>
      cases k2
      cases k3
      refine ⟨b, .str "name", [x], rfl, h2, rfl, ?_⟩
      have := ok.1
      show x.length + 0 + 1 * 1 ≤ 1000
      omega
    · obtain ⟨b', zs', e1, h2, hy⟩ := dp_tup hv
      cases e1
      cases hy with
      | cons k1 k2 =>
      cases k1
      cases k2 with
      | cons k2 k3 =>
      cases k2
      cases k3 with
      | cons k3 k4 =>
      cases k3
      cases k4
      refine ⟨b, .str "field", [x, y], rfl, h2, rfl, ?_⟩
      have := ok.1
      have := ok.2.1
      show x.length + (y.length + 0) + 2 * 1 ≤ 1000
      omega
  have hcut : cutV (w0 :: parts.map V.str) (some 1) none = parts.map V.str := by
    show ((w0 :: parts.map V.str).drop 1).take ((parts.map V.str).length + 1 - 1) = parts.map V.str
    rw [Nat.add_sub_cancel, List.drop_one, List.tail_cons, List.take_length]
  have hsl : (1000 : Nat) ≤ sizeLine := by decide
  refine ⟨⟨_, rfl⟩, _, rfl, _, rfl, b, _, rfl, hb, by show ¬ (1 = 0 ∧ _); exact fun z => absurd z.1 (by decide), fun p1 np1 => ?_⟩
  rw [hcut]
  have s1 := same_upd np1 (o := .tup (parts.map V.str))
  have hT : SqT K (upd H p1 (.tup (parts.map V.str))) p1 (parts.map V.str) := .of upd_same
  generalize upd H p1 (.tup (parts.map V.str)) = H1 at s1 hT ⊢
  refine ⟨_, p1, parts, rfl, rfl, .inr hT, by
    have : (Str.ofString ".").length = 1 := by decide
    rw [this]
    omega, ?_⟩
  rw [hparts]
  have lys : ys.length = cols.length := by rw [DpAll.len hcs, List.length_map]
  have hca1 := s1 _ _ hca
  refine ⟨_, rfl, ca, ys, rfl, .of hca1, fun D nD => ?_⟩
  refine lc_enum (K := K) (a := ca) (xs := ys) (fun i Hi => Same H1 Hi ∧ Hi D = some (.lst (((List.range i).filter fun i => (cols[i]?.map p).getD false).map fun n => V.int ((n : Nat) : Int)))) ⟨same_upd nD, upd_same⟩ (fun i Hi _ hp => .of (hp.1 _ _ hca1)) (fun i y Hi T hy hp nT => ?_) (fun HE hp => ?_)
  · obtain ⟨si, eD⟩ := hp
    have hi : i < cols.length := by rw [← lys]; exact (List.getElem?_eq_some_iff.mp hy).1
    have hc := List.getElem?_eq_getElem hi
    obtain ⟨z, hz, hE⟩ := DpAll.get (i := i) (d := (cols[i]).d) hcs (by rw [List.getElem?_map, hc]; rfl)
    obtain rfl : z = y := Option.some.inj (hz.symm.trans hy)
    have padd := plcs_add cols p hc
    have hok := hco _ (List.getElem_mem hi)
    generalize cols[i] = c at hc hE padd hok
    have sT := same_upd nT (o := .tup [.int ((i : Nat) : Int), z])
    have s1T := (s1.trans si).trans sT
    refine ⟨T, _, rfl, .of upd_same, rfl, _, _, rfl, _, _, rfl, rfl, rfl, ?_⟩
    refine ⟨_, rfl, _, rfl, c, e, z, .ref b, p, rfl, hok, hn.ok, Dp.ext s1T _ _ hE, Dp.ext s1T _ _ hv, ?_, fun H' s' => ⟨_, rfl, ?_⟩⟩
    · rcases hn.k with ⟨x, e1, e2, _⟩ | ⟨x, y, e1, e2, _⟩
      · exact .inl ⟨x, e1, e2⟩
      · exact .inr ⟨x, y, e1, e2⟩
    have eD' := s' _ _ (sT _ _ eD)
    rw [padd]
    cases hpc : p c with
    | false =>
      refine iteF ⟨(si.trans sT).trans s', ?_⟩
      rw [if_neg Bool.false_ne_true, List.append_nil]
      exact eD'
    | true =>
      refine iteT ⟨_, rfl, _, eD', ?_, fun b o hb => ?_, ?_⟩
      · rw [List.length_map]
        have := List.length_filter_le (fun i => (cols[i]?.map p).getD false) (List.range i)
        rw [List.length_range] at this
        exact Nat.lt_of_le_of_lt (m := 1000) (by omega) (by decide)
      · rw [upd_ne (ne_of_none hb nD)]
        exact s' _ _ (sT _ _ (si _ _ hb))
      · rw [upd_same, if_pos rfl, List.map_append]
        rfl
  obtain ⟨sE, eD⟩ := hp
  rw [lys] at eD
  have eD : HE D = some (.lst ((plcs cols p).map fun n => V.int ((n : Nat) : Int))) := eD
  have s2 := s1.trans sE
  have hcaE := s2 _ _ hca
  have lenD : (plcs cols p).length ≤ 1000 := by
    have := List.length_filter_le (fun i => (cols[i]?.map p).getD false) (List.range cols.length)
    rw [List.length_range] at this
    exact Nat.le_trans this hc1
  refine ⟨_, rfl, _, .inl ⟨_, .of eD, rfl⟩, ?_⟩
  have enc : namedC cols told p = (match plcs cols p with
    | [] => .error ((Str.empty ++ Str.ofString "unknown name: ") ++ told)
    | [i] => .ok (.tuple [.str "column", .int (i : Nat)], (cols[i]?.map (·.kd)).getD none, 1)
    | _ => .error ((Str.empty ++ Str.ofString "ambiguous name: ") ++ told)) := rfl
  have u1 : (Str.empty ++ Str.ofString "unknown name: ").length ≤ 20 := by decide +kernel
  have u2 : (Str.empty ++ Str.ofString "ambiguous name: ").length ≤ 20 := by decide +kernel
  have mem : ∀ i ∈ plcs cols p, i < cols.length := fun i hi => List.mem_range.mp (List.mem_filter.mp hi).1
  cases hpl : plcs cols p with
  | nil =>
    rw [hpl] at enc
    refine iteT ⟨_, rfl, Nat.le_trans u1 (by decide), _, rfl, .inl ⟨told, rfl, by omega, _, rfl, ?_, ?_⟩⟩
    · have := strLen2 u1 hlen
      omega
    · refine ⟨_, rfl, ?_, fun d H' nd s' e' => (fl _ enc).ext s2 d H' nd s' e'⟩
      have := strLen2 u1 hlen
      omega
  | cons i l =>
    rw [hpl] at eD lenD mem
    refine iteF ?_
    refine ⟨_, rfl, D, _, rfl, .inl (.of eD), _, _, rfl, rfl, _, rfl, ?_⟩
    rw [List.length_map]
    cases l with
    | cons j l =>
      rw [hpl] at enc
      rw [decide_eq_true (show (1 : Int) < (((i :: j :: l).length : Nat) : Int) by rw [List.length_cons, List.length_cons]; omega)]
      refine iteT ⟨_, rfl, Nat.le_trans u2 (by decide), _, rfl, .inl ⟨told, rfl, by omega, _, rfl, ?_, ?_⟩⟩
      · have := strLen2 u2 hlen
        omega
      · refine ⟨_, rfl, ?_, fun d H' nd s' e' => (fl _ enc).ext s2 d H' nd s' e'⟩
        have := strLen2 u2 hlen
        omega
    | nil =>
      rw [hpl] at enc
      refine iteF ?_
      have hi := mem i List.mem_cons_self
      have hc := List.getElem?_eq_getElem hi
      obtain ⟨z, hz, hE⟩ := DpAll.get (i := i) (d := (cols[i]).d) hcs (by rw [List.getElem?_map, hc]; rfl)
      have enc : namedC cols told p = .ok (.tuple [.str "column", .int (i : Nat)], (cols[i]?.map (·.kd)).getD none, 1) := enc
      rw [hc] at enc
      generalize cols[i] = c at hc hE enc
      obtain ⟨t, xs, rfl, ht, hx⟩ := dp_tup hE
      cases hx with
      | @cons sv _ _ _ g1 g2 =>
      cases g2 with
      | cons g2 g3 =>
      cases g2
      cases g3 with
      | @cons kv _ _ _ g3 g4 =>
      cases g4
      refine ⟨_, rfl, _, rfl, D, _, _, .int ((i : Nat) : Int), rfl, rfl, .of eD, rfl, ca, _, _, .ref t, rfl, rfl, .of hcaE, atI_nat hz, t, _, rfl, SqT.ext s2 ht, rfl, _, _, rfl, _, _, rfl, _, _, rfl, rfl, ?_⟩
      refine ⟨_, rfl, D, _, _, .int ((i : Nat) : Int), rfl, rfl, .of eD, rfl, by show 2 ≤ sizeLine; decide, fun p3 np3 => ⟨_, rfl, by show 3 ≤ sizeLine; decide, fun r nr => ?_⟩⟩
      have s3 := same_upd np3 (o := .tup [.str "column", .int ((i : Nat) : Int)])
      have s4 := same_upd nr (o := .tup [.ref p3, kv, .int 1])
      have s34 := s3.trans s4
      exact q _ _ _ enc _ r (s2.trans s34) (.tup (.of upd_same) (.cons (Dp.ext s4 _ _ (.tup (.of upd_same) (.cons (.str _) (.cons (.int _) .nil)))) (.cons (Dp.ext (s2.trans s34) _ _ g3) (.cons (.int _) .nil))))
end

/-! ### written_out, compile_expression -/
def sp_wo (C : Addr) (K : PySem.W.Frag) (n : Nat) : Sp := fun vs H Q E => ∃ (ca : Addr) (v : V) (cols : List Col) (ys : List V) (e : Et), vs = [.ref ca, v] ∧ H ca = some (.lst ys) ∧ DpAll K H ys (cols.map Col.d) ∧ cols.length ≤ 1000 ∧ (∀ c ∈ cols, c.ok) ∧ Dp K H v e.d ∧ e.ok ∧ e.ht < n ∧
  (∀ r, comp cols e = .ok r → ∀ H' x, Same H H' → Dp K H' (.ref x) (crD r) → Q (.ref x) H') ∧ ∀ m, comp cols e = .error m → Pf C m E H
section
variable {P : Program} {w : World} {K : PySem.W.Frag} {mg : Str → Option Value} {base : Heap} {C : Addr} {aO aC aE aP aL : Addr} {eO eE eP : Array DictEntry} {nO nE nP : Nat}
set_option maxHeartbeats 2000000 in
theorem ok_wo (n : Nat) {f : Addr} {fd : FuncData} (F : Fun K "written_out" "written_out" s_written_out f fd) (M : Mg mg) (PB : PrbE P w K mg base C) (cx_named_column : ClX P w K mg base 3 "named_column" (sp_nc C K)) (cx_written_out : ClX P w K mg base (n + 5) "written_out" (sp_wo C K n)) (cx_result_kind : ClX P w K mg base 4 "result_kind" (sp_rk C)) (c_plain_form : Cl P w K mg base 1 "plain_form" (sp_pf K)) (c_result_size : Cl P w K mg base 1 "result_size" sp_rz) : FnOk P w K mg base (L2.CX P w) (n + 6) f fd ["columns", "expression"] (sp_wo C K (n + 1)) := by
  refine F.okX sc_written_out (fun vs H Q E h => ?_) (fun cdv A outer s H vs Q E hr h => ?_)
  · obtain ⟨ca, v, cols, ys, e, rfl, _⟩ := h
    rfl
  obtain ⟨ca, v, cols, ys, e, rfl, hca, hcs, hc1, hco, hv, hok, hht, q, fl⟩ := h
  refine ⟨_, (pss_cons (ps_set (i := 2) sc_written_out.nd rfl (.inl rfl) (pe_ix (ix_tupK K) (pv 1) pe_int (fun _ _ => rfl)))
      (pss_cons (ps_if (pt_cmpR (inK K) (pv 2) (pe_tup (pa_cons pe_str (pa_cons pe_str pa_nil))) (by rfl)) (pss_one (ps_ret (pe_ux cx_named_column hr (by first | decide | omega) (E := E) (passX (takes_of rfl rfl rfl rfl)) (by rfl) (pa_cons (pv 0) (pa_cons (pv 1) pa_nil))))) pss_nil)
      (pss_cons (ps_if (pt_cmpR op_eq (pv 2) pe_str (nomark _)) (pss_one (ps_ret (pe_tup (pa_cons (pe_tup (pa_cons pe_str (pa_cons pe_non pa_nil))) (pa_cons pe_non (pa_cons pe_int pa_nil)))))) pss_nil)
      (pss_cons (ps_if (pt_cmpR op_eq (pv 2) pe_str (nomark _)) (pss_one (ps_ret (pe_tup (pa_cons (pe_tup (pa_cons pe_str (pa_cons (pe_ix (ix_tupK K) (pv 1) pe_int (fun _ _ => rfl)) pa_nil))) (pa_cons pe_str (pa_cons pe_int pa_nil)))))) pss_nil)
      (pss_cons (ps_if (pt_cmpR (inK K) (pv 2) (pe_tup (pa_cons pe_str (pa_cons pe_str pa_nil))) (by rfl)) (pss_one (ps_ret (pe_tup (pa_cons (pe_tup (pa_cons pe_str (pa_cons (pe_ix (ix_tupK K) (pv 1) pe_int (fun _ _ => rfl)) pa_nil))) (pa_cons (pv 2) (pa_cons pe_int pa_nil)))))) pss_nil)
      (pss_cons (ps_setLcx (E := E) (i := 3) (own := [("part", 6)]) (g := gName 6) (tt := tYes) rfl sc_written_out.nd rfl rfl (takes_of rfl rfl rfl rfl) rfl rfl (sw_true rfl rfl rfl (by decide +kernel)) (pi_tup (pe_slice sl_tup (pv 1) (po_some pe_int) po_none)) (blkOk_by (N := N_written_out) (sc := defScope s_written_out) (by decide +kernel)) (fun _ _ _ _ _ _ => (pg_name (i := 6) sc_written_out.nd rfl (.inl rfl))) (fun _ _ _ _ _ _ => pts_nil) (fun _ _ _ _ _ _ px => (pe_ux cx_written_out hr (by first | decide | omega) (E := E) px (by rfl) (pa_cons (pv 0) (pa_cons (pv 6) pa_nil)))))
      (pss_cons (ps_set (i := 4) sc_written_out.nd rfl (.inl rfl) (pe_ux cx_result_kind hr (by first | decide | omega) (E := E) (passX (takes_of rfl rfl rfl rfl)) (by rfl) (pa_cons (pv 2) (pa_cons (pe_lc (own := [("_", 7), ("kind", 8), ("_", 7)]) (g := gTup K 3 (gCons (gName 7) (gCons (gName 8) (gCons (gName 7) (gNil))))) (tt := tYes) rfl sc_written_out.nd (pi_list (pv 3)) (blkOk_by (N := N_written_out) (sc := defScope s_written_out) (by decide +kernel)) (fun _ _ _ _ _ => (pg_tup (by rfl) (pgs_cons (pg_name (i := 7) sc_written_out.nd rfl (.inl rfl)) (pgs_cons (pg_name (i := 8) sc_written_out.nd rfl (.inl rfl)) (pgs_cons (pg_name (i := 7) sc_written_out.nd rfl (.inl rfl)) pgs_nil))))) (fun _ _ _ _ _ => pts_nil) (fun _ _ _ _ _ => (pv 8))) pa_nil))))
      (pss_cons (ps_set (i := 5) sc_written_out.nd rfl (.inl rfl) (pe_u c_plain_form hr (by first | decide | omega) (by rfl) (pa_cons (pv 2) (pa_cons (pe_lc (own := [("plain", 9), ("_", 7), ("_", 7)]) (g := gTup K 3 (gCons (gName 9) (gCons (gName 7) (gCons (gName 7) (gNil))))) (tt := tYes) rfl sc_written_out.nd (pi_list (pv 3)) (blkOk_by (N := N_written_out) (sc := defScope s_written_out) (by decide +kernel)) (fun _ _ _ _ _ => (pg_tup (by rfl) (pgs_cons (pg_name (i := 9) sc_written_out.nd rfl (.inl rfl)) (pgs_cons (pg_name (i := 7) sc_written_out.nd rfl (.inl rfl)) (pgs_cons (pg_name (i := 7) sc_written_out.nd rfl (.inl rfl)) pgs_nil))))) (fun _ _ _ _ _ => pts_nil) (fun _ _ _ _ _ => (pv 9))) pa_nil))))
      (pss_one (ps_ret (pe_tup (pa_cons (pv 5) (pa_cons (pv 4) (pa_cons (pe_u c_result_size hr (by first | decide | omega) (by rfl) (pa_cons (pv 2) (pa_cons (pe_lc (own := [("_", 7), ("_", 7), ("size", 10)]) (g := gTup K 3 (gCons (gName 7) (gCons (gName 7) (gCons (gName 10) (gNil))))) (tt := tYes) rfl sc_written_out.nd (pi_list (pv 3)) (blkOk_by (N := N_written_out) (sc := defScope s_written_out) (by decide +kernel)) (fun _ _ _ _ _ => (pg_tup (by rfl) (pgs_cons (pg_name (i := 7) sc_written_out.nd rfl (.inl rfl)) (pgs_cons (pg_name (i := 7) sc_written_out.nd rfl (.inl rfl)) (pgs_cons (pg_name (i := 10) sc_written_out.nd rfl (.inl rfl)) pgs_nil))))) (fun _ _ _ _ _ => pts_nil) (fun _ _ _ _ _ => (pv 10))) pa_nil))) pa_nil)))))))))))))), ?_⟩
  rcases op_view cols e hok with ⟨i, rfl⟩ | ⟨x, rfl⟩ | ⟨i, rfl⟩ | rfl | ⟨told, p, ⟨x, rfl, hp, ht⟩, hcm⟩ | ⟨told, p, ⟨x, y, rfl, hp, ht⟩, hcm⟩ | ⟨o, kids, hd, hl, hcm, hk⟩
  · obtain ⟨b, xs, rfl, hb, hx⟩ := dp_tup hv
    cases hx with
    | cons k1 k2 =>
    cases k1
    cases k2 with
    | cons k2 k3 =>
    cases k2
    cases k3
    refine ⟨_, rfl, b, _, _, .str "number", rfl, rfl, hb, rfl, ?_⟩
    refine ⟨_, rfl, by show 2 ≤ sizeLine; decide, fun p0 np0 => ⟨p0, _, rfl, .inr (.of upd_same), rfl, rfl, ?_⟩⟩
    have s0 := same_upd np0 (o := .tup [.str "name", .str "field"])
    rw [if_neg Bool.false_ne_true, show inV (.str "number") [.str "name", .str "field"] = false by decide +kernel]
    refine ⟨_, rfl, iteF ⟨_, rfl, rfl, _, rfl, ?_⟩⟩
    rw [wne "number" "null" (by decide)]
    refine iteF ⟨_, rfl, rfl, _, rfl, ?_⟩
    rw [weq]
    refine iteT ⟨_, rfl, b, _, _, .int i, rfl, rfl, SqT.ext s0 hb, rfl, by show 2 ≤ sizeLine; decide, fun p1 np1 => ⟨by show 3 ≤ sizeLine; decide, fun r nr => ?_⟩⟩
    have s1 := same_upd np1 (o := .tup [.str "constant", .int i])
    have s2 := same_upd nr (o := .tup [.ref p1, .str "int", .int 1])
    exact q _ rfl _ r ((s0.trans s1).trans s2) (.tup (.of upd_same) (.cons (Dp.ext s2 _ _ (.tup (.of upd_same) (.cons (.str _) (.cons (.int _) .nil)))) (.cons (.str _) (.cons (.int _) .nil))))
  · obtain ⟨b, xs, rfl, hb, hx⟩ := dp_tup hv
    cases hx with
    | cons k1 k2 =>
    cases k1
    cases k2 with
    | cons k2 k3 =>
    cases k2
    cases k3
    refine ⟨_, rfl, b, _, _, .str "text", rfl, rfl, hb, rfl, ?_⟩
    refine ⟨_, rfl, by show 2 ≤ sizeLine; decide, fun p0 np0 => ⟨p0, _, rfl, .inr (.of upd_same), rfl, rfl, ?_⟩⟩
    have s0 := same_upd np0 (o := .tup [.str "name", .str "field"])
    rw [if_neg Bool.false_ne_true, show inV (.str "text") [.str "name", .str "field"] = false by decide +kernel]
    refine ⟨_, rfl, iteF ⟨_, rfl, rfl, _, rfl, ?_⟩⟩
    rw [wne "text" "null" (by decide)]
    refine iteF ⟨_, rfl, rfl, _, rfl, ?_⟩
    rw [wne "text" "number" (by decide)]
    refine iteF ⟨_, rfl, by show 2 ≤ sizeLine; decide, fun p3 np3 => ⟨p3, _, rfl, .inr (.of upd_same), rfl, rfl, ?_⟩⟩
    have s3 := same_upd np3 (o := .tup [.str "text", .str "truth"])
    rw [if_neg Bool.false_ne_true, show inV (.str "text") [.str "text", .str "truth"] = true by decide +kernel]
    refine ⟨_, rfl, iteT ⟨_, rfl, b, _, _, .str x, rfl, rfl, SqT.ext (s0.trans s3) hb, rfl, by show 2 ≤ sizeLine; decide, fun p1 np1 => ⟨_, rfl, by show 3 ≤ sizeLine; decide, fun r nr => ?_⟩⟩⟩
    have s1 := same_upd np1 (o := .tup [.str "constant", .str x])
    have s2 := same_upd nr (o := .tup [.ref p1, .str "text", .int 1])
    exact q _ rfl _ r (((s0.trans s3).trans s1).trans s2) (.tup (.of upd_same) (.cons (Dp.ext s2 _ _ (.tup (.of upd_same) (.cons (.str _) (.cons (.str _) .nil)))) (.cons (.str _) (.cons (.int _) .nil))))
  · obtain ⟨b, xs, rfl, hb, hx⟩ := dp_tup hv
    cases hx with
    | cons k1 k2 =>
    cases k1
    cases k2 with
    | cons k2 k3 =>
    cases k2
    cases k3
    refine ⟨_, rfl, b, _, _, .str "truth", rfl, rfl, hb, rfl, ?_⟩
    refine ⟨_, rfl, by show 2 ≤ sizeLine; decide, fun p0 np0 => ⟨p0, _, rfl, .inr (.of upd_same), rfl, rfl, ?_⟩⟩
    have s0 := same_upd np0 (o := .tup [.str "name", .str "field"])
    rw [if_neg Bool.false_ne_true, show inV (.str "truth") [.str "name", .str "field"] = false by decide +kernel]
    refine ⟨_, rfl, iteF ⟨_, rfl, rfl, _, rfl, ?_⟩⟩
    rw [wne "truth" "null" (by decide)]
    refine iteF ⟨_, rfl, rfl, _, rfl, ?_⟩
    rw [wne "truth" "number" (by decide)]
    refine iteF ⟨_, rfl, by show 2 ≤ sizeLine; decide, fun p3 np3 => ⟨p3, _, rfl, .inr (.of upd_same), rfl, rfl, ?_⟩⟩
    have s3 := same_upd np3 (o := .tup [.str "text", .str "truth"])
    rw [if_neg Bool.false_ne_true, show inV (.str "truth") [.str "text", .str "truth"] = true by decide +kernel]
    refine ⟨_, rfl, iteT ⟨_, rfl, b, _, _, .int i, rfl, rfl, SqT.ext (s0.trans s3) hb, rfl, by show 2 ≤ sizeLine; decide, fun p1 np1 => ⟨_, rfl, by show 3 ≤ sizeLine; decide, fun r nr => ?_⟩⟩⟩
    have s1 := same_upd np1 (o := .tup [.str "constant", .int i])
    have s2 := same_upd nr (o := .tup [.ref p1, .str "truth", .int 1])
    exact q _ rfl _ r (((s0.trans s3).trans s1).trans s2) (.tup (.of upd_same) (.cons (Dp.ext s2 _ _ (.tup (.of upd_same) (.cons (.str _) (.cons (.int _) .nil)))) (.cons (.str _) (.cons (.int _) .nil))))
  · obtain ⟨b, xs, rfl, hb, hx⟩ := dp_tup hv
    cases hx with
    | cons k1 k2 =>
    cases k1
    cases k2
    refine ⟨_, rfl, b, _, _, .str "null", rfl, rfl, hb, rfl, ?_⟩
    refine ⟨_, rfl, by show 2 ≤ sizeLine; decide, fun p0 np0 => ⟨p0, _, rfl, .inr (.of upd_same), rfl, rfl, ?_⟩⟩
    have s0 := same_upd np0 (o := .tup [.str "name", .str "field"])
    rw [if_neg Bool.false_ne_true, show inV (.str "null") [.str "name", .str "field"] = false by decide +kernel]
    refine ⟨_, rfl, iteF ⟨_, rfl, rfl, _, rfl, ?_⟩⟩
    rw [weq]
    refine iteT ⟨by show 2 ≤ sizeLine; decide, fun p1 np1 => ⟨by show 3 ≤ sizeLine; decide, fun r nr => ?_⟩⟩
    have s1 := same_upd np1 (o := .tup [.str "constant", .non])
    have s2 := same_upd nr (o := .tup [.ref p1, .non, .int 1])
    exact q _ rfl _ r ((s0.trans s1).trans s2) (.tup (.of upd_same) (.cons (Dp.ext s2 _ _ (.tup (.of upd_same) (.cons (.str _) (.cons .non .nil)))) (.cons .non (.cons (.int _) .nil))))
  · obtain ⟨b, xs, rfl, hb, hx⟩ := dp_tup hv
    cases hx with
    | cons k1 k2 =>
    cases k1
    refine ⟨_, rfl, b, _, _, .str "name", rfl, rfl, hb, atI_nat (j := 0) rfl, ?_⟩
    refine ⟨_, rfl, by show 2 ≤ sizeLine; decide, fun p0 np0 => ⟨p0, _, rfl, .inr (.of upd_same), rfl, rfl, ?_⟩⟩
    have s0 := same_upd np0 (o := .tup [.str "name", .str "field"])
    rw [if_neg Bool.false_ne_true, show inV (.str "name") [.str "name", .str "field"] = true by decide +kernel]
    exact ⟨_, rfl, iteT ⟨_, rfl, _, rfl, ca, .ref b, cols, ys, .name x, told, p, rfl, s0 _ _ hca, DpAll.ext s0 _ _ hcs, hc1, hco, Dp.ext s0 _ _ hv, ⟨.inl ⟨x, rfl, hp, ht⟩, hok⟩, fun pl k s e H' r s' d => q _ (hcm.trans e) H' r (s0.trans s') d, fun m e => (fl m (hcm.trans e)).ext s0⟩⟩
  · obtain ⟨b, xs, rfl, hb, hx⟩ := dp_tup hv
    cases hx with
    | cons k1 k2 =>
    cases k1
    refine ⟨_, rfl, b, _, _, .str "field", rfl, rfl, hb, atI_nat (j := 0) rfl, ?_⟩
    refine ⟨_, rfl, by show 2 ≤ sizeLine; decide, fun p0 np0 => ⟨p0, _, rfl, .inr (.of upd_same), rfl, rfl, ?_⟩⟩
    have s0 := same_upd np0 (o := .tup [.str "name", .str "field"])
    rw [if_neg Bool.false_ne_true, show inV (.str "field") [.str "name", .str "field"] = true by decide +kernel]
    exact ⟨_, rfl, iteT ⟨_, rfl, _, rfl, ca, .ref b, cols, ys, .field x y, told, p, rfl, s0 _ _ hca, DpAll.ext s0 _ _ hcs, hc1, hco, Dp.ext s0 _ _ hv, ⟨.inr ⟨x, y, rfl, hp, ht⟩, hok⟩, fun pl k s e H' r s' d => q _ (hcm.trans e) H' r (s0.trans s') d, fun m e => (fl m (hcm.trans e)).ext s0⟩⟩
  · rw [hd] at hv
    obtain ⟨b, xs, rfl, hb, hx⟩ := dp_tup hv
    cases hx with
    | @cons _ zs _ _ k1 k2 =>
    cases k1
    refine ⟨_, rfl, b, _, _, .str o.w, rfl, rfl, hb, atI_nat (j := 0) rfl, ?_⟩
    refine ⟨_, rfl, by show 2 ≤ sizeLine; decide, fun p0 np0 => ⟨p0, _, rfl, .inr (.of upd_same), rfl, rfl, ?_⟩⟩
    have s0 := same_upd np0 (o := .tup [.str "name", .str "field"])
    rw [if_neg Bool.false_ne_true, ow_names]
    refine ⟨_, rfl, iteF ⟨_, rfl, rfl, _, rfl, ?_⟩⟩
    rw [ow_null]
    refine iteF ⟨_, rfl, rfl, _, rfl, ?_⟩
    rw [ow_number]
    refine iteF ⟨_, rfl, by show 2 ≤ sizeLine; decide, fun p3 np3 => ⟨p3, _, rfl, .inr (.of upd_same), rfl, rfl, ?_⟩⟩
    have s3 := same_upd np3 (o := .tup [.str "text", .str "truth"])
    rw [if_neg Bool.false_ne_true, ow_texts]
    refine ⟨_, rfl, iteF ?_⟩
    have s03 := s0.trans s3
    generalize upd (upd H p0 (.tup [.str "name", .str "field"])) p3 (.tup [.str "text", .str "truth"]) = H1 at s03 ⊢
    clear s0 s3
    have lz : zs.length = kids.length := by rw [DpAll.len k2, List.length_map]
    have hcut : cutV (V.str o.w :: zs) (some 1) none = zs := by
      show ((V.str o.w :: zs).drop 1).take (zs.length + 1 - 1) = zs
      rw [Nat.add_sub_cancel, List.drop_one, List.tail_cons, List.take_length]
    refine ⟨_, rfl, _, rfl, b, _, rfl, SqT.ext s03 hb, by show ¬ (1 = 0 ∧ _); exact fun z => absurd z.1 (by decide), fun D1 nD1 => ?_⟩
    rw [hcut]
    have s1 := same_upd nD1 (o := .tup zs)
    have hT : SqT K (upd H1 D1 (.tup zs)) D1 zs := .of upd_same
    generalize upd H1 D1 (.tup zs) = H2 at s1 hT ⊢
    have s02 := s03.trans s1
    refine ⟨D1, rfl, ⟨_, hT⟩, fun D nD => ?_⟩
    refine lc_tup (K := K) (a := D1) (xs := zs) (fun i Hi => Same H2 Hi ∧ ∃ (rs : List Cr) (us : List V), Hi D = some (.lst us) ∧ DpAll K Hi us (rs.map crD) ∧ seqE ((kids.take i).map (comp cols)) = .ok rs) ⟨same_upd nD, [], [], upd_same, .nil, rfl⟩ (fun i Hi _ hp => SqT.ext hp.1 hT) (fun i y Hi hy hp => ?_) (fun H3 hp => ?_)
    · obtain ⟨si, rs, us, eD, dus, hsq⟩ := hp
      have hi : i < kids.length := by rw [← lz]; exact (List.getElem?_eq_some_iff.mp hy).1
      have hc := List.getElem?_eq_getElem hi
      obtain ⟨z, hz, hE⟩ := DpAll.get (i := i) (d := (kids[i]).d) k2 (by rw [List.getElem?_map, hc]; rfl)
      obtain rfl : z = y := Option.some.inj (hz.symm.trans hy)
      have hki := hk _ (List.getElem_mem hi)
      have s0i := s02.trans si
      have hdr : kids.map (comp cols) = (kids.take i).map (comp cols) ++ comp cols kids[i] :: (kids.drop (i + 1)).map (comp cols) := by
        rw [← List.map_cons, ← List.map_append, ← List.drop_eq_getElem_cons hi, List.take_append_drop]
      generalize kids[i] = k at hc hE hki hdr
      refine ⟨rfl, _, rfl, _, rfl, ca, z, cols, ys, k, rfl, s0i _ _ hca, DpAll.ext s0i _ _ hcs, hc1, hco, Dp.ext s0i _ _ hE, hki.1, by omega, fun r hr' H' x s' hx => ?_, fun m hm => ?_⟩
      · have eD' := s' _ _ eD
        refine ⟨us, eD', ?_, fun b o hb => ?_, rs ++ [r], us ++ [.ref x], upd_same, ?_, ?_⟩
        · have h1 := DpAll.len dus
          have h2 := seqE_len hsq
          rw [List.length_map] at h1
          rw [List.length_map, List.length_take] at h2
          have har : o.ar ≤ 3 := by cases o <;> decide
          exact Nat.lt_of_le_of_lt (m := 3) (by omega) (by decide)
        · rw [upd_ne (ne_of_none hb nD)]
          exact s' _ _ (si _ _ hb)
        · rw [List.map_append]
          refine DpAll.snoc (DpAll.away eD' _ _ (only_all fun d hd => ?_) (DpAll.ext s' _ _ dus)) (Dp.away eD' _ _ (crD_only (comp_only cols k r hr')) hx)
          obtain ⟨r', hr'', rfl⟩ := List.mem_map.mp hd
          obtain ⟨k', _, hk'⟩ := List.mem_map.mp (seqE_mem hsq r' hr'')
          exact crD_only (comp_only cols k' r' hk')
        · rw [List.take_add_one, hc, List.map_append]
          show seqE (_ ++ [comp cols k]) = _
          rw [hr']
          exact seqE_snoc hsq
      · refine (fl m ?_).ext s0i
        rw [hcm]
        unfold opC
        rw [hdr, hm, seqE_err hsq]
    obtain ⟨s3, rs, us, eD, dus, hsq⟩ := hp
    rw [lz, List.take_of_length_le (Nat.le_refl _)] at hsq
    have lrs : rs.length = kids.length := by rw [seqE_len hsq, List.length_map]
    have lus : us.length = rs.length := by rw [DpAll.len dus, List.length_map]
    have har : o.ar ≤ 3 := by cases o <;> decide
    have only : ∀ r ∈ rs, tupOnly r.1 = true := fun r hr => by
      obtain ⟨k', _, hk'⟩ := List.mem_map.mp (seqE_mem hsq r hr)
      exact comp_only cols k' r hk'
    have s03 := s02.trans s3
    have each : ∀ {i : Nat} {z : V}, us[i]? = some z → ∃ r t pv, rs[i]? = some r ∧ r ∈ rs ∧ z = .ref t ∧ SqT K H3 t [pv, kdV r.2.1, .int ((r.2.2 : Nat) : Int)] ∧ Dp K H3 pv r.1 := fun {i z} hz => by
      have hi : i < rs.length := by rw [← lus]; exact (List.getElem?_eq_some_iff.mp hz).1
      have hc := List.getElem?_eq_getElem hi
      obtain ⟨z', hz', hE⟩ := DpAll.get (i := i) (d := crD (rs[i])) dus (by rw [List.getElem?_map, hc]; rfl)
      obtain rfl : z' = z := Option.some.inj (hz'.symm.trans hz)
      obtain ⟨t, pv, e1, e2, e3⟩ := dp_cr hE
      exact ⟨rs[i], t, pv, hc, List.getElem_mem hi, e1, e2, e3⟩
    have opcE : ∀ m, opK o (rs.map (·.2.1)) = .error m → comp cols e = .error m := fun m hm => by
      rw [hcm]
      unfold opC
      rw [hsq]
      dsimp only
      rw [hm]
    have opcO : ∀ k, opK o (rs.map (·.2.1)) = .ok k → comp cols e = .ok (opF o (rs.map (·.1)), k, opZ o (rs.map (·.2.2))) := fun k hm => by
      rw [hcm]
      unfold opC
      rw [hsq]
      dsimp only
      rw [hm]
    -- the kinds
    refine ⟨_, rfl, _, rfl, D, rfl, ⟨_, .of eD⟩, fun D2 nD2 => ?_⟩
    refine lc_list (K := K) (a := D) (xs := us) (fun i Hi => Same H3 Hi ∧ Hi D2 = some (.lst (((rs.take i).map (·.2.1)).map kdV))) ⟨same_upd nD2, upd_same⟩ (fun i Hi _ hp => .of (hp.1 _ _ eD)) (fun i y Hi hy hp => ?_) (fun H4 hp => ?_)
    · obtain ⟨si, eD2⟩ := hp
      obtain ⟨r, t, pv, hr1, hr2, rfl, ht, _⟩ := each hy
      refine ⟨t, _, rfl, SqT.ext si ht, rfl, _, _, rfl, _, _, rfl, _, _, rfl, rfl, rfl, _, rfl, _, eD2, ?_, fun b o hb => ?_, ?_⟩
      · rw [List.length_map, List.length_map, List.length_take]
        exact Nat.lt_of_le_of_lt (m := 3) (by omega) (by decide)
      · rw [upd_ne (ne_of_none hb nD2)]
        exact si _ _ hb
      · rw [upd_same, List.take_add_one, hr1, List.map_append, List.map_append]
        rfl
    obtain ⟨s4, eD2⟩ := hp
    rw [lus, List.take_of_length_le (Nat.le_refl _)] at eD2
    have s04 := s03.trans s4
    refine ⟨o, rs.map (·.2.1), D2, rfl, eD2, by rw [List.length_map]; omega, fun k hk H5 s5 => ?_, fun m hm => (fl m (opcE m hm)).ext s04⟩
    have s35 := s4.trans s5
    have s05 := s04.trans s5
    -- the forms
    refine ⟨_, rfl, _, rfl, D, rfl, ⟨_, .of (s35 _ _ eD)⟩, fun D3 nD3 => ?_⟩
    refine lc_list (K := K) (a := D) (xs := us) (fun i Hi => Same H5 Hi ∧ ∃ ps, Hi D3 = some (.lst ps) ∧ DpAll K Hi ps ((rs.take i).map (·.1))) ⟨same_upd nD3, [], upd_same, .nil⟩ (fun i Hi _ hp => .of (hp.1 _ _ (s35 _ _ eD))) (fun i y Hi hy hp => ?_) (fun H6 hp => ?_)
    · obtain ⟨si, ps, eD3, dps⟩ := hp
      obtain ⟨r, t, pv, hr1, hr2, rfl, ht, hpv⟩ := each hy
      have s3i := s35.trans si
      have lps := DpAll.len dps
      rw [List.length_map, List.length_take] at lps
      refine ⟨t, _, rfl, SqT.ext s3i ht, rfl, _, _, rfl, _, _, rfl, _, _, rfl, rfl, rfl, _, rfl, ps, eD3, Nat.lt_of_le_of_lt (m := 3) (by omega) (by decide), fun b o hb => ?_, ps ++ [pv], upd_same, ?_⟩
      · rw [upd_ne (ne_of_none hb nD3)]
        exact si _ _ hb
      · rw [List.take_add_one, hr1, List.map_append]
        refine DpAll.snoc (DpAll.away eD3 _ _ (only_all fun d hd => ?_) dps) (Dp.away eD3 _ _ (only r hr2) (Dp.ext s3i _ _ hpv))
        obtain ⟨r', hr', rfl⟩ := List.mem_map.mp hd
        exact only r' (List.mem_of_mem_take hr')
    obtain ⟨s6, ps, eD3, dps⟩ := hp
    rw [lus, List.take_of_length_le (Nat.le_refl _)] at dps
    have s36 := s35.trans s6
    refine ⟨o, rs.map (·.1), ps, D3, rfl, eD3, dps, by rw [List.length_map]; omega, fun H7 pr s7 dpr => ?_⟩
    have s37 := s36.trans s7
    have s07 := s05.trans (s6.trans s7)
    -- the sizes
    refine ⟨_, rfl, _, rfl, _, rfl, _, rfl, D, rfl, ⟨_, .of (s37 _ _ eD)⟩, fun D4 nD4 => ?_⟩
    refine lc_list (K := K) (a := D) (xs := us) (fun i Hi => Same H7 Hi ∧ Hi D4 = some (.lst (((rs.take i).map (·.2.2)).map fun n => V.int ((n : Nat) : Int)))) ⟨same_upd nD4, upd_same⟩ (fun i Hi _ hp => .of (hp.1 _ _ (s37 _ _ eD))) (fun i y Hi hy hp => ?_) (fun H8 hp => ?_)
    · obtain ⟨si, eD4⟩ := hp
      obtain ⟨r, t, pv, hr1, hr2, rfl, ht, _⟩ := each hy
      refine ⟨t, _, rfl, SqT.ext (s37.trans si) ht, rfl, _, _, rfl, _, _, rfl, _, _, rfl, rfl, rfl, _, rfl, _, eD4, ?_, fun b o hb => ?_, ?_⟩
      · rw [List.length_map, List.length_map, List.length_take]
        exact Nat.lt_of_le_of_lt (m := 3) (by omega) (by decide)
      · rw [upd_ne (ne_of_none hb nD4)]
        exact si _ _ hb
      · rw [upd_same, List.take_add_one, hr1, List.map_append, List.map_append]
        rfl
    obtain ⟨s8, eD4⟩ := hp
    rw [lus, List.take_of_length_le (Nat.le_refl _)] at eD4
    refine ⟨o, rs.map (·.2.2), D4, rfl, eD4, by rw [List.length_map]; omega, ?_⟩
    refine ⟨by show 3 ≤ sizeLine; decide, fun r nr => ?_⟩
    have s9 := same_upd nr (o := .tup [.ref pr, kdV k, .int ((opZ o (rs.map (·.2.2)) : Nat) : Int)])
    have s89 := s8.trans s9
    exact q _ (opcO k hk) _ r (s07.trans s89) (.tup (.of upd_same) (.cons (Dp.ext s89 _ _ dpr) (.cons (dp_kd k) (.cons (.int _) .nil))))
theorem cl_wo {f : Addr} {fd : FuncData} (F : Fun K "written_out" "written_out" s_written_out f fd) (M : Mg mg) (PB : PrbE P w K mg base C) (g : mg "written_out" = some (.ref f)) (b : Binds K fd ["columns", "expression"] []) (cx_named_column : ClX P w K mg base 3 "named_column" (sp_nc C K)) (cx_result_kind : ClX P w K mg base 4 "result_kind" (sp_rk C)) (c_plain_form : Cl P w K mg base 1 "plain_form" (sp_pf K)) (c_result_size : Cl P w K mg base 1 "result_size" sp_rz) : ∀ n, ClX P w K mg base (n + 5) "written_out" (sp_wo C K n)
  | 0 => FnOk.clx (P := P) (w := w) (base := base) (F.okX sc_written_out (fun vs H Q E h => by obtain ⟨ca, v, cols, ys, e, rfl, _⟩ := h; rfl) (fun cdv A outer s H vs Q E hr h => by obtain ⟨ca, v, cols, ys, e, rfl, _, _, _, _, _, _, h0, _⟩ := h; exact absurd h0 (Nat.not_lt_zero _))) F g b
  | n + 1 => FnOk.clx (ok_wo n F M PB cx_named_column (cl_wo F M PB g b cx_named_column cx_result_kind c_plain_form c_result_size n) cx_result_kind c_plain_form c_result_size) F g b
def sp_ce (C : Addr) (K : PySem.W.Frag) (n : Nat) : Sp := fun vs H Q E => ∃ (ca : Addr) (v : V) (cols : List Col) (ys : List V) (e : Et), vs = [.ref ca, v] ∧ H ca = some (.lst ys) ∧ DpAll K H ys (cols.map Col.d) ∧ cols.length ≤ 1000 ∧ (∀ c ∈ cols, c.ok) ∧ Dp K H v e.d ∧ e.ok ∧ e.ht < n ∧
  (∀ r, comp cols e = .ok r → r.2.2 ≤ 200 → ∀ H' x, Same H H' → Dp K H' (.ref x) (.tuple [r.1, kdD r.2.1]) → Q (.ref x) H') ∧ (∀ r, comp cols e = .ok r → ¬ r.2.2 ≤ 200 → Pf C "too large" E H) ∧ ∀ m, comp cols e = .error m → Pf C m E H
theorem ok_ce (n : Nat) {f : Addr} {fd : FuncData} (F : Fun K "compile_expression" "compile_expression" s_compile_expression f fd) (M : Mg mg) (PB : PrbE P w K mg base C) (G : Kg K w mg aO aC aE aP aL eO eE eP nO nE nP) (cx_written_out : ClX P w K mg base (n + 5) "written_out" (sp_wo C K n)) : FnOk P w K mg base (L2.CX P w) (n + 6) f fd ["columns", "expression"] (sp_ce C K n) := by
  refine F.okX sc_compile_expression (fun vs H Q E h => ?_) (fun cdv A outer s H vs Q E hr h => ?_)
  · obtain ⟨ca, v, cols, ys, e, rfl, _⟩ := h
    rfl
  obtain ⟨ca, v, cols, ys, e, rfl, hca, hcs, hc1, hco, hv, hok, hht, q, fl2, fl⟩ := h
  refine ⟨_, (pss_cons (ps_asg (pe_ux cx_written_out hr (by first | decide | omega) (E := E) (passX (takes_of rfl rfl rfl rfl)) (by rfl) (pa_cons (pv 0) (pa_cons (pv 1) pa_nil))) (pg_tup (by rfl) (pgs_cons (pg_name (i := 2) sc_compile_expression.nd rfl (.inl rfl)) (pgs_cons (pg_name (i := 3) sc_compile_expression.nd rfl (.inl rfl)) (pgs_cons (pg_name (i := 4) sc_compile_expression.nd rfl (.inl rfl)) pgs_nil)))))
      (pss_cons (ps_if (pt_cmpR op_gt (pv 4) (C8.pe_gc (by rfl) G.MOST_SIZE) (nomark _)) (pss_one (ps_raiseM PB rfl (takes_of rfl rfl rfl rfl) hr (by first | decide | omega) (by rfl) (pa_cons pe_str pa_nil))) pss_nil)
      (pss_one (ps_ret (pe_tup (pa_cons (pv 2) (pa_cons (pv 3) pa_nil))))))), ?_⟩
  refine ⟨_, rfl, _, rfl, ca, v, cols, ys, e, rfl, hca, hcs, hc1, hco, hv, hok, hht, fun r hr H1 x s1 hx => ?_, fun m hm => fl m hm⟩
  obtain ⟨t, pv, e1, ht, hpv⟩ := dp_cr hx
  cases e1
  refine ⟨x, _, rfl, ht, rfl, _, _, rfl, _, _, rfl, _, _, rfl, rfl, ?_⟩
  refine ⟨_, rfl, _, _, rfl, rfl, _, rfl, ?_⟩
  by_cases h200 : r.2.2 ≤ 200
  · rw [decide_eq_false (show ¬ (200 : Int) < ((r.2.2 : Nat) : Int) by omega)]
    refine iteF ⟨_, rfl, _, rfl, by show 2 ≤ sizeLine; decide, fun y ny => ?_⟩
    have s2 := same_upd ny (o := .tup [pv, kdV r.2.1])
    exact q r hr h200 _ y (s1.trans s2) (.tup (.of upd_same) (.cons (Dp.ext s2 _ _ hpv) (.cons (dp_kd _) .nil)))
  · rw [decide_eq_true (show (200 : Int) < ((r.2.2 : Nat) : Int) by omega)]
    exact iteT ⟨_, rfl, by decide +kernel, fun d H' nd s' e' => (fl2 r hr h200).ext s1 d H' nd s' e'⟩
end

/-! ### trees that are well kinded: what the laws draw -/
def Et.sz : Et → Nat
  | .op1 o a => opZ o [a.sz]
  | .op2 o a b => opZ o [a.sz, b.sz]
  | .op3 o a b c => opZ o [a.sz, b.sz, c.sz]
  | _ => 1
theorem et_only : ∀ e : Et, tupOnly e.d = true
  | .num _ => rfl
  | .text _ => rfl
  | .truth _ => rfl
  | .null => rfl
  | .name _ => rfl
  | .field _ _ => rfl
  | .op1 o a => only_tup fun d hd => by
    simp only [List.mem_cons, List.not_mem_nil, or_false] at hd
    rcases hd with rfl | rfl
    · rfl
    · exact et_only a
  | .op2 o a b => only_tup fun d hd => by
    simp only [List.mem_cons, List.not_mem_nil, or_false] at hd
    rcases hd with rfl | rfl | rfl
    · rfl
    · exact et_only a
    · exact et_only b
  | .op3 o a b c => only_tup fun d hd => by
    simp only [List.mem_cons, List.not_mem_nil, or_false] at hd
    rcases hd with rfl | rfl | rfl | rfl
    · rfl
    · exact et_only a
    · exact et_only b
    · exact et_only c
theorem seqE_oks {α : Type} : ∀ rs : List α, seqE (rs.map Except.ok) = .ok rs
  | [] => rfl
  | r :: rs => by
    rw [List.map_cons]
    unfold seqE
    rw [seqE_oks rs]
theorem opC_ok {o : Ow} {rs : List Cr} {k : Option Kd} (h : opK o (rs.map (·.2.1)) = .ok k) : opC o (rs.map Except.ok) = .ok (opF o (rs.map (·.1)), k, opZ o (rs.map (·.2.2))) := by
  unfold opC
  rw [seqE_oks]
  dsimp only
  rw [h]
/-- of kind k (or without one), of the law's size -/
def Wk (cols : List Col) (k : Kd) (e : Et) : Prop := e.ok ∧ ∃ r, comp cols e = .ok r ∧ need k r.2.1 = true ∧ r.2.2 = e.sz
theorem need_self (k : Kd) : need k (some k) = true := by cases k <;> rfl
theorem need_or {k : Kd} {x : Option Kd} (h : need k x = true) : x = none ∨ x = some k := by
  unfold need at h
  rw [Bool.or_eq_true, decide_eq_true_iff, decide_eq_true_iff] at h
  exact h
theorem common_ok {k : Kd} {x y : Option Kd} (hx : need k x = true) (hy : need k y = true) : ∃ z, common x y = .ok z ∧ need k z = true := by
  rcases need_or hx with rfl | rfl
  · exact ⟨y, rfl, hy⟩
  · refine ⟨some k, ?_, need_self k⟩
    show (if need k y = true then Except.ok (some k) else _) = _
    rw [if_pos hy]
section
variable {cols : List Col}
theorem wk1 {o : Ow} {a : Et} {x r : Kd} (hw : o.want = some (x, r)) (har : o.ar = 1) (ha : Wk cols x a) : Wk cols r (.op1 o a) := by
  obtain ⟨oka, ra, ea, na, sa⟩ := ha
  have hk : opK o ([ra].map (·.2.1)) = .ok (some r) := by
    unfold opK
    rw [hw]
    show (if (need x ra.2.1 && true) = true then _ else _) = _
    rw [na]
    rfl
  refine ⟨⟨har, oka⟩, (opF o ([ra].map (·.1)), some r, opZ o ([ra].map (·.2.2))), ?_, need_self r, ?_⟩
  · show opC o [comp cols a] = _
    rw [ea]
    exact opC_ok (rs := [ra]) hk
  · show opZ o [ra.2.2] = opZ o [a.sz]
    rw [sa]
theorem wk2 {o : Ow} {a b : Et} {x r : Kd} (hw : o.want = some (x, r)) (har : o.ar = 2) (ha : Wk cols x a) (hb : Wk cols x b) : Wk cols r (.op2 o a b) := by
  obtain ⟨oka, ra, ea, na, sa⟩ := ha
  obtain ⟨okb, rb, eb, nb, sb⟩ := hb
  have hk : opK o ([ra, rb].map (·.2.1)) = .ok (some r) := by
    unfold opK
    rw [hw]
    show (if (need x ra.2.1 && (need x rb.2.1 && true)) = true then _ else _) = _
    rw [na, nb]
    rfl
  refine ⟨⟨har, oka, okb⟩, (opF o ([ra, rb].map (·.1)), some r, opZ o ([ra, rb].map (·.2.2))), ?_, need_self r, ?_⟩
  · show opC o [comp cols a, comp cols b] = _
    rw [ea, eb]
    exact opC_ok (rs := [ra, rb]) hk
  · show opZ o [ra.2.2, rb.2.2] = opZ o [a.sz, b.sz]
    rw [sa, sb]
theorem wk_missing {a : Et} {x : Kd} (ha : Wk cols x a) : Wk cols .truth (.op1 .missing a) := by
  obtain ⟨oka, ra, ea, na, sa⟩ := ha
  refine ⟨⟨rfl, oka⟩, (opF .missing ([ra].map (·.1)), some .truth, opZ .missing ([ra].map (·.2.2))), ?_, need_self .truth, ?_⟩
  · show opC .missing [comp cols a] = _
    rw [ea]
    exact opC_ok (o := .missing) (rs := [ra]) rfl
  · show opZ .missing [ra.2.2] = opZ .missing [a.sz]
    rw [sa]
theorem opK_two {o : Ow} (h : o.cmp = true ∨ o = .coalesce) (a b : Option Kd) : opK o [a, b] = (common a b).map fun c => if o.cmp = true then some .truth else c := by
  cases o <;> first | rfl | (rcases h with h | h <;> cases h)
theorem wk_cmp {o : Ow} {a b : Et} {x : Kd} (hc : o.cmp = true) (ha : Wk cols x a) (hb : Wk cols x b) : Wk cols .truth (.op2 o a b) := by
  obtain ⟨oka, ra, ea, na, sa⟩ := ha
  obtain ⟨okb, rb, eb, nb, sb⟩ := hb
  obtain ⟨z, hz, _⟩ := common_ok na nb
  have hk : opK o ([ra, rb].map (·.2.1)) = .ok (some .truth) := by
    show opK o [ra.2.1, rb.2.1] = _
    rw [opK_two (.inl hc), hz, hc]
    rfl
  refine ⟨⟨(by cases o <;> first | rfl | cases hc), oka, okb⟩, (opF o ([ra, rb].map (·.1)), some .truth, opZ o ([ra, rb].map (·.2.2))), ?_, need_self .truth, ?_⟩
  · show opC o [comp cols a, comp cols b] = _
    rw [ea, eb]
    exact opC_ok (rs := [ra, rb]) hk
  · show opZ o [ra.2.2, rb.2.2] = opZ o [a.sz, b.sz]
    rw [sa, sb]
theorem wk_coalesce {a b : Et} {x : Kd} (ha : Wk cols x a) (hb : Wk cols x b) : Wk cols x (.op2 .coalesce a b) := by
  obtain ⟨oka, ra, ea, na, sa⟩ := ha
  obtain ⟨okb, rb, eb, nb, sb⟩ := hb
  obtain ⟨z, hz, nz⟩ := common_ok na nb
  have hk : opK .coalesce ([ra, rb].map (·.2.1)) = .ok z := by
    show opK .coalesce [ra.2.1, rb.2.1] = _
    rw [opK_two (.inr rfl), hz]
    rfl
  refine ⟨⟨rfl, oka, okb⟩, (opF .coalesce ([ra, rb].map (·.1)), z, opZ .coalesce ([ra, rb].map (·.2.2))), ?_, nz, ?_⟩
  · show opC .coalesce [comp cols a, comp cols b] = _
    rw [ea, eb]
    exact opC_ok (rs := [ra, rb]) hk
  · show opZ .coalesce [ra.2.2, rb.2.2] = opZ .coalesce [a.sz, b.sz]
    rw [sa, sb]
theorem wk_if {a b c : Et} {x : Kd} (ha : Wk cols .truth a) (hb : Wk cols x b) (hc : Wk cols x c) : Wk cols x (.op3 .ite a b c) := by
  obtain ⟨oka, ra, ea, na, sa⟩ := ha
  obtain ⟨okb, rb, eb, nb, sb⟩ := hb
  obtain ⟨okc, rc, ec, nc, sc⟩ := hc
  obtain ⟨z, hz, nz⟩ := common_ok nb nc
  have hk : opK .ite ([ra, rb, rc].map (·.2.1)) = .ok z := by
    show (if need .truth ra.2.1 = true then common rb.2.1 rc.2.1 else _) = _
    rw [if_pos na, hz]
  refine ⟨⟨rfl, oka, okb, okc⟩, (opF .ite ([ra, rb, rc].map (·.1)), z, opZ .ite ([ra, rb, rc].map (·.2.2))), ?_, nz, ?_⟩
  · show opC .ite [comp cols a, comp cols b, comp cols c] = _
    rw [ea, eb, ec]
    exact opC_ok (rs := [ra, rb, rc]) hk
  · show opZ .ite [ra.2.2, rb.2.2, rc.2.2] = opZ .ite [a.sz, b.sz, c.sz]
    rw [sa, sb, sc]
theorem wk_num (i : Int) : Wk cols .int (.num i) := ⟨trivial, _, rfl, need_self .int, rfl⟩
theorem wk_text (x : Str) : Wk cols .text (.text x) := ⟨trivial, _, rfl, need_self .text, rfl⟩
theorem wk_truth (i : Int) : Wk cols .truth (.truth i) := ⟨trivial, _, rfl, need_self .truth, rfl⟩
theorem wk_null (k : Kd) : Wk cols k .null := ⟨trivial, _, rfl, by cases k <;> rfl, rfl⟩
theorem namedC_one {told : Str} {p : Col → Bool} {i : Nat} {c : Col} (h : plcs cols p = [i]) (hc : cols[i]? = some c) : namedC cols told p = .ok (.tuple [.str "column", .int (i : Nat)], c.kd, 1) := by
  unfold namedC
  rw [h]
  dsimp only
  rw [hc]
  rfl
theorem wk_name {x : Str} {i : Nat} {c : Col} {k : Kd} (hx : (Et.name x).ok) (h : plcs cols (fun c => decide (c.nm = x)) = [i]) (hc : cols[i]? = some c) (hk : c.kd = some k) : Wk cols k (.name x) := ⟨hx, _, namedC_one h hc, by rw [hk]; exact need_self k, rfl⟩
theorem wk_field {x y : Str} {i : Nat} {c : Col} {k : Kd} (hx : (Et.field x y).ok) (h : plcs cols (fun c => decide (c.src = some x) && decide (c.nm = y)) = [i]) (hc : cols[i]? = some c) (hk : c.kd = some k) : Wk cols k (.field x y) := ⟨hx, _, namedC_one h hc, by rw [hk]; exact need_self k, rfl⟩
end
/-- a leaf's word; or an operator -/
theorem sz_view (e : Et) (h : e.ok) : (∃ s rest, e.d = .tuple (.str (Str.ofString s) :: rest) ∧ s ∈ (["number", "text", "truth", "null", "name", "field"] : List String) ∧ e.sz = 1) ∨
    ∃ (o : Ow) (kids : List Et), e.d = .tuple (.str o.w :: kids.map Et.d) ∧ kids.length = o.ar ∧ e.sz = opZ o (kids.map Et.sz) ∧ ∀ k ∈ kids, k.ok ∧ k.ht < e.ht := by
  cases e with
  | num i => exact .inl ⟨"number", _, rfl, by decide, rfl⟩
  | text x => exact .inl ⟨"text", _, rfl, by decide, rfl⟩
  | truth i => exact .inl ⟨"truth", _, rfl, by decide, rfl⟩
  | null => exact .inl ⟨"null", _, rfl, by decide, rfl⟩
  | name x => exact .inl ⟨"name", _, rfl, by decide, rfl⟩
  | field x y => exact .inl ⟨"field", _, rfl, by decide, rfl⟩
  | op1 o a => exact .inr ⟨o, [a], rfl, h.1.symm, rfl, fun k hk => by
      rw [List.mem_singleton.mp hk]
      exact ⟨h.2, Nat.lt_succ_self _⟩⟩
  | op2 o a b => exact .inr ⟨o, [a, b], rfl, h.1.symm, rfl, fun k hk => by
      simp only [List.mem_cons, List.not_mem_nil, or_false] at hk
      show _ ∧ _ < max a.ht b.ht + 1
      rcases hk with rfl | rfl
      · exact ⟨h.2.1, by omega⟩
      · exact ⟨h.2.2, by omega⟩⟩
  | op3 o a b c => exact .inr ⟨o, [a, b, c], rfl, h.1.symm, rfl, fun k hk => by
      simp only [List.mem_cons, List.not_mem_nil, or_false] at hk
      show _ ∧ _ < max a.ht (max b.ht c.ht) + 1
      rcases hk with rfl | rfl | rfl
      · exact ⟨h.2.1, by omega⟩
      · exact ⟨h.2.2.1, by omega⟩
      · exact ⟨h.2.2.2, by omega⟩⟩
theorem mk_dp {K : PySem.W.Frag} {H : Hp} {p : Addr} {xs : List V} {ds : List PyData} (n : H p = none) (h : DpAll K H xs ds) : Dp K (upd H p (.tup xs)) (.ref p) (.tuple ds) := .tup (.of upd_same) (DpAll.ext (same_upd n) _ _ h)
theorem pickO {ops : List Ow} {k : Nat} (h : k < ops.length) : ∃ o ∈ ops, (ops.map fun o => V.str o.w)[k]? = some (.str o.w) := ⟨ops[k], List.getElem_mem h, by rw [List.getElem?_map, List.getElem?_eq_getElem h]; rfl⟩
/-- a tree's data on the heap, where only the draw changes -/
theorem dpe_fd {K : PySem.W.Frag} {H H' : Hp} {d c : Addr} {v : V} {e : Et} (dr : Dr H d c) (f : Fd d H H') (h : Dp K H v e.d) : Dp K H' v e.d := by
  obtain ⟨_, ns, pos, rest, seed, h1, _⟩ := dr
  exact Dp.fd ⟨_, h1⟩ f _ _ (et_only e) h
theorem tIf_v {c : Bool} {ta tb : TE} {σ : L2.St} {H : Hp} {Q : VK} {v : V} (h1 : c = true → ∀ Q : VK, Q v H → ta σ H Q) (h2 : c = false → ∀ Q : VK, Q v H → tb σ H Q) (q : Q v H) : if c = true then ta σ H Q else tb σ H Q := by
  cases c with
  | true => exact iteT (h1 rfl Q q)
  | false => exact iteF (h2 rfl Q q)

/-! ### the law of sizes -/
def c26 : List Col := [⟨some "t", "a", some .int⟩, ⟨some "t", "b", some .text⟩, ⟨some "t", "c", some .truth⟩]
def Lf (e : Et) : Prop := e = .num 7 ∨ e = .name "a" ∨ e = .field "t" "a" ∨ e = .null
theorem ok_a : (Et.name "a").ok := ⟨by decide +kernel, by decide +kernel, by decide +kernel⟩
theorem wk_a : Wk c26 .int (.name "a") := wk_name (i := 0) (c := ⟨some "t", "a", some .int⟩) ok_a (by decide +kernel) rfl rfl
theorem wk_b : Wk c26 .text (.name "b") := wk_name (i := 1) (c := ⟨some "t", "b", some .text⟩) ⟨by decide +kernel, by decide +kernel, by decide +kernel⟩ (by decide +kernel) rfl rfl
theorem wk_c : Wk c26 .truth (.name "c") := wk_name (i := 2) (c := ⟨some "t", "c", some .truth⟩) ⟨by decide +kernel, by decide +kernel, by decide +kernel⟩ (by decide +kernel) rfl rfl
theorem wk_ta : Wk c26 .int (.field "t" "a") := wk_field (i := 0) (c := ⟨some "t", "a", some .int⟩) ⟨by decide +kernel, by decide +kernel, by decide +kernel, by decide +kernel, by decide +kernel⟩ (by decide +kernel) rfl rfl
theorem lf_wk {e : Et} (h : Lf e) : Wk c26 .int e ∧ e.ht = 0 := by
  rcases h with rfl | rfl | rfl | rfl
  · exact ⟨wk_num 7, rfl⟩
  · exact ⟨wk_a, rfl⟩
  · exact ⟨wk_ta, rfl⟩
  · exact ⟨wk_null .int, rfl⟩
def sp_size (K : PySem.W.Frag) (n : Nat) : Sp := fun vs H Q _ => ∃ (v : V) (e : Et), vs = [v] ∧ Dp K H v e.d ∧ e.ok ∧ e.ht < n ∧ ∀ H', Same H H' → Q (.int ((e.sz : Nat) : Int)) H'
def sp_leaf (K : PySem.W.Frag) : Sp := fun vs H Q _ => ∃ (d c : Addr), vs = [.ref d] ∧ Dr H d c ∧ ∀ H' v e, Fd d H H' → Dr H' d c → Dp K H' v e.d → Lf e → Q v H'
def sp_wide (K : PySem.W.Frag) (n : Nat) : Sp := fun vs H Q _ => ∃ (d c : Addr) (g : Nat), vs = [.ref d, .int ((g : Nat) : Int)] ∧ Dr H d c ∧ g < 2 ^ (n + 1) ∧ 0 < n ∧ ∀ H' v e, Fd d H H' → Dr H' d c → Dp K H' v e.d → Wk c26 .int e → e.ht ≤ 3 * n → Q v H'
def sp_exact (K : PySem.W.Frag) (n : Nat) : Sp := fun vs H Q _ => ∃ (d c : Addr) (g : Nat), vs = [.ref d, .int ((g : Nat) : Int)] ∧ Dr H d c ∧ g ≤ 2 ^ n ∧ 0 < n ∧ ∀ H' v e, Fd d H H' → Dr H' d c → Dp K H' v e.d → Wk c26 .int e → e.ht ≤ n → Q v H'
section
variable {P : Program} {w : World} {K : PySem.W.Frag} {mg : Str → Option Value} {base : Heap} {C : Addr}
theorem ok_size (n : Nat) {f : Addr} {fd : FuncData} (F : Fun K "_law_size" "_law_size" s__law_size f fd) (M : Mg mg) (c__law_size : Cl P w K mg base (n + 1) "_law_size" (sp_size K n)) : FnOk P w K mg base CX0 (n + 2) f fd ["tree"] (sp_size K (n + 1)) := by
  refine F.ok sc__law_size (fun vs H Q E h => ?_) (fun cdv A outer s H vs Q E hr h => ?_)
  · obtain ⟨v, e, rfl, _⟩ := h
    rfl
  obtain ⟨v, e, rfl, hv, hok, hht, q⟩ := h
  refine ⟨_, (pss_cons (ps_if (pt_cmpR (inK K) (pe_ix (ix_tupK K) (pv 0) pe_int (fun _ _ => rfl)) (pe_tup (pa_cons pe_str (pa_cons pe_str (pa_cons pe_str (pa_cons pe_str (pa_cons pe_str (pa_cons pe_str pa_nil))))))) (by rfl)) (pss_one (ps_ret pe_int)) pss_nil)
      (pss_cons (ps_if (pt_cmpR op_eq (pe_ix (ix_tupK K) (pv 0) pe_int (fun _ _ => rfl)) pe_str (nomark _)) (pss_one (ps_ret (pe_op op_add (pe_op op_add pe_int (pe_op op_mul pe_int (pe_u c__law_size hr (by first | decide | omega) (by rfl) (pa_cons (pe_ix (ix_tupK K) (pv 0) pe_int (fun _ _ => rfl)) pa_nil)))) (pe_u c__law_size hr (by first | decide | omega) (by rfl) (pa_cons (pe_ix (ix_tupK K) (pv 0) pe_int (fun _ _ => rfl)) pa_nil))))) pss_nil)
      (pss_cons (ps_set (i := 1) sc__law_size.nd rfl (.inl rfl) (pe_ifExp (pt_cmpR (inK K) (pe_ix (ix_tupK K) (pv 0) pe_int (fun _ _ => rfl)) (pe_tup (pa_cons pe_str (pa_cons pe_str (pa_cons pe_str pa_nil)))) (by rfl)) pe_int pe_int))
      (pss_cons (ps_for PassesOwn.never rfl (pi_tup (pe_slice sl_tup (pv 0) (po_some pe_int) po_none)) (pg_name (i := 2) sc__law_size.nd rfl (.inl rfl)) (pss_one (ps_set (i := 1) sc__law_size.nd rfl (.inl rfl) (pe_op op_add (pv 1) (pe_u c__law_size hr (by first | decide | omega) (by rfl) (pa_cons (pv 2) pa_nil))))))
      (pss_one (ps_ret (pv 1))))))), ?_⟩
  rcases sz_view e hok with ⟨s, rest, hd, hs, hz⟩ | ⟨o, kids, hd, hl, hz, hk⟩
  · rw [hd] at hv
    obtain ⟨b, xs, rfl, hb, hx⟩ := dp_tup hv
    cases hx with
    | cons k1 k2 =>
    cases k1
    refine ⟨_, rfl, b, _, _, .str (Str.ofString s), rfl, rfl, hb, atI_nat (j := 0) rfl, by show 6 ≤ sizeLine; decide, fun p np => ⟨p, _, rfl, .inr (.of upd_same), rfl, rfl, ?_⟩⟩
    rw [if_neg Bool.false_ne_true]
    have hin : inV (.str (Str.ofString s)) [.str "number", .str "text", .str "truth", .str "null", .str "name", .str "field"] = true := by
      simp only [List.mem_cons, List.not_mem_nil, or_false] at hs
      rcases hs with rfl | rfl | rfl | rfl | rfl | rfl <;> decide +kernel
    rw [hin]
    rw [hz] at q
    exact ⟨_, rfl, iteT (q _ (same_upd np))⟩
  · rw [hd] at hv
    obtain ⟨b, xs, rfl, hb, hx⟩ := dp_tup hv
    cases hx with
    | @cons _ zs _ _ k1 k2 =>
    cases k1
    refine ⟨_, rfl, b, _, _, .str o.w, rfl, rfl, hb, atI_nat (j := 0) rfl, by show 6 ≤ sizeLine; decide, fun p np => ⟨p, _, rfl, .inr (.of upd_same), rfl, rfl, ?_⟩⟩
    have s1 := same_upd np (o := .tup [.str "number", .str "text", .str "truth", .str "null", .str "name", .str "field"])
    rw [if_neg Bool.false_ne_true, show inV (.str o.w) [.str "number", .str "text", .str "truth", .str "null", .str "name", .str "field"] = false by cases o <;> decide +kernel]
    refine ⟨_, rfl, iteF ?_⟩
    generalize upd H p (.tup [.str "number", .str "text", .str "truth", .str "null", .str "name", .str "field"]) = H1 at s1 ⊢
    have hb1 := SqT.ext s1 hb
    refine ⟨_, rfl, b, _, _, .str o.w, rfl, rfl, hb1, atI_nat (j := 0) rfl, rfl, _, rfl, ?_⟩
    rw [ow_coalesce]
    by_cases h1 : o = .coalesce
    · rw [decide_eq_true h1]
      subst h1
      obtain ⟨k1, k2', rfl⟩ : ∃ a b, kids = [a, b] := by
        match kids, hl with
        | [a, b], _ => exact ⟨a, b, rfl⟩
      cases k2 with
      | @cons z1 _ _ _ g1 g2 =>
      cases g2 with
      | @cons z2 _ _ _ g2 g3 =>
      cases g3
      have hk1 := hk _ List.mem_cons_self
      have hk2 := hk _ (List.mem_cons_of_mem _ List.mem_cons_self)
      refine iteT ⟨_, rfl, b, _, _, z1, rfl, rfl, hb1, rfl, z1, k1, rfl, Dp.ext s1 _ _ g1, hk1.1, by omega, fun H2 s2 => ⟨_, _, rfl, rfl, .inl ⟨by decide, by decide⟩, _, _, rfl, rfl, ?_⟩⟩
      refine ⟨_, rfl, b, _, _, z2, rfl, rfl, SqT.ext s2 hb1, rfl, z2, k2', rfl, Dp.ext (s1.trans s2) _ _ g2, hk2.1, by omega, fun H3 s3 => ⟨_, _, rfl, rfl, ?_⟩⟩
      have := q H3 ((s1.trans s2).trans s3)
      rw [hz] at this
      show Q (.int ((2 : Int) + 2 * ((k1.sz : Nat) : Int) + ((k2'.sz : Nat) : Int))) H3
      rw [show (2 : Int) + 2 * ((k1.sz : Nat) : Int) + ((k2'.sz : Nat) : Int) = ((opZ .coalesce [k1.sz, k2'.sz] : Nat) : Int) by
        show _ = ((2 + 2 * k1.sz + k2'.sz : Nat) : Int)
        omega]
      exact this
    rw [decide_eq_false h1]
    refine iteF ?_
    refine ⟨_, rfl, b, _, _, .str o.w, rfl, rfl, hb1, atI_nat (j := 0) rfl, by show 3 ≤ sizeLine; decide, fun p2 np2 => ⟨p2, _, rfl, .inr (.of upd_same), rfl, rfl, ?_⟩⟩
    have s2 := same_upd np2 (o := .tup [.str "<=", .str "!=", .str ">="])
    rw [if_neg Bool.false_ne_true, show inV (.str o.w) [.str "<=", .str "!=", .str ">="] = o.lrg from ow_lrg o]
    generalize upd H1 p2 (.tup [.str "<=", .str "!=", .str ">="]) = H2 at s2 ⊢
    have s02 := s1.trans s2
    refine ⟨_, rfl, ?_⟩
    obtain ⟨n0, hn0⟩ : ∃ n0 : Nat, n0 = if o.lrg = true then 2 else 1 := ⟨_, rfl⟩
    refine tIf_v (v := V.int ((n0 : Nat) : Int)) (fun e Q q => ?_) (fun e Q q => ?_) ?_
    · rw [hn0, e] at q
      exact q
    · rw [hn0, e] at q
      exact q
    have eZ : opZ o (kids.map Et.sz) = n0 + (kids.map Et.sz).sum := by
      rw [hn0]
      cases o <;> first | rfl | exact absurd rfl h1
    have hcut : cutV (V.str o.w :: zs) (some 1) none = zs := by
      show ((V.str o.w :: zs).drop 1).take (zs.length + 1 - 1) = zs
      rw [Nat.add_sub_cancel, List.drop_one, List.tail_cons, List.take_length]
    have lz : zs.length = kids.length := by rw [DpAll.len k2, List.length_map]
    refine ⟨_, rfl, _, rfl, b, _, rfl, SqT.ext s02 hb, by show ¬ (1 = 0 ∧ _); exact fun z => absurd z.1 (by decide), fun D1 nD1 => ?_⟩
    rw [hcut]
    have s3 := same_upd nD1 (o := .tup zs)
    have hT : SqT K (upd H2 D1 (.tup zs)) D1 zs := .of upd_same
    generalize upd H2 D1 (.tup zs) = H3 at s3 hT ⊢
    have s03 := s02.trans s3
    refine ⟨D1, rfl, ⟨_, hT⟩, ?_⟩
    refine for_tup (K := K) (a := D1) (xs := zs) (fun i σ Hi => Same H3 Hi ∧ ∃ z2, σ = [some (.ref b), some (.int ((n0 + ((kids.take i).map Et.sz).sum : Nat) : Int)), z2]) ⟨fun _ _ h => h, _, rfl⟩ (fun i σ Hi _ hp => SqT.ext hp.1 hT) (fun i y σ Hi hy hp => ?_) (fun σ Hn hp => ?_)
    · obtain ⟨si, z2, rfl⟩ := hp
      have hi : i < kids.length := by rw [← lz]; exact (List.getElem?_eq_some_iff.mp hy).1
      have hc := List.getElem?_eq_getElem hi
      obtain ⟨z, hz', hE⟩ := DpAll.get (i := i) (d := (kids[i]).d) k2 (by rw [List.getElem?_map, hc]; rfl)
      obtain rfl : z = y := Option.some.inj (hz'.symm.trans hy)
      have hki := hk _ (List.getElem_mem hi)
      generalize kids[i] = k at hc hE hki
      refine ⟨_, rfl, _, rfl, z, k, rfl, Dp.ext (s03.trans si) _ _ hE, hki.1, by omega, fun H4 s4 => ⟨_, _, rfl, rfl, si.trans s4, some z, ?_⟩⟩
      rw [List.take_add_one, hc, List.map_append, List.sum_append]
      show [some (V.ref b), some (V.int (((n0 + ((kids.take i).map Et.sz).sum : Nat) : Int) + ((k.sz : Nat) : Int))), some z] = [some (V.ref b), some (V.int ((n0 + (((kids.take i).map Et.sz).sum + (k.sz + 0)) : Nat) : Int)), some z]
      rw [show (((n0 + ((kids.take i).map Et.sz).sum : Nat) : Int) + ((k.sz : Nat) : Int)) = ((n0 + (((kids.take i).map Et.sz).sum + (k.sz + 0)) : Nat) : Int) by omega]
    · obtain ⟨sn, z2, rfl⟩ := hp
      rw [lz, List.take_of_length_le (Nat.le_refl _), ← eZ, ← hz]
      exact ⟨_, rfl, q Hn (s03.trans sn)⟩
theorem cl_size {f : Addr} {fd : FuncData} (F : Fun K "_law_size" "_law_size" s__law_size f fd) (M : Mg mg) (g : mg "_law_size" = some (.ref f)) (b : Binds K fd ["tree"] []) : ∀ n, Cl P w K mg base (n + 1) "_law_size" (sp_size K n)
  | 0 => FnOk.cl (P := P) (w := w) (base := base) (F.ok sc__law_size (fun vs H Q E h => by obtain ⟨v, e, rfl, _⟩ := h; rfl) (fun cdv A outer s H vs Q E hr h => by obtain ⟨v, e, rfl, _, _, h0, _⟩ := h; exact absurd h0 (Nat.not_lt_zero _))) F g b
  | n + 1 => FnOk.cl (ok_size n F M (cl_size F M g b n)) F g b
theorem ok_leaf {f : Addr} {fd : FuncData} (F : Fun K "_law_leaf" "_law_leaf" s__law_leaf f fd) (M : Mg mg) (c__law_next : Cl P w K mg base 1 "_law_next" sp_next) : FnOk P w K mg base CX0 2 f fd ["draw"] (sp_leaf K) := by
  refine F.ok sc__law_leaf (fun vs H Q E h => ?_) (fun cdv A outer s H vs Q E hr h => ?_)
  · obtain ⟨d, c, rfl, _⟩ := h
    rfl
  obtain ⟨d, c, rfl, dr, q⟩ := h
  refine ⟨_, (pss_one (ps_ret (pe_ix (ix_listK K) (pe_lst (pa_cons (pe_tup (pa_cons pe_str (pa_cons pe_int pa_nil))) (pa_cons (pe_tup (pa_cons pe_str (pa_cons pe_str pa_nil))) (pa_cons (pe_tup (pa_cons pe_str (pa_cons pe_str (pa_cons pe_str pa_nil)))) (pa_cons (pe_tup (pa_cons pe_str pa_nil)) pa_nil))))) (pe_u c__law_next hr (by first | decide | omega) (by rfl) (pa_cons (pv 0) (pa_cons pe_int pa_nil))) (fun _ _ => rfl)))), ?_⟩
  refine ⟨by show 2 ≤ sizeLine; decide, fun p1 n1 => ⟨by show 2 ≤ sizeLine; decide, fun p2 n2 => ⟨by show 3 ≤ sizeLine; decide, fun p3 n3 => ⟨by show 1 ≤ sizeLine; decide, fun p4 n4 => ⟨by show 4 ≤ sizeLine; decide, fun l nl => ?_⟩⟩⟩⟩⟩
  have s1 := same_upd n1 (o := .tup [.str "number", .int 7])
  have s2 := same_upd n2 (o := .tup [.str "name", .str "a"])
  have s3 := same_upd n3 (o := .tup [.str "field", .str "t", .str "a"])
  have s4 := same_upd n4 (o := .tup [.str "null"])
  have s5 := same_upd nl (o := .lst [.ref p1, .ref p2, .ref p3, .ref p4])
  have d1 : Dp K _ (.ref p1) (Et.num 7).d := mk_dp n1 (.cons (.str _) (.cons (.int _) .nil))
  have d2 : Dp K _ (.ref p2) (Et.name "a").d := mk_dp n2 (.cons (.str _) (.cons (.str _) .nil))
  have d3 : Dp K _ (.ref p3) (Et.field "t" "a").d := mk_dp n3 (.cons (.str _) (.cons (.str _) (.cons (.str _) .nil)))
  have d4 : Dp K _ (.ref p4) Et.null.d := mk_dp n4 (.cons (.str _) .nil)
  have d1 := Dp.ext (((s2.trans s3).trans s4).trans s5) _ _ d1
  have d2 := Dp.ext ((s3.trans s4).trans s5) _ _ d2
  have d3 := Dp.ext (s4.trans s5) _ _ d3
  have d4 := Dp.ext s5 _ _ d4
  have s15 := (((s1.trans s2).trans s3).trans s4).trans s5
  have el : (upd (upd (upd (upd (upd H p1 (.tup [.str "number", .int 7])) p2 (.tup [.str "name", .str "a"])) p3 (.tup [.str "field", .str "t", .str "a"])) p4 (.tup [.str "null"])) l (.lst [.ref p1, .ref p2, .ref p3, .ref p4])) l = some (.lst [.ref p1, .ref p2, .ref p3, .ref p4]) := upd_same
  have nld : l ≠ d := by
    obtain ⟨_, ns, pos, rest, seed, h1, _⟩ := dr
    exact (ne_of_none ((((s1.trans s2).trans s3).trans s4) _ _ h1) nl).symm
  generalize (upd (upd (upd (upd (upd H p1 (.tup [.str "number", .int 7])) p2 (.tup [.str "name", .str "a"])) p3 (.tup [.str "field", .str "t", .str "a"])) p4 (.tup [.str "null"])) l (.lst [.ref p1, .ref p2, .ref p3, .ref p4])) = H5 at d1 d2 d3 d4 s15 el ⊢
  clear s1 s2 s3 s4 s5
  have dr5 := dr.ext s15
  refine ⟨_, rfl, d, c, 4, rfl, dr5, by decide, by decide, fun H6 r f6 _ dr6 r0 r1 => ?_⟩
  obtain ⟨k, rfl⟩ := Int.eq_ofNat_of_zero_le r0
  have hk : k < 4 := by omega
  have el6 := f6 _ _ nld el
  have fin : ∀ v e, Dp K H5 v e.d → Lf e → Q v H6 := fun v e h1 h2 => q H6 v e ((Fd.of s15).trans f6) dr6 (dpe_fd dr5 f6 h1) h2
  rcases (by omega : k = 0 ∨ k = 1 ∨ k = 2 ∨ k = 3) with rfl | rfl | rfl | rfl
  · exact ⟨l, _, _, .ref p1, rfl, rfl, .of el6, rfl, fin _ _ d1 (.inl rfl)⟩
  · exact ⟨l, _, _, .ref p2, rfl, rfl, .of el6, rfl, fin _ _ d2 (.inr (.inl rfl))⟩
  · exact ⟨l, _, _, .ref p3, rfl, rfl, .of el6, rfl, fin _ _ d3 (.inr (.inr (.inl rfl)))⟩
  · exact ⟨l, _, _, .ref p4, rfl, rfl, .of el6, rfl, fin _ _ d4 (.inr (.inr (.inr rfl)))⟩

theorem ok_wide (n : Nat) {f : Addr} {fd : FuncData} (F : Fun K "_law_wide" "_law_wide" s__law_wide f fd) (M : Mg mg) (c__law_next : Cl P w K mg base 1 "_law_next" sp_next) (c__law_leaf : Cl P w K mg base 2 "_law_leaf" (sp_leaf K)) (c__law_wide : Cl P w K mg base (n + 3) "_law_wide" (sp_wide K n)) : FnOk P w K mg base CX0 (n + 4) f fd ["draw", "goal"] (sp_wide K (n + 1)) := by
  refine F.ok sc__law_wide (fun vs H Q E h => ?_) (fun cdv A outer s H vs Q E hr h => ?_)
  · obtain ⟨d, c, g, rfl, _⟩ := h
    rfl
  obtain ⟨d, c, g, rfl, dr, hg, _, q⟩ := h
  refine ⟨_, (pss_cons (ps_if (pt_cmpR op_lt (pv 1) pe_int (nomark _)) (pss_one (ps_ret (pe_u c__law_leaf hr (by first | decide | omega) (by rfl) (pa_cons (pv 0) pa_nil)))) pss_nil)
      (pss_cons (ps_set (i := 2) sc__law_wide.nd rfl (.inl rfl) (pe_u c__law_wide hr (by first | decide | omega) (by rfl) (pa_cons (pv 0) (pa_cons (pe_op op_fdivW (pe_op op_sub (pv 1) pe_int) pe_int) pa_nil))))
      (pss_cons (ps_set (i := 3) sc__law_wide.nd rfl (.inl rfl) (pe_u c__law_wide hr (by first | decide | omega) (by rfl) (pa_cons (pv 0) (pa_cons (pe_op op_sub (pe_op op_sub (pv 1) pe_int) (pe_op op_fdivW (pe_op op_sub (pv 1) pe_int) pe_int)) pa_nil))))
      (pss_cons (ps_set (i := 4) sc__law_wide.nd rfl (.inl rfl) (pe_u c__law_next hr (by first | decide | omega) (by rfl) (pa_cons (pv 0) (pa_cons pe_int pa_nil))))
      (pss_cons (ps_set (i := 5) sc__law_wide.nd rfl (.inl rfl) (pe_ix (ix_listK K) (pe_lst (pa_cons pe_str (pa_cons pe_str (pa_cons pe_str (pa_cons pe_str (pa_cons pe_str (pa_cons pe_str pa_nil))))))) (pe_u c__law_next hr (by first | decide | omega) (by rfl) (pa_cons (pv 0) (pa_cons pe_int pa_nil))) (fun _ _ => rfl)))
      (pss_cons (ps_set (i := 6) sc__law_wide.nd rfl (.inl rfl) (pe_tup (pa_cons (pe_ix (ix_listK K) (pe_lst (pa_cons pe_str (pa_cons pe_str (pa_cons pe_str (pa_cons pe_str (pa_cons pe_str pa_nil)))))) (pe_u c__law_next hr (by first | decide | omega) (by rfl) (pa_cons (pv 0) (pa_cons pe_int pa_nil))) (fun _ _ => rfl)) (pa_cons (pv 2) (pa_cons (pv 3) pa_nil)))))
      (pss_cons (ps_if (pt_cmpR op_lt (pv 4) pe_int (nomark _)) (pss_one (ps_ret (pv 6))) pss_nil)
      (pss_cons (ps_if (pt_cmpR op_eq (pv 4) pe_int (nomark _)) (pss_one (ps_ret (pe_tup (pa_cons pe_str (pa_cons (pv 6) pa_nil))))) pss_nil)
      (pss_cons (ps_if (pt_cmpR op_eq (pv 4) pe_int (nomark _)) (pss_one (ps_ret (pe_tup (pa_cons pe_str (pa_cons (pe_u c__law_leaf hr (by first | decide | omega) (by rfl) (pa_cons (pv 0) pa_nil)) (pa_cons (pv 6) pa_nil)))))) pss_nil)
      (pss_cons (ps_if (pt_cmpR op_eq (pv 4) pe_int (nomark _)) (pss_one (ps_ret (pe_tup (pa_cons pe_str (pa_cons (pe_tup (pa_cons pe_str (pa_cons (pe_tup (pa_cons (pv 5) (pa_cons (pv 2) (pa_cons (pv 3) pa_nil)))) (pa_cons (pe_tup (pa_cons pe_str (pa_cons pe_str pa_nil))) (pa_cons (pe_tup (pa_cons pe_str (pa_cons pe_str pa_nil))) pa_nil))))) pa_nil))))) pss_nil)
      (pss_cons (ps_if (pt_cmpR op_eq (pv 4) pe_int (nomark _)) (pss_one (ps_ret (pe_tup (pa_cons pe_str (pa_cons (pe_tup (pa_cons (pv 5) (pa_cons (pv 2) (pa_cons (pv 3) pa_nil)))) (pa_cons (pe_u c__law_leaf hr (by first | decide | omega) (by rfl) (pa_cons (pv 0) pa_nil)) (pa_cons (pe_tup (pa_cons pe_str (pa_cons pe_int pa_nil))) pa_nil))))))) pss_nil)
      (pss_one (ps_ret (pe_tup (pa_cons pe_str (pa_cons (pe_tup (pa_cons pe_str (pa_cons (pe_tup (pa_cons pe_str (pa_cons (pe_tup (pa_cons pe_str (pa_cons pe_str pa_nil))) pa_nil))) (pa_cons (pe_tup (pa_cons pe_str (pa_cons (pe_u c__law_leaf hr (by first | decide | omega) (by rfl) (pa_cons (pv 0) pa_nil)) pa_nil))) pa_nil)))) (pa_cons (pv 2) (pa_cons (pv 3) pa_nil)))))))))))))))))), ?_⟩
  refine ⟨_, rfl, _, _, rfl, rfl, _, rfl, ?_⟩
  by_cases h4 : g < 4
  · rw [decide_eq_true (show ((g : Nat) : Int) < 4 by omega)]
    refine iteT ⟨_, rfl, d, c, rfl, dr, fun H' v e f1 dr' hd hl => ?_⟩
    obtain ⟨hw, h0⟩ := lf_wk hl
    exact q H' v e f1 dr' hd hw (by omega)
  rw [decide_eq_false (show ¬ ((g : Nat) : Int) < 4 by omega)]
  have hp2 : 2 ^ (n + 1 + 1) = 2 * 2 ^ (n + 1) := by rw [Nat.pow_succ 2 (n + 1)]; omega
  have hn0 : 0 < n := by
    rcases Nat.eq_zero_or_pos n with rfl | h
    · exact absurd hg (by show ¬ g < 4; omega)
    · exact h
  have hdv : ∀ x : Int, CDivW x 2 := fun x => ⟨by decide, by decide +kernel⟩
  have e1 : (((g : Nat) : Int) - 2) / 2 = (((g - 2) / 2 : Nat) : Int) := by omega
  have e2 : ((g : Nat) : Int) - 2 - (((g : Nat) : Int) - 2) / 2 = ((g - 2 - (g - 2) / 2 : Nat) : Int) := by omega
  refine iteF ?_
  refine ⟨_, rfl, _, rfl, _, _, rfl, rfl, _, _, rfl, rfl, hdv _, d, c, (g - 2) / 2, by
    show [V.ref d, V.int ((((g : Nat) : Int) - 2) / 2)] = _
    rw [e1], dr, by omega, hn0, fun H1 l el f1 dr1 dl wl hl => ?_⟩
  refine ⟨_, rfl, _, rfl, _, _, rfl, rfl, _, rfl, _, _, rfl, rfl, _, _, rfl, rfl, hdv _, _, _, rfl, rfl, d, c, g - 2 - (g - 2) / 2, by
    show [V.ref d, V.int (((g : Nat) : Int) - 2 - (((g : Nat) : Int) - 2) / 2)] = _
    rw [e2], dr1, by omega, hn0, fun H2 r er f2 dr2 dr' wr hr => ?_⟩
  have dl2 := dpe_fd dr1 f2 dl
  refine ⟨_, rfl, d, c, 8, rfl, dr2, by decide, by decide, fun H3 fo f3 _ dr3 _ _ => ?_⟩
  have dl3 := dpe_fd dr2 f3 dl2
  have dr3' := dpe_fd dr2 f3 dr'
  have f03 := (f1.trans f2).trans f3
  refine ⟨by show 6 ≤ sizeLine; decide, fun l6 n6 => ?_⟩
  have s6 := same_upd n6 (o := .lst ([Ow.lt, .le, .eq, .ne, .ge, .gt].map fun o => V.str o.w))
  have el6 : (upd H3 l6 (.lst ([Ow.lt, .le, .eq, .ne, .ge, .gt].map fun o => V.str o.w))) l6 = some (.lst ([Ow.lt, .le, .eq, .ne, .ge, .gt].map fun o => V.str o.w)) := upd_same
  have n6d : l6 ≠ d := by
    obtain ⟨_, ns, pos, rest, seed, h1, _⟩ := dr3
    exact (ne_of_none h1 n6).symm
  show tCall sp_next [] E0 _ _ (upd H3 l6 (.lst ([Ow.lt, .le, .eq, .ne, .ge, .gt].map fun o => V.str o.w))) _
  generalize upd H3 l6 (.lst ([Ow.lt, .le, .eq, .ne, .ge, .gt].map fun o => V.str o.w)) = H4 at s6 el6 ⊢
  have dr4 := dr3.ext s6
  refine ⟨_, rfl, d, c, 6, rfl, dr4, by decide, by decide, fun H5 k6 f5 _ dr5 r0 r1 => ?_⟩
  obtain ⟨k6, rfl⟩ := Int.eq_ofNat_of_zero_le r0
  obtain ⟨o6, ho6, eo6⟩ := pickO (ops := [.lt, .le, .eq, .ne, .ge, .gt]) (k := k6) (by show k6 < 6; omega)
  have hcmp : o6.cmp = true := by
    simp only [List.mem_cons, List.not_mem_nil, or_false] at ho6
    rcases ho6 with rfl | rfl | rfl | rfl | rfl | rfl <;> rfl
  have dl5 := dpe_fd dr4 f5 (Dp.ext s6 _ _ dl3)
  have dr5' := dpe_fd dr4 f5 (Dp.ext s6 _ _ dr3')
  have f05 := (f03.trans (Fd.of s6)).trans f5
  refine ⟨l6, _, _, .str o6.w, rfl, rfl, .of (f5 _ _ n6d el6), atI_nat eo6, ?_⟩
  clear f1 f2 f3 f03 s6 el6 dl dl2 dl3 dr' dr3' f5 dr1 dr2 dr3 dr4
  refine ⟨by show 5 ≤ sizeLine; decide, fun l5 n5 => ?_⟩
  have s5 := same_upd n5 (o := .lst ([Ow.add, .sub, .mul, .div, .mod].map fun o => V.str o.w))
  have el5 : (upd H5 l5 (.lst ([Ow.add, .sub, .mul, .div, .mod].map fun o => V.str o.w))) l5 = some (.lst ([Ow.add, .sub, .mul, .div, .mod].map fun o => V.str o.w)) := upd_same
  have n5d : l5 ≠ d := by
    obtain ⟨_, ns, pos, rest, seed, h1, _⟩ := dr5
    exact (ne_of_none h1 n5).symm
  show tCall sp_next [] E0 _ _ (upd H5 l5 (.lst ([Ow.add, .sub, .mul, .div, .mod].map fun o => V.str o.w))) _
  generalize upd H5 l5 (.lst ([Ow.add, .sub, .mul, .div, .mod].map fun o => V.str o.w)) = H6 at s5 el5 ⊢
  have dr6 := dr5.ext s5
  refine ⟨_, rfl, d, c, 5, rfl, dr6, by decide, by decide, fun H7 k5 f7 _ dr7 r0 r1 => ?_⟩
  obtain ⟨k5, rfl⟩ := Int.eq_ofNat_of_zero_le r0
  obtain ⟨o5, ho5, eo5⟩ := pickO (ops := [.add, .sub, .mul, .div, .mod]) (k := k5) (by show k5 < 5; omega)
  have hw5 : o5.want = some (.int, .int) ∧ o5.ar = 2 := by
    simp only [List.mem_cons, List.not_mem_nil, or_false] at ho5
    rcases ho5 with rfl | rfl | rfl | rfl | rfl <;> exact ⟨rfl, rfl⟩
  have dl7 := dpe_fd dr6 f7 (Dp.ext s5 _ _ dl5)
  have dr7' := dpe_fd dr6 f7 (Dp.ext s5 _ _ dr5')
  have f07 := (f05.trans (Fd.of s5)).trans f7
  refine ⟨l5, _, _, .str o5.w, rfl, rfl, .of (f7 _ _ n5d el5), atI_nat eo5, _, rfl, _, rfl, by show 3 ≤ sizeLine; decide, fun pb npb => ?_⟩
  have sb := same_upd npb (o := .tup [.str o5.w, l, r])
  have db : Dp K _ (.ref pb) (Et.op2 o5 el er).d := mk_dp npb (.cons (.str _) (.cons dl7 (.cons dr7' .nil)))
  have dlB := Dp.ext sb _ _ dl7
  have drB := Dp.ext sb _ _ dr7'
  have drw := dr7.ext sb
  have f0B := f07.trans (Fd.of sb)
  generalize upd H7 pb (.tup [.str o5.w, l, r]) = HB at sb db dlB drB drw f0B ⊢
  clear f05 s5 el5 dl5 dr5' f7 dr5 dr6 dl7 dr7' f07 sb dr7 eo5 eo6 npb
  have wkb : Wk c26 .int (.op2 o5 el er) := wk2 (x := .int) hw5.1 hw5.2 wl wr
  have wkc : Wk c26 .truth (.op2 o6 el er) := wk_cmp hcmp wl wr
  have hB : (Et.op2 o5 el er).ht ≤ 3 * n + 1 := by show max el.ht er.ht + 1 ≤ _; omega
  have hC : (Et.op2 o6 el er).ht ≤ 3 * n + 1 := by show max el.ht er.ht + 1 ≤ _; omega
  refine ⟨_, rfl, _, _, rfl, rfl, _, rfl, ite2 (fun _ => ?_) (fun _ => ?_)⟩
  · exact ⟨_, rfl, q HB _ _ f0B drw db wkb (by omega)⟩
  refine ⟨_, rfl, rfl, _, rfl, ite2 (fun _ => ?_) (fun _ => ?_)⟩
  · refine ⟨_, rfl, by show 2 ≤ sizeLine; decide, fun p np => ?_⟩
    have s1 := same_upd np (o := .tup [.str "negate", .ref pb])
    exact q _ (.ref p) (.op1 .neg (.op2 o5 el er)) (f0B.trans (Fd.of s1)) (drw.ext s1) (mk_dp np (.cons (.str _) (.cons db .nil))) (wk1 (x := .int) rfl rfl wkb) (by show (Et.op2 o5 el er).ht + 1 ≤ _; omega)
  refine ⟨_, rfl, rfl, _, rfl, ite2 (fun _ => ?_) (fun _ => ?_)⟩
  · refine ⟨_, rfl, d, c, rfl, drw, fun H7 v e f7 dr7 hd hl => ⟨_, rfl, by show 3 ≤ sizeLine; decide, fun p np => ?_⟩⟩
    obtain ⟨hw, h0⟩ := lf_wk hl
    have s1 := same_upd np (o := .tup [.str "coalesce", v, .ref pb])
    exact q _ (.ref p) (.op2 .coalesce e (.op2 o5 el er)) ((f0B.trans f7).trans (Fd.of s1)) (dr7.ext s1) (mk_dp np (.cons (.str _) (.cons hd (.cons (dpe_fd drw f7 db) .nil)))) (wk_coalesce hw wkb) (by show max e.ht (Et.op2 o5 el er).ht + 1 ≤ _; omega)
  refine ⟨_, rfl, rfl, _, rfl, ite2 (fun _ => ?_) (fun _ => ?_)⟩
  · refine ⟨_, rfl, _, rfl, _, rfl, by show 3 ≤ sizeLine; decide, fun p1 n1 => ⟨by show 2 ≤ sizeLine; decide, fun p2 n2 => ⟨by show 2 ≤ sizeLine; decide, fun p3 n3 => ⟨by show 4 ≤ sizeLine; decide, fun p4 n4 => ⟨by show 2 ≤ sizeLine; decide, fun p5 n5 => ?_⟩⟩⟩⟩⟩
    have s1 := same_upd n1 (o := .tup [.str o6.w, l, r])
    have s2 := same_upd n2 (o := .tup [.str "name", .str "b"])
    have s3 := same_upd n3 (o := .tup [.str "text", .str "x"])
    have s4 := same_upd n4 (o := .tup [.str "if", .ref p1, .ref p2, .ref p3])
    have s5 := same_upd n5 (o := .tup [.str "length", .ref p4])
    have d1 : Dp K _ (.ref p1) (Et.op2 o6 el er).d := mk_dp n1 (.cons (.str _) (.cons dlB (.cons drB .nil)))
    have d2 : Dp K _ (.ref p2) (Et.name "b").d := mk_dp n2 (.cons (.str _) (.cons (.str _) .nil))
    have d3 : Dp K _ (.ref p3) (Et.text "x").d := mk_dp n3 (.cons (.str _) (.cons (.str _) .nil))
    have d4 : Dp K _ (.ref p4) (Et.op3 .ite (.op2 o6 el er) (.name "b") (.text "x")).d := mk_dp n4 (.cons (.str _) (.cons (Dp.ext (s2.trans s3) _ _ d1) (.cons (Dp.ext s3 _ _ d2) (.cons d3 .nil))))
    exact q _ (.ref p5) (.op1 .length (.op3 .ite (.op2 o6 el er) (.name "b") (.text "x"))) (f0B.trans (Fd.of ((((s1.trans s2).trans s3).trans s4).trans s5))) (drw.ext ((((s1.trans s2).trans s3).trans s4).trans s5)) (mk_dp n5 (.cons (.str _) (.cons d4 .nil))) (wk1 (x := .text) rfl rfl (wk_if wkc wk_b (wk_text "x"))) (by show max (Et.op2 o6 el er).ht (max 0 0) + 1 + 1 ≤ _; omega)
  refine ⟨_, rfl, rfl, _, rfl, ite2 (fun _ => ?_) (fun _ => ?_)⟩
  · refine ⟨_, rfl, _, rfl, _, rfl, by show 3 ≤ sizeLine; decide, fun p1 n1 => ?_⟩
    have s1 := same_upd n1 (o := .tup [.str o6.w, l, r])
    have d1 : Dp K _ (.ref p1) (Et.op2 o6 el er).d := mk_dp n1 (.cons (.str _) (.cons dlB (.cons drB .nil)))
    refine ⟨_, rfl, d, c, rfl, drw.ext s1, fun H7 v e f7 dr7 hd hl => ⟨by show 2 ≤ sizeLine; decide, fun p2 n2 => ⟨by show 4 ≤ sizeLine; decide, fun p3 n3 => ?_⟩⟩⟩
    obtain ⟨hw, h0⟩ := lf_wk hl
    have s2 := same_upd n2 (o := .tup [.str "number", .int 1])
    have s3 := same_upd n3 (o := .tup [.str "if", .ref p1, v, .ref p2])
    have d2 : Dp K _ (.ref p2) (Et.num 1).d := mk_dp n2 (.cons (.str _) (.cons (.int _) .nil))
    exact q _ (.ref p3) (.op3 .ite (.op2 o6 el er) e (.num 1)) (((f0B.trans (Fd.of s1)).trans f7).trans (Fd.of (s2.trans s3))) (dr7.ext (s2.trans s3)) (mk_dp n3 (.cons (.str _) (.cons (Dp.ext s2 _ _ (dpe_fd (drw.ext s1) f7 d1)) (.cons (Dp.ext s2 _ _ hd) (.cons d2 .nil))))) (wk_if wkc hw (wk_num 1)) (by show max (Et.op2 o6 el er).ht (max e.ht 0) + 1 ≤ _; omega)
  refine ⟨by show 2 ≤ sizeLine; decide, fun p1 n1 => ⟨by show 2 ≤ sizeLine; decide, fun p2 n2 => ?_⟩⟩
  have s1 := same_upd n1 (o := .tup [.str "name", .str "c"])
  have s2 := same_upd n2 (o := .tup [.str "not", .ref p1])
  have d1 : Dp K _ (.ref p1) (Et.name "c").d := mk_dp n1 (.cons (.str _) (.cons (.str _) .nil))
  have d2 : Dp K _ (.ref p2) (Et.op1 .nt (.name "c")).d := mk_dp n2 (.cons (.str _) (.cons d1 .nil))
  have dr2 := drw.ext (s1.trans s2)
  refine ⟨_, rfl, d, c, rfl, dr2, fun H7 v e f7 dr7 hd hl => ⟨by show 2 ≤ sizeLine; decide, fun p3 n3 => ⟨by show 3 ≤ sizeLine; decide, fun p4 n4 => ⟨_, rfl, _, rfl, by show 4 ≤ sizeLine; decide, fun p5 n5 => ?_⟩⟩⟩⟩
  obtain ⟨hw, h0⟩ := lf_wk hl
  have s3 := same_upd n3 (o := .tup [.str "missing", v])
  have s4 := same_upd n4 (o := .tup [.str "and", .ref p2, .ref p3])
  have s5 := same_upd n5 (o := .tup [.str "if", .ref p4, l, r])
  have d3 : Dp K _ (.ref p3) (Et.op1 .missing e).d := mk_dp n3 (.cons (.str _) (.cons hd .nil))
  have d4 : Dp K _ (.ref p4) (Et.op2 .and (.op1 .nt (.name "c")) (.op1 .missing e)).d := mk_dp n4 (.cons (.str _) (.cons (Dp.ext s3 _ _ (dpe_fd dr2 f7 d2)) (.cons d3 .nil)))
  have fl := dpe_fd dr2 f7 (Dp.ext (s1.trans s2) _ _ dlB)
  have fr := dpe_fd dr2 f7 (Dp.ext (s1.trans s2) _ _ drB)
  exact q _ (.ref p5) (.op3 .ite (.op2 .and (.op1 .nt (.name "c")) (.op1 .missing e)) el er) (((f0B.trans (Fd.of (s1.trans s2))).trans f7).trans (Fd.of ((s3.trans s4).trans s5))) (dr7.ext ((s3.trans s4).trans s5)) (mk_dp n5 (.cons (.str _) (.cons d4 (.cons (Dp.ext (s3.trans s4) _ _ fl) (.cons (Dp.ext (s3.trans s4) _ _ fr) .nil))))) (wk_if (wk2 (x := .truth) rfl rfl (wk1 (x := .truth) rfl rfl wk_c) (wk_missing hw)) wl wr) (by show max (max (0 + 1) (e.ht + 1) + 1) (max el.ht er.ht) + 1 ≤ _; omega)
theorem cl_wide {f : Addr} {fd : FuncData} (F : Fun K "_law_wide" "_law_wide" s__law_wide f fd) (M : Mg mg) (g : mg "_law_wide" = some (.ref f)) (b : Binds K fd ["draw", "goal"] []) (c__law_next : Cl P w K mg base 1 "_law_next" sp_next) (c__law_leaf : Cl P w K mg base 2 "_law_leaf" (sp_leaf K)) : ∀ n, Cl P w K mg base (n + 3) "_law_wide" (sp_wide K n)
  | 0 => FnOk.cl (P := P) (w := w) (base := base) (F.ok sc__law_wide (fun vs H Q E h => by obtain ⟨d, c, g, rfl, _⟩ := h; rfl) (fun cdv A outer s H vs Q E hr h => by obtain ⟨d, c, g, rfl, _, _, h0, _⟩ := h; exact absurd h0 (Nat.lt_irrefl _))) F g b
  | n + 1 => FnOk.cl (ok_wide n F M c__law_next c__law_leaf (cl_wide F M g b c__law_next c__law_leaf n)) F g b
theorem ok_exact (n : Nat) {f : Addr} {fd : FuncData} (F : Fun K "_law_exact" "_law_exact" s__law_exact f fd) (M : Mg mg) (c__law_leaf : Cl P w K mg base 2 "_law_leaf" (sp_leaf K)) (c__law_exact : Cl P w K mg base (n + 3) "_law_exact" (sp_exact K n)) : FnOk P w K mg base CX0 (n + 4) f fd ["draw", "size"] (sp_exact K (n + 1)) := by
  refine F.ok sc__law_exact (fun vs H Q E h => ?_) (fun cdv A outer s H vs Q E hr h => ?_)
  · obtain ⟨d, c, g, rfl, _⟩ := h
    rfl
  obtain ⟨d, c, g, rfl, dr, hg, _, q⟩ := h
  refine ⟨_, (pss_cons (ps_if (pt_cmpR op_lt (pv 1) pe_int (nomark _)) (pss_one (ps_ret (pe_ifExp (pt_cmpR op_eq (pv 1) pe_int (nomark _)) (pe_u c__law_leaf hr (by first | decide | omega) (by rfl) (pa_cons (pv 0) pa_nil)) (pe_tup (pa_cons pe_str (pa_cons (pe_u c__law_leaf hr (by first | decide | omega) (by rfl) (pa_cons (pv 0) pa_nil)) pa_nil)))))) pss_nil)
      (pss_cons (ps_set (i := 2) sc__law_exact.nd rfl (.inl rfl) (pe_op op_fdivW (pe_op op_sub (pv 1) pe_int) pe_int))
      (pss_one (ps_ret (pe_tup (pa_cons pe_str (pa_cons (pe_u c__law_exact hr (by first | decide | omega) (by rfl) (pa_cons (pv 0) (pa_cons (pv 2) pa_nil))) (pa_cons (pe_u c__law_exact hr (by first | decide | omega) (by rfl) (pa_cons (pv 0) (pa_cons (pe_op op_sub (pe_op op_sub (pv 1) pe_int) (pv 2)) pa_nil))) pa_nil)))))))), ?_⟩
  refine ⟨_, rfl, _, _, rfl, rfl, _, rfl, ?_⟩
  by_cases h3 : g < 3
  · rw [decide_eq_true (show ((g : Nat) : Int) < 3 by omega)]
    refine iteT ⟨_, rfl, rfl, _, rfl, ?_⟩
    refine ite2 (fun _ => ?_) (fun _ => ?_)
    · refine ⟨_, rfl, d, c, rfl, dr, fun H' v e f1 dr' hd hl => ?_⟩
      obtain ⟨hw, h0⟩ := lf_wk hl
      exact q H' v e f1 dr' hd hw (by omega)
    · refine ⟨_, rfl, d, c, rfl, dr, fun H' v e f1 dr' hd hl => ⟨by show 2 ≤ sizeLine; decide, fun p np => ?_⟩⟩
      obtain ⟨hw, h0⟩ := lf_wk hl
      have s1 := same_upd np (o := .tup [.str "negate", v])
      exact q _ (.ref p) (.op1 .neg e) (f1.trans (Fd.of s1)) (dr'.ext s1) (mk_dp np (.cons (.str _) (.cons hd .nil))) (wk1 (x := .int) rfl rfl hw) (by show e.ht + 1 ≤ _; omega)
  rw [decide_eq_false (show ¬ ((g : Nat) : Int) < 3 by omega)]
  have hp2 : 2 ^ (n + 1) = 2 * 2 ^ n := by rw [Nat.pow_succ]; omega
  have e1 : (((g : Nat) : Int) - 1) / 2 = (((g - 1) / 2 : Nat) : Int) := by omega
  have e2 : ((g : Nat) : Int) - 1 - (((g - 1) / 2 : Nat) : Int) = ((g - 1 - (g - 1) / 2 : Nat) : Int) := by omega
  have hn0 : 0 < n := by
    rcases Nat.eq_zero_or_pos n with rfl | h
    · exact absurd hg (by show ¬ g ≤ 2; omega)
    · exact h
  refine iteF ?_
  refine ⟨_, rfl, _, _, rfl, rfl, _, _, rfl, rfl, ⟨by decide, by decide +kernel⟩, ?_⟩
  show gName 2 (V.int ((((g : Nat) : Int) - 1) / 2)) _ H _
  rw [e1]
  refine ⟨_, rfl, _, rfl, d, c, (g - 1) / 2, rfl, dr, by omega, hn0, fun H1 l el f1 dr1 dl wl hl => ?_⟩
  refine ⟨_, rfl, _, rfl, _, _, rfl, rfl, _, rfl, _, _, rfl, rfl, d, c, g - 1 - (g - 1) / 2, by
    show [V.ref d, V.int (((g : Nat) : Int) - 1 - (((g - 1) / 2 : Nat) : Int))] = _
    rw [e2], dr1, by omega, hn0, fun H2 r er f2 dr2 dr' wr hr => ⟨by show 3 ≤ sizeLine; decide, fun p np => ?_⟩⟩
  have s1 := same_upd np (o := .tup [.str "+", l, r])
  exact q _ (.ref p) (.op2 .add el er) ((f1.trans f2).trans (Fd.of s1)) (dr2.ext s1) (mk_dp np (.cons (.str _) (.cons (dpe_fd dr1 f2 dl) (.cons dr' .nil)))) (wk2 (x := .int) rfl rfl wl wr) (by show max el.ht er.ht + 1 ≤ _; omega)
theorem cl_exact {f : Addr} {fd : FuncData} (F : Fun K "_law_exact" "_law_exact" s__law_exact f fd) (M : Mg mg) (g : mg "_law_exact" = some (.ref f)) (b : Binds K fd ["draw", "size"] []) (c__law_leaf : Cl P w K mg base 2 "_law_leaf" (sp_leaf K)) : ∀ n, Cl P w K mg base (n + 3) "_law_exact" (sp_exact K n)
  | 0 => FnOk.cl (P := P) (w := w) (base := base) (F.ok sc__law_exact (fun vs H Q E h => by obtain ⟨d, c, g, rfl, _⟩ := h; rfl) (fun cdv A outer s H vs Q E hr h => by obtain ⟨d, c, g, rfl, _, _, h0, _⟩ := h; exact absurd h0 (Nat.lt_irrefl _))) F g b
  | n + 1 => FnOk.cl (ok_exact n F M c__law_leaf (cl_exact F M g b c__law_leaf n)) F g b
def sp_told (C : Addr) (K : PySem.W.Frag) (n : Nat) : Sp := fun vs H Q _ => ∃ (ca : Addr) (v : V) (ys : List V) (e : Et), vs = [.ref ca, v] ∧ H ca = some (.lst ys) ∧ DpAll K H ys (c26.map Col.d) ∧ Dp K H v e.d ∧ e.ok ∧ e.ht < n ∧
  (∀ r, comp c26 e = .ok r → ∀ H', Same H H' → Q (.str (if r.2.2 ≤ 200 then "done" else "too large")) H') ∧ ∀ m, comp c26 e = .error m → ∀ H', Same H H' → Q (.str m) H'
theorem ok_told (n : Nat) {f : Addr} {fd : FuncData} (F : Fun K "_law_told" "_law_told" s__law_told f fd) (M : Mg mg) (PB : PrbE P w K mg base C) (xf : XfC K C) (n3 : PySem.W.findIn K (.ref C) "message" = some none) (te : PySem.W.exmOne K (.ref C) (.ref C) = some true) (cx_compile_expression : ClX P w K mg base (n + 6) "compile_expression" (sp_ce C K n)) : FnOk P w K mg base CX0 (n + 7) f fd ["columns", "tree"] (sp_told C K n) := by
  obtain ⟨f1, fd1, ps1, F1, hm1, kp1, b1⟩ := cx_compile_expression.ex
  refine F.ok sc__law_told (fun vs H Q E h => ?_) (fun cdv A outer s H vs Q E hr h => ?_)
  · obtain ⟨ca, v, ys, e, rfl, _⟩ := h
    rfl
  obtain ⟨ca, v, ys, e, rfl, hca, hcs, hv, hok, hht, q, fl⟩ := h
  refine ⟨_, pss_one (ps_try_as (i := 3) (Wout := fun _ _ _ _ => False) (c := .ref C) rfl rfl sc__law_told.nd rfl rfl ⟨rfl, by decide, Or.inl PB.nm⟩ takes0
    (fun W pn xe tk _ => pss_cons (ps_set (i := 2) sc__law_told.nd rfl (.inl rfl) (pe_callS F1 hr rfl hm1 kp1 b1 (fun σ => passAt tk σ) (by exact (pa_cons (pv 0) (pa_cons (pv 1) pa_nil))))) (pss_one (ps_ret (pe_ifExp (PW.pt (pw_and (pt_val (pe_callB (isiK K) (by rfl) M.isinstance (by decide +kernel) (pa_cons (pv 2) (pa_cons (pe_bltn (v := .ty "tuple") (by rfl) M.tuple (by decide +kernel) rfl) pa_nil)))) (pw_and1 (pt_cmpR op_eq (pe_callB (len_seqK K) (by rfl) M.len PySem.boot_len (pa_cons (pv 2) pa_nil)) pe_int (nomark _))))) pe_str pe_str))))
    (fun a oe cls d pn hz hf => pss_one (ps_ret (pe_xf xf n3 hz hf (pv 3))))), ?_⟩
  have catch_ : ∀ {m : Str} {H1 : Hp}, Same H H1 → (∀ H', Same H H' → Q (.str m) H') → Pf C m (fun cls d H' => wAs K (.ref C) 3 (fun a cls d => tRet (tXf a cls d C "message" (tVar 3))) (fun _ _ _ _ => False) { nx := fun x H' => Q V.non H', rt := Q } cls d [some (.ref ca), some v, none, none] H') H1 := fun {m H1} s1 hq d H' nd s' e' => ⟨true, te, fun _ a0 _ => ⟨_, rfl, rfl, rfl, d, _, _, rfl, e', rfl, hq _ (s1.trans s')⟩, fun z => Bool.noConfusion z⟩
  refine ⟨_, rfl, _, rfl, ca, v, c26, ys, e, rfl, hca, hcs, by decide, fun c hc => ?_, hv, hok, hht, fun r hr h200 H' x s' hx => ?_, fun r hr h200 => ?_, fun m hm => ?_⟩
  · simp only [c26, List.mem_cons, List.not_mem_nil, or_false] at hc
    rcases hc with rfl | rfl | rfl
    · exact ⟨by decide +kernel, fun x e => by cases e; decide +kernel⟩
    · exact ⟨by decide +kernel, fun x e => by cases e; decide +kernel⟩
    · exact ⟨by decide +kernel, fun x e => by cases e; decide +kernel⟩
  · obtain ⟨t, xs, e1, ht, hx'⟩ := dp_tup hx
    cases e1
    have lx := DpAll.len hx'
    refine ⟨_, rfl, .ref x, .ty "tuple", _, _, true, rfl, .ty "tuple", tyT ht, kit_ty (by decide +kernel), _, rfl, ?_⟩
    refine iteT ⟨_, rfl, x, xs, rfl, .inr ht, rfl, _, rfl, ?_⟩
    rw [lx]
    have := q r hr H' s'
    rw [if_pos h200] at this
    exact iteT this
  · exact catch_ (fun _ _ h => h) fun H' s' => by
      have := q r hr H' s'
      rw [if_neg h200] at this
      exact this
  · exact catch_ (fun _ _ h => h) (fl m hm)

def tl26 : List Stmt → List Stmt
  | _ :: _ :: .For _ _ b _ _ :: _ => b.drop 4
  | _ => []
def tl26b : List Stmt → List Stmt
  | _ :: _ :: .For _ _ b _ _ :: _ => b.drop 3
  | _ => []
def sp_law (K : PySem.W.Frag) : Sp := fun vs H Q _ => ∃ (a : Addr) (ns : List Int), vs = [.ref a] ∧ SqL K H a (ns.map V.int) ∧ ns.length ≤ 63 ∧ ∀ H', Q (.bl true) H'
theorem ok_law {f : Addr} {fd : FuncData} (F : Fun K "law" "law" s_law f fd) (M : Mg mg) (c__law_draw : Cl P w K mg base 1 "_law_draw" (sp_draw K)) (c__law_next : Cl P w K mg base 1 "_law_next" sp_next) (c__law_wide : Cl P w K mg base 10 "_law_wide" (sp_wide K 7)) (c__law_exact : Cl P w K mg base 11 "_law_exact" (sp_exact K 8)) (c__law_size : Cl P w K mg base 31 "_law_size" (sp_size K 30)) (c__law_told : Cl P w K mg base 37 "_law_told" (sp_told C K 30)) (c__law_same : Cl P w K mg base 6 "_law_same" (sp_same K 5)) : FnOk P w K mg base CX0 38 f fd ["script"] (sp_law K) := by
  refine F.ok sc_law (fun vs H Q E h => ?_) (fun cdv A outer s H vs Q E hr h => ?_)
  · obtain ⟨a, ns, rfl, _⟩ := h
    rfl
  obtain ⟨a, ns, rfl, hS, _, q⟩ := h
  obtain ⟨t, ht', tail⟩ : ∃ t, PSs (cxOf CX0 P w K mg base N_law "law" (defScope s_law) f cdv A outer s H E).nox (tl26 (defBody s_law)) t ∧ ∀ (D : Ends) (H : Hp) (d l : Addr) (ys : List V) (z3 z5 z6 : Option V) (v : V) (e : Et), H l = some (.lst ys) → DpAll K H ys (c26.map Col.d) → Dp K H v e.d → (Wk c26 .int e ∨ Wk c26 .truth e) → e.ht ≤ 24 → (∀ H' y6, Same H H' → D.nx [some (.ref a), some (.ref d), some (.ref l), z3, some v, z5, y6] H') → t D [some (.ref a), some (.ref d), some (.ref l), z3, some v, z5, z6] H := by
    refine ⟨_, (pss_cons (ps_set (i := 6) sc_law.nd rfl (.inl rfl) (pe_ifExp (pt_cmpR op_gt (pe_u c__law_size hr (by first | decide | omega) (by rfl) (pa_cons (pv 4) pa_nil)) pe_int (nomark _)) pe_str pe_str))
      (pss_cons (ps_if (pt_not (pt_val (pe_u c__law_same hr (by first | decide | omega) (by rfl) (pa_cons (pe_u c__law_told hr (by first | decide | omega) (by rfl) (pa_cons (pv 2) (pa_cons (pv 4) pa_nil))) (pa_cons (pv 6) pa_nil))))) (pss_one (ps_ret pe_bl)) pss_nil)
      (pss_one (ps_if (pt_not (pt_val (pe_u c__law_same hr (by first | decide | omega) (by rfl) (pa_cons (pe_u c__law_told hr (by first | decide | omega) (by rfl) (pa_cons (pv 2) (pa_cons (pe_tup (pa_cons pe_str (pa_cons (pv 4) (pa_cons (pe_tup (pa_cons pe_str (pa_cons pe_str pa_nil))) pa_nil)))) pa_nil))) (pa_cons pe_str pa_nil))))) (pss_one (ps_ret pe_bl)) pss_nil)))), fun D H d l ys z3 z5 z6 v e el hcs hv hw hht q => ?_⟩
    obtain ⟨hok, r, hr, hsz⟩ : e.ok ∧ ∃ r, comp c26 e = .ok r ∧ r.2.2 = e.sz := by
      rcases hw with ⟨h1, r, h2, _, h3⟩ | ⟨h1, r, h2, _, h3⟩ <;> exact ⟨h1, r, h2, h3⟩
    refine ⟨_, rfl, v, e, rfl, hv, hok, by omega, fun H1 s1 => ⟨_, _, rfl, rfl, _, rfl, ?_⟩⟩
    refine tIf_v (v := V.str (if e.sz ≤ 200 then "done" else "too large")) (fun h Q q => ?_) (fun h Q q => ?_) ?_
    · rw [if_neg (show ¬ e.sz ≤ 200 by have := of_decide_eq_true h; omega)] at q
      exact q
    · rw [if_pos (show e.sz ≤ 200 by have := of_decide_eq_false h; omega)] at q
      exact q
    refine ⟨_, rfl, _, rfl, l, v, ys, e, rfl, s1 _ _ el, DpAll.ext s1 _ _ hcs, Dp.ext s1 _ _ hv, hok, by omega, fun r' hr' H2 s2 => ?_, fun m hm => absurd (hr.symm.trans hm) (fun z => nomatch z)⟩
    obtain rfl : r = r' := Except.ok.inj (hr.symm.trans hr')
    rw [hsz]
    refine ⟨_, rfl, _, _, .str (if e.sz ≤ 200 then "done" else "too large"), 4, rfl, rfl, .str _, .str _, .str _, fun H3 s3 => ⟨_, rfl, iteF ?_⟩⟩
    have s13 := (s1.trans s2).trans s3
    refine ⟨_, rfl, _, rfl, by show 2 ≤ sizeLine; decide, fun p1 n1 => ⟨by show 3 ≤ sizeLine; decide, fun p2 n2 => ?_⟩⟩
    have s4 := same_upd n1 (o := .tup [.str "name", .str "z"])
    have s5 := same_upd n2 (o := .tup [.str "+", v, .ref p1])
    have s15 := s13.trans (s4.trans s5)
    have d1 : Dp K _ (.ref p1) (Et.name "z").d := mk_dp n1 (.cons (.str _) (.cons (.str _) .nil))
    have okz : (Et.name "z").ok := ⟨by decide +kernel, by decide +kernel, by decide +kernel⟩
    have ez : comp c26 (.name "z") = .error "unknown name: z" := by
      have e0 : plcs c26 (fun c => decide (c.nm = "z")) = [] := by decide +kernel
      show namedC c26 _ _ = _
      unfold namedC
      rw [e0]
      exact congrArg Except.error (show (Str.empty ++ Str.ofString "unknown name: ") ++ tld ["z"] = Str.ofString "unknown name: z" by decide +kernel)
    have e2 : comp c26 (.op2 .add e (.name "z")) = .error "unknown name: z" := by
      show opC .add [comp c26 e, comp c26 (.name "z")] = _
      rw [hr, ez]
      rfl
    refine ⟨l, .ref p2, ys, .op2 .add e (.name "z"), rfl, s15 _ _ el, DpAll.ext s15 _ _ hcs, mk_dp n2 (.cons (.str _) (.cons (Dp.ext (s13.trans s4) _ _ hv) (.cons d1 .nil))), ⟨rfl, hok, okz⟩, by show max e.ht 0 + 1 < 30; omega, fun r' hr' => absurd (e2.symm.trans hr') (fun z => nomatch z), fun m hm H6 s6 => ?_⟩
    obtain rfl : _ = m := Except.error.inj (e2.symm.trans hm)
    exact ⟨_, _, .str "unknown name: z", 4, rfl, rfl, .str _, .str _, .str _, fun H7 s7 => ⟨_, rfl, iteF (q _ _ ((s15.trans s6).trans s7))⟩⟩
  obtain ⟨t3, ht3, tail3⟩ : ∃ t, PSs (cxOf CX0 P w K mg base N_law "law" (defScope s_law) f cdv A outer s H E).nox (tl26b (defBody s_law)) t ∧ ∀ (D : Ends) (H : Hp) (d c l : Addr) (ys : List V) (z3 z5 z6 : Option V) (v : V) (e : Et), Dr H d c → l ≠ d → H l = some (.lst ys) → DpAll K H ys (c26.map Col.d) → Dp K H v e.d → Wk c26 .int e → e.ht ≤ 23 → (∀ H' v' y6, Fd d H H' → Dr H' d c → D.nx [some (.ref a), some (.ref d), some (.ref l), z3, some v', z5, y6] H') → t D [some (.ref a), some (.ref d), some (.ref l), z3, some v, z5, z6] H := by
    refine ⟨_, (pss_cons (ps_if (pt_cmpR op_eq (pe_u c__law_next hr (by first | decide | omega) (by rfl) (pa_cons (pv 1) (pa_cons pe_int pa_nil))) pe_int (nomark _)) (pss_one (ps_set (i := 4) sc_law.nd rfl (.inl rfl) (pe_ifExp (pt_truthK K (pe_u c__law_next hr (by first | decide | omega) (by rfl) (pa_cons (pv 1) (pa_cons pe_int pa_nil))) (by intro _; rfl)) (pe_tup (pa_cons pe_str (pa_cons (pv 4) (pa_cons (pe_tup (pa_cons pe_str (pa_cons pe_int pa_nil))) pa_nil)))) (pe_tup (pa_cons pe_str (pa_cons (pv 4) (pa_cons (pe_tup (pa_cons pe_str (pa_cons pe_int pa_nil))) pa_nil))))))) pss_nil)
      ht'), fun D H d c l ys z3 z5 z6 v e dr nld el hcs hv hw hht q => ?_⟩
    refine ⟨_, rfl, d, c, 3, rfl, dr, by decide, by decide, fun H1 k1 f1 _ dr1 _ _ => ⟨rfl, _, rfl, ?_⟩⟩
    have el1 := f1 _ _ nld el
    have hv1 := dpe_fd dr f1 hv
    have hcs1 : DpAll K H1 ys (c26.map Col.d) := DpAll.fd dr.lst f1 _ _ rfl hcs
    refine ite2 (fun _ => ?_) (fun _ => ?_)
    · refine ⟨_, rfl, d, c, 2, rfl, dr1, by decide, by decide, fun H2 k2 f2 _ dr2 _ _ => ⟨_, rfl, ?_⟩⟩
      have el2 := f2 _ _ nld el1
      have hv2 := dpe_fd dr1 f2 hv1
      have hcs2 : DpAll K H2 ys (c26.map Col.d) := DpAll.fd dr1.lst f2 _ _ rfl hcs1
      refine ite2 (fun _ => ?_) (fun _ => ?_)
      · refine ⟨_, rfl, by show 2 ≤ sizeLine; decide, fun p1 n1 => ⟨by show 3 ≤ sizeLine; decide, fun p2 n2 => ?_⟩⟩
        have s1 := same_upd n1 (o := .tup [.str "number", .int 0])
        have s2 := same_upd n2 (o := .tup [.str "coalesce", v, .ref p1])
        have s12 := s1.trans s2
        have d1 : Dp K _ (.ref p1) (Et.num 0).d := mk_dp n1 (.cons (.str _) (.cons (.int _) .nil))
        exact tail D _ d l ys z3 z5 z6 (.ref p2) (.op2 .coalesce e (.num 0)) (s12 _ _ el2) (DpAll.ext s12 _ _ hcs2) (mk_dp n2 (.cons (.str _) (.cons (Dp.ext s1 _ _ hv2) (.cons d1 .nil)))) (.inl (wk_coalesce hw (wk_num 0))) (by show max e.ht 0 + 1 ≤ 24; omega) fun H' y6 s' => q H' _ y6 ((f1.trans f2).trans (Fd.of (s12.trans s'))) (dr2.ext (s12.trans s'))
      · refine ⟨_, rfl, by show 2 ≤ sizeLine; decide, fun p1 n1 => ⟨by show 3 ≤ sizeLine; decide, fun p2 n2 => ?_⟩⟩
        have s1 := same_upd n1 (o := .tup [.str "number", .int 3])
        have s2 := same_upd n2 (o := .tup [.str "<=", v, .ref p1])
        have s12 := s1.trans s2
        have d1 : Dp K _ (.ref p1) (Et.num 3).d := mk_dp n1 (.cons (.str _) (.cons (.int _) .nil))
        exact tail D _ d l ys z3 z5 z6 (.ref p2) (.op2 .le e (.num 3)) (s12 _ _ el2) (DpAll.ext s12 _ _ hcs2) (mk_dp n2 (.cons (.str _) (.cons (Dp.ext s1 _ _ hv2) (.cons d1 .nil)))) (.inr (wk_cmp rfl hw (wk_num 3))) (by show max e.ht 0 + 1 ≤ 24; omega) fun H' y6 s' => q H' _ y6 ((f1.trans f2).trans (Fd.of (s12.trans s'))) (dr2.ext (s12.trans s'))
    · exact tail D _ d l ys z3 z5 z6 v e el1 hcs1 hv1 (.inl hw) (by omega) fun H' y6 s' => q H' _ y6 (f1.trans (Fd.of s')) (dr1.ext s')
  refine ⟨_, (pss_cons (ps_set (i := 1) sc_law.nd rfl (.inl rfl) (pe_u c__law_draw hr (by first | decide | omega) (by rfl) (pa_cons (pv 0) pa_nil)))
      (pss_cons (ps_set (i := 2) sc_law.nd rfl (.inl rfl) (pe_lst (pa_cons (pe_tup (pa_cons pe_str (pa_cons pe_str (pa_cons pe_str pa_nil)))) (pa_cons (pe_tup (pa_cons pe_str (pa_cons pe_str (pa_cons pe_str pa_nil)))) (pa_cons (pe_tup (pa_cons pe_str (pa_cons pe_str (pa_cons pe_str pa_nil)))) pa_nil)))))
      (pss_cons (ps_for PassesOwn.never rfl (pi_range1 (by rfl) M.range (pa_cons pe_int pa_nil)) (pg_name (i := 3) sc_law.nd rfl (.inl rfl)) (pss_cons (ps_set (i := 4) sc_law.nd rfl (.inl rfl) (pe_tup (pa_cons pe_str (pa_cons (pe_tup (pa_cons pe_str (pa_cons pe_str pa_nil))) (pa_cons (pe_u c__law_wide hr (by first | decide | omega) (by rfl) (pa_cons (pv 1) (pa_cons (pe_op op_add pe_int (pe_u c__law_next hr (by first | decide | omega) (by rfl) (pa_cons (pv 1) (pa_cons pe_int pa_nil)))) pa_nil))) pa_nil)))))
      (pss_cons (ps_set (i := 5) sc_law.nd rfl (.inl rfl) (pe_op op_sub (pe_op op_add pe_int (pe_u c__law_next hr (by first | decide | omega) (by rfl) (pa_cons (pv 1) (pa_cons pe_int pa_nil)))) (pe_u c__law_size hr (by first | decide | omega) (by rfl) (pa_cons (pv 4) pa_nil))))
      (pss_cons (ps_if (pt_cmpR op_gt (pv 5) pe_int (nomark _)) (pss_one (ps_set (i := 4) sc_law.nd rfl (.inl rfl) (pe_tup (pa_cons pe_str (pa_cons (pv 4) (pa_cons (pe_u c__law_exact hr (by first | decide | omega) (by rfl) (pa_cons (pv 1) (pa_cons (pe_op op_sub (pv 5) pe_int) pa_nil))) pa_nil)))))) pss_nil)
      ht3))))
      (pss_one (ps_ret pe_bl))))), ?_⟩
  refine ⟨_, rfl, a, ns, rfl, hS, fun H1 d c s1 nd dr => ?_⟩
  refine ⟨by show 3 ≤ sizeLine; decide, fun p1 n1 => ⟨by show 3 ≤ sizeLine; decide, fun p2 n2 => ⟨by show 3 ≤ sizeLine; decide, fun p3 n3 => ⟨by show 3 ≤ sizeLine; decide, fun l nl => ?_⟩⟩⟩⟩
  have u1 := same_upd n1 (o := .tup [.str "t", .str "a", .str "int"])
  have u2 := same_upd n2 (o := .tup [.str "t", .str "b", .str "text"])
  have u3 := same_upd n3 (o := .tup [.str "t", .str "c", .str "truth"])
  have u4 := same_upd nl (o := .lst [.ref p1, .ref p2, .ref p3])
  have d1 : Dp K _ (.ref p1) (Col.d ⟨some "t", "a", some .int⟩) := mk_dp n1 (.cons (.str _) (.cons (.str _) (.cons (.str _) .nil)))
  have d2 : Dp K _ (.ref p2) (Col.d ⟨some "t", "b", some .text⟩) := mk_dp n2 (.cons (.str _) (.cons (.str _) (.cons (.str _) .nil)))
  have d3 : Dp K _ (.ref p3) (Col.d ⟨some "t", "c", some .truth⟩) := mk_dp n3 (.cons (.str _) (.cons (.str _) (.cons (.str _) .nil)))
  have hcs : DpAll K _ [.ref p1, .ref p2, .ref p3] (c26.map Col.d) := .cons (Dp.ext ((u2.trans u3).trans u4) _ _ d1) (.cons (Dp.ext (u3.trans u4) _ _ d2) (.cons (Dp.ext u4 _ _ d3) .nil))
  have u14 := ((u1.trans u2).trans u3).trans u4
  have el : (upd (upd (upd (upd H1 p1 (.tup [.str "t", .str "a", .str "int"])) p2 (.tup [.str "t", .str "b", .str "text"])) p3 (.tup [.str "t", .str "c", .str "truth"])) l (.lst [.ref p1, .ref p2, .ref p3])) l = some (.lst [.ref p1, .ref p2, .ref p3]) := upd_same
  have nld : l ≠ d := by
    obtain ⟨_, ns', pos, rest, seed, h1, _⟩ := dr
    exact (ne_of_none (((u1.trans u2).trans u3) _ _ h1) nl).symm
  generalize (upd (upd (upd (upd H1 p1 (.tup [.str "t", .str "a", .str "int"])) p2 (.tup [.str "t", .str "b", .str "text"])) p3 (.tup [.str "t", .str "c", .str "truth"])) l (.lst [.ref p1, .ref p2, .ref p3])) = H2 at hcs u14 el ⊢
  have dr2 := dr.ext u14
  clear d1 d2 d3 u1 u2 u3 u4 n1 n2 n3 nl
  refine ⟨4, rfl, by decide, by decide, ?_⟩
  refine for_range (lo := 0) (n := (4 : Int).toNat) (fun i σ Hi => Dr Hi d c ∧ Hi l = some (.lst [.ref p1, .ref p2, .ref p3]) ∧ DpAll K Hi [.ref p1, .ref p2, .ref p3] (c26.map Col.d) ∧ ∃ z3 z4 z5 z6, σ = [some (.ref a), some (.ref d), some (.ref l), z3, z4, z5, z6]) ⟨dr2, el, hcs, _, _, _, _, rfl⟩ (fun i σ Hi hi hp => ?_) (fun σ Hn hp => ?_)
  rotate_left
  · exact q Hn
  obtain ⟨dri, eli, hci, z3, z4, z5, z6, rfl⟩ := hp
  refine ⟨by show 2 ≤ sizeLine; decide, fun q1 m1 => ?_⟩
  have s3 := same_upd m1 (o := .tup [.str "name", .str "a"])
  have da : Dp K _ (.ref q1) (Et.name "a").d := mk_dp m1 (.cons (.str _) (.cons (.str _) .nil))
  generalize upd Hi q1 (.tup [.str "name", .str "a"]) = H3 at s3 da ⊢
  have dr3 := dri.ext s3
  refine ⟨_, rfl, _, rfl, d, c, 110, rfl, dr3, by decide, by decide, fun H4 k4 f4 _ dr4 r0 r1 => ?_⟩
  obtain ⟨k, rfl⟩ := Int.eq_ofNat_of_zero_le r0
  refine ⟨_, _, rfl, rfl, d, c, 90 + k, by
    show [V.ref d, V.int ((90 : Int) + ((k : Nat) : Int))] = _
    rw [show (90 : Int) + ((k : Nat) : Int) = ((90 + k : Nat) : Int) by omega], dr4, by show 90 + k < 256; omega, by decide, fun H5 v e f5 dr5 hd wk hht => ⟨by show 3 ≤ sizeLine; decide, fun q2 m2 => ?_⟩⟩
  have s6 := same_upd m2 (o := .tup [.str "+", .ref q1, v])
  have dT : Dp K (upd H5 q2 (.tup [.str "+", .ref q1, v])) (.ref q2) (Et.op2 .add (.name "a") e).d := mk_dp m2 (.cons (.str _) (.cons (dpe_fd dr4 f5 (dpe_fd dr3 f4 da)) (.cons hd .nil)))
  have wkT : Wk c26 .int (.op2 .add (.name "a") e) := wk2 (x := .int) rfl rfl wk_a wk
  have hT : (Et.op2 .add (.name "a") e).ht ≤ 22 := by show max 0 e.ht + 1 ≤ 22; omega
  generalize upd H5 q2 (.tup [.str "+", .ref q1, v]) = H6 at s6 dT ⊢
  have dr6 := dr5.ext s6
  have f36 := ((Fd.of s3).trans f4).trans (f5.trans (Fd.of s6))
  have el6 := f36 _ _ nld eli
  have hc6 : DpAll K H6 [.ref p1, .ref p2, .ref p3] (c26.map Col.d) := DpAll.fd dri.lst f36 _ _ rfl hci
  generalize Et.op2 .add (.name "a") e = T at dT wkT hT
  clear hd wk hht da f4 f5 s3 s6 dr3 dr4 dr5
  refine ⟨_, rfl, d, c, 5, rfl, dr6, by decide, by decide, fun H7 k7 f7 _ dr7 r0 r1 => ?_⟩
  obtain ⟨k7, rfl⟩ := Int.eq_ofNat_of_zero_le r0
  refine ⟨_, _, rfl, rfl, _, rfl, .ref q2, T, rfl, dpe_fd dr6 f7 dT, wkT.1, by omega, fun H8 s8 => ⟨_, _, rfl, rfl, ?_⟩⟩
  have dr8 := dr7.ext s8
  have f38 := (f36.trans f7).trans (Fd.of s8)
  have dT8 := Dp.ext s8 _ _ (dpe_fd dr6 f7 dT)
  have el8 := s8 _ _ (f7 _ _ nld el6)
  have hc8 := DpAll.ext s8 _ _ (DpAll.fd dr6.lst f7 _ _ rfl hc6)
  have keep : ∀ {H9 : Hp}, Fd d H8 H9 → Dr H9 d c → ∀ σ : L2.St, (∃ z3 z4 z5 z6, σ = [some (.ref a), some (.ref d), some (.ref l), z3, z4, z5, z6]) → Dr H9 d c ∧ H9 l = some (.lst [.ref p1, .ref p2, .ref p3]) ∧ DpAll K H9 [.ref p1, .ref p2, .ref p3] (c26.map Col.d) ∧ ∃ z3 z4 z5 z6, σ = [some (.ref a), some (.ref d), some (.ref l), z3, z4, z5, z6] := fun f dr' σ h => ⟨dr', f _ _ nld el8, DpAll.fd dr8.lst f _ _ rfl hc8, h⟩
  obtain ⟨lk, hlk⟩ : ∃ lk : Int, lk = (198 : Int) + ((k7 : Nat) : Int) - ((T.sz : Nat) : Int) := ⟨_, rfl⟩
  show gName 5 (V.int ((198 : Int) + ((k7 : Nat) : Int) - ((T.sz : Nat) : Int))) _ H8 _
  rw [← hlk]
  refine ⟨_, rfl, _, _, rfl, rfl, _, rfl, ite2 (fun hl1 => ?_) (fun _ => ?_)⟩
  · have hl1 := of_decide_eq_true hl1
    have hsz : 1 ≤ lk - 1 := by omega
    obtain ⟨sz, hsz'⟩ := Int.eq_ofNat_of_zero_le (show 0 ≤ lk - 1 by omega)
    refine ⟨_, rfl, _, rfl, _, rfl, _, _, rfl, rfl, d, c, sz, by
      show [V.ref d, V.int (lk - 1)] = _
      rw [hsz'], dr8, by show sz ≤ 256; omega, by decide, fun H9 v9 e9 f9 dr9 hd9 wk9 hh9 => ⟨by show 3 ≤ sizeLine; decide, fun q3 m3 => ?_⟩⟩
    have s10 := same_upd m3 (o := .tup [.str "-", .ref q2, v9])
    have f810 := f9.trans (Fd.of s10)
    exact tail3 _ _ d c l _ _ _ _ (.ref q3) (.op2 .sub T e9) (dr9.ext s10) nld (f810 _ _ nld el8) (DpAll.fd dr8.lst f810 _ _ rfl hc8) (mk_dp m3 (.cons (.str _) (.cons (dpe_fd dr8 f9 dT8) (.cons hd9 .nil)))) (wk2 (x := .int) rfl rfl wkT wk9) (by show max T.ht e9.ht + 1 ≤ 23; omega) fun H' v' y6 f' dr' => keep (f810.trans f') dr' _ ⟨_, _, _, _, rfl⟩
  · exact tail3 _ _ d c l _ _ _ _ (.ref q2) T dr8 nld el8 hc8 dT8 wkT (by omega) fun H' v' y6 f' dr' => keep f' dr' _ ⟨_, _, _, _, rfl⟩
end

set_option maxHeartbeats 0 in
theorem all_mk {l : PySem.W.OpenLaw} {w : World} {K : PySem.W.Frag} {h : Heap} {mg : Str → Option Value} {fa : Addr} (X : K.In h) (G : h.Ns mainGlobals mg) (hfa : mg "law" = some (.ref fa))
    {od0 an0 : Option Addr} {sl0 : Array (Option Value)} {oc0 kV0 dc0 pm0 cd0 ct0 : Value} {f0 : Addr}
    {od1 an1 : Option Addr} {sl1 : Array (Option Value)} {oc1 kV1 dc1 pm1 cd1 ct1 : Value} {f1 : Addr}
    {od2 an2 : Option Addr} {sl2 : Array (Option Value)} {oc2 kV2 dc2 pm2 cd2 ct2 : Value} {f2 : Addr}
    {od3 an3 : Option Addr} {sl3 : Array (Option Value)} {oc3 kV3 dc3 pm3 cd3 ct3 : Value} {f3 : Addr}
    {od4 an4 : Option Addr} {sl4 : Array (Option Value)} {oc4 kV4 dc4 pm4 cd4 ct4 : Value} {f4 : Addr}
    {od5 an5 : Option Addr} {sl5 : Array (Option Value)} {oc5 kV5 dc5 pm5 cd5 ct5 : Value} {f5 : Addr}
    {od6 an6 : Option Addr} {sl6 : Array (Option Value)} {oc6 kV6 dc6 pm6 cd6 ct6 : Value} {f6 : Addr}
    {od7 an7 : Option Addr} {sl7 : Array (Option Value)} {oc7 kV7 dc7 pm7 cd7 ct7 : Value} {f7 : Addr}
    {od8 an8 : Option Addr} {sl8 : Array (Option Value)} {oc8 kV8 dc8 pm8 cd8 ct8 : Value} {f8 : Addr}
    {od9 an9 : Option Addr} {sl9 : Array (Option Value)} {oc9 kV9 dc9 pm9 cd9 ct9 : Value} {f9 : Addr}
    {od10 an10 : Option Addr} {sl10 : Array (Option Value)} {oc10 kV10 dc10 pm10 cd10 ct10 : Value} {f10 : Addr}
    {od11 an11 : Option Addr} {sl11 : Array (Option Value)} {oc11 kV11 dc11 pm11 cd11 ct11 : Value} {f11 : Addr}
    {od12 an12 : Option Addr} {sl12 : Array (Option Value)} {oc12 kV12 dc12 pm12 cd12 ct12 : Value} {f12 : Addr}
    {od13 an13 : Option Addr} {sl13 : Array (Option Value)} {oc13 kV13 dc13 pm13 cd13 ct13 : Value} {f13 : Addr}
    {od14 an14 : Option Addr} {sl14 : Array (Option Value)} {oc14 kV14 dc14 pm14 cd14 ct14 : Value} {f14 : Addr}
    {od15 an15 : Option Addr} {sl15 : Array (Option Value)} {oc15 kV15 dc15 pm15 cd15 ct15 : Value} {f15 : Addr}
    {od16 an16 : Option Addr} {sl16 : Array (Option Value)} {oc16 kV16 dc16 pm16 cd16 ct16 : Value} {f16 : Addr}
    {od17 an17 : Option Addr} {sl17 : Array (Option Value)} {oc17 kV17 dc17 pm17 cd17 ct17 : Value} {f17 : Addr}
    {C_Problem N_Problem fI_Problem cc_Problem cd_Problem : Addr} {nm_Problem q_Problem file_Problem : Str} {bs_Problem bm_Problem sub_Problem : List Value} {sn_Problem : List Str} {ab_Problem : Bool} {col_Problem : Option Bool} {dd_Problem od_Problem odc_Problem odl_Problem : Option Addr} {m0_Problem m1_Problem m2_Problem m3_Problem m5_Problem : Option Value} {oc_Problem dc_Problem pm_Problem ct_Problem occ_Problem ocl_Problem : Value} {sl_Problem slc_Problem sll_Problem : Array (Option Value)} {vs_Problem : Array Value} {tf_Problem : Tok}
    (a0 : PySem.W.nsIn K mainGlobals "compile_expression" = some (some (.ref f0))) (l0 : K.lookup f0 = some ⟨oc0, od0, .func (PySem.W.fnOf "compile_expression" "compile_expression" (defArgs s_compile_expression) (defBody s_compile_expression) (defScope s_compile_expression) .none kV0 dc0 pm0 an0 cd0 ct0), sl0⟩) (c0 : PySem.W.codeIn K cd0 "compile_expression" = true) (k0 : PySem.W.keepIn K (.ref f0) = true)
    (a1 : PySem.W.nsIn K mainGlobals "expect_kind" = some (some (.ref f1))) (l1 : K.lookup f1 = some ⟨oc1, od1, .func (PySem.W.fnOf "expect_kind" "expect_kind" (defArgs s_expect_kind) (defBody s_expect_kind) (defScope s_expect_kind) .none kV1 dc1 pm1 an1 cd1 ct1), sl1⟩) (c1 : PySem.W.codeIn K cd1 "expect_kind" = true) (k1 : PySem.W.keepIn K (.ref f1) = true)
    (a2 : PySem.W.nsIn K mainGlobals "written_out" = some (some (.ref f2))) (l2 : K.lookup f2 = some ⟨oc2, od2, .func (PySem.W.fnOf "written_out" "written_out" (defArgs s_written_out) (defBody s_written_out) (defScope s_written_out) .none kV2 dc2 pm2 an2 cd2 ct2), sl2⟩) (c2 : PySem.W.codeIn K cd2 "written_out" = true) (k2 : PySem.W.keepIn K (.ref f2) = true)
    (a3 : PySem.W.nsIn K mainGlobals "named_column" = some (some (.ref f3))) (l3 : K.lookup f3 = some ⟨oc3, od3, .func (PySem.W.fnOf "named_column" "named_column" (defArgs s_named_column) (defBody s_named_column) (defScope s_named_column) .none kV3 dc3 pm3 an3 cd3 ct3), sl3⟩) (c3 : PySem.W.codeIn K cd3 "named_column" = true) (k3 : PySem.W.keepIn K (.ref f3) = true)
    (a4 : PySem.W.nsIn K mainGlobals "is_named" = some (some (.ref f4))) (l4 : K.lookup f4 = some ⟨oc4, od4, .func (PySem.W.fnOf "is_named" "is_named" (defArgs s_is_named) (defBody s_is_named) (defScope s_is_named) .none kV4 dc4 pm4 an4 cd4 ct4), sl4⟩) (c4 : PySem.W.codeIn K cd4 "is_named" = true) (k4 : PySem.W.keepIn K (.ref f4) = true)
    (a5 : PySem.W.nsIn K mainGlobals "result_kind" = some (some (.ref f5))) (l5 : K.lookup f5 = some ⟨oc5, od5, .func (PySem.W.fnOf "result_kind" "result_kind" (defArgs s_result_kind) (defBody s_result_kind) (defScope s_result_kind) .none kV5 dc5 pm5 an5 cd5 ct5), sl5⟩) (c5 : PySem.W.codeIn K cd5 "result_kind" = true) (k5 : PySem.W.keepIn K (.ref f5) = true)
    (a6 : PySem.W.nsIn K mainGlobals "common_kind" = some (some (.ref f6))) (l6 : K.lookup f6 = some ⟨oc6, od6, .func (PySem.W.fnOf "common_kind" "common_kind" (defArgs s_common_kind) (defBody s_common_kind) (defScope s_common_kind) .none kV6 dc6 pm6 an6 cd6 ct6), sl6⟩) (c6 : PySem.W.codeIn K cd6 "common_kind" = true) (k6 : PySem.W.keepIn K (.ref f6) = true)
    (a7 : PySem.W.nsIn K mainGlobals "plain_form" = some (some (.ref f7))) (l7 : K.lookup f7 = some ⟨oc7, od7, .func (PySem.W.fnOf "plain_form" "plain_form" (defArgs s_plain_form) (defBody s_plain_form) (defScope s_plain_form) .none kV7 dc7 pm7 an7 cd7 ct7), sl7⟩) (c7 : PySem.W.codeIn K cd7 "plain_form" = true) (k7 : PySem.W.keepIn K (.ref f7) = true)
    (a8 : PySem.W.nsIn K mainGlobals "result_size" = some (some (.ref f8))) (l8 : K.lookup f8 = some ⟨oc8, od8, .func (PySem.W.fnOf "result_size" "result_size" (defArgs s_result_size) (defBody s_result_size) (defScope s_result_size) .none kV8 dc8 pm8 an8 cd8 ct8), sl8⟩) (c8 : PySem.W.codeIn K cd8 "result_size" = true) (k8 : PySem.W.keepIn K (.ref f8) = true)
    (a9 : PySem.W.nsIn K mainGlobals "_law_draw" = some (some (.ref f9))) (l9 : K.lookup f9 = some ⟨oc9, od9, .func (PySem.W.fnOf "_law_draw" "_law_draw" (defArgs s__law_draw) (defBody s__law_draw) (defScope s__law_draw) .none kV9 dc9 pm9 an9 cd9 ct9), sl9⟩) (c9 : PySem.W.codeIn K cd9 "_law_draw" = true) (k9 : PySem.W.keepIn K (.ref f9) = true)
    (a10 : PySem.W.nsIn K mainGlobals "_law_next" = some (some (.ref f10))) (l10 : K.lookup f10 = some ⟨oc10, od10, .func (PySem.W.fnOf "_law_next" "_law_next" (defArgs s__law_next) (defBody s__law_next) (defScope s__law_next) .none kV10 dc10 pm10 an10 cd10 ct10), sl10⟩) (c10 : PySem.W.codeIn K cd10 "_law_next" = true) (k10 : PySem.W.keepIn K (.ref f10) = true)
    (a11 : PySem.W.nsIn K mainGlobals "_law_same" = some (some (.ref f11))) (l11 : K.lookup f11 = some ⟨oc11, od11, .func (PySem.W.fnOf "_law_same" "_law_same" (defArgs s__law_same) (defBody s__law_same) (defScope s__law_same) .none kV11 dc11 pm11 an11 cd11 ct11), sl11⟩) (c11 : PySem.W.codeIn K cd11 "_law_same" = true) (k11 : PySem.W.keepIn K (.ref f11) = true)
    (a12 : PySem.W.nsIn K mainGlobals "_law_size" = some (some (.ref f12))) (l12 : K.lookup f12 = some ⟨oc12, od12, .func (PySem.W.fnOf "_law_size" "_law_size" (defArgs s__law_size) (defBody s__law_size) (defScope s__law_size) .none kV12 dc12 pm12 an12 cd12 ct12), sl12⟩) (c12 : PySem.W.codeIn K cd12 "_law_size" = true) (k12 : PySem.W.keepIn K (.ref f12) = true)
    (a13 : PySem.W.nsIn K mainGlobals "_law_leaf" = some (some (.ref f13))) (l13 : K.lookup f13 = some ⟨oc13, od13, .func (PySem.W.fnOf "_law_leaf" "_law_leaf" (defArgs s__law_leaf) (defBody s__law_leaf) (defScope s__law_leaf) .none kV13 dc13 pm13 an13 cd13 ct13), sl13⟩) (c13 : PySem.W.codeIn K cd13 "_law_leaf" = true) (k13 : PySem.W.keepIn K (.ref f13) = true)
    (a14 : PySem.W.nsIn K mainGlobals "_law_wide" = some (some (.ref f14))) (l14 : K.lookup f14 = some ⟨oc14, od14, .func (PySem.W.fnOf "_law_wide" "_law_wide" (defArgs s__law_wide) (defBody s__law_wide) (defScope s__law_wide) .none kV14 dc14 pm14 an14 cd14 ct14), sl14⟩) (c14 : PySem.W.codeIn K cd14 "_law_wide" = true) (k14 : PySem.W.keepIn K (.ref f14) = true)
    (a15 : PySem.W.nsIn K mainGlobals "_law_exact" = some (some (.ref f15))) (l15 : K.lookup f15 = some ⟨oc15, od15, .func (PySem.W.fnOf "_law_exact" "_law_exact" (defArgs s__law_exact) (defBody s__law_exact) (defScope s__law_exact) .none kV15 dc15 pm15 an15 cd15 ct15), sl15⟩) (c15 : PySem.W.codeIn K cd15 "_law_exact" = true) (k15 : PySem.W.keepIn K (.ref f15) = true)
    (a16 : PySem.W.nsIn K mainGlobals "_law_told" = some (some (.ref f16))) (l16 : K.lookup f16 = some ⟨oc16, od16, .func (PySem.W.fnOf "_law_told" "_law_told" (defArgs s__law_told) (defBody s__law_told) (defScope s__law_told) .none kV16 dc16 pm16 an16 cd16 ct16), sl16⟩) (c16 : PySem.W.codeIn K cd16 "_law_told" = true) (k16 : PySem.W.keepIn K (.ref f16) = true)
    (a17 : PySem.W.nsIn K mainGlobals "law" = some (some (.ref f17))) (l17 : K.lookup f17 = some ⟨oc17, od17, .func (PySem.W.fnOf "law" "law" (defArgs s_law) (defBody s_law) (defScope s_law) .none kV17 dc17 pm17 an17 cd17 ct17), sl17⟩) (c17 : PySem.W.codeIn K cd17 "law" = true) (k17 : PySem.W.keepIn K (.ref f17) = true)
    {a_OPERATORS : Addr} {es_OPERATORS : Array DictEntry} {n_OPERATORS : Nat} (w_OPERATORS : PySem.W.nsIn K mainGlobals "OPERATORS" = some (some (.ref a_OPERATORS))) (v_OPERATORS : K.lookup a_OPERATORS = some ⟨.type "dict", none, .dict es_OPERATORS n_OPERATORS, #[]⟩) (k_OPERATORS : PySem.W.KeysLit w.params es_OPERATORS.toList) (lo_OPERATORS : (a_OPERATORS == sysModules) = false) {a_OPERATORS_0 : Addr} {dd_OPERATORS_0 : Option Addr} {n_OPERATORS_0 : Nat} {sl_OPERATORS_0 : Array (Option Value)} {tk_OPERATORS_0_0 tk_OPERATORS_0_1 : Tok} (w_OPERATORS_0 : PySem.W.nsIn K a_OPERATORS (PySem.Str.ofString "negate") = some (some (.ref a_OPERATORS_0))) (v_OPERATORS_0 : K.lookup a_OPERATORS_0 = some ⟨.type "tuple", dd_OPERATORS_0, .seq #[.str (PySem.Str.ofString "int") tk_OPERATORS_0_0, .str (PySem.Str.ofString "int") tk_OPERATORS_0_1] n_OPERATORS_0, sl_OPERATORS_0⟩) {a_OPERATORS_1 : Addr} {dd_OPERATORS_1 : Option Addr} {n_OPERATORS_1 : Nat} {sl_OPERATORS_1 : Array (Option Value)} {tk_OPERATORS_1_0 tk_OPERATORS_1_1 : Tok} (w_OPERATORS_1 : PySem.W.nsIn K a_OPERATORS (PySem.Str.ofString "+") = some (some (.ref a_OPERATORS_1))) (v_OPERATORS_1 : K.lookup a_OPERATORS_1 = some ⟨.type "tuple", dd_OPERATORS_1, .seq #[.str (PySem.Str.ofString "int") tk_OPERATORS_1_0, .str (PySem.Str.ofString "int") tk_OPERATORS_1_1] n_OPERATORS_1, sl_OPERATORS_1⟩) {a_OPERATORS_2 : Addr} {dd_OPERATORS_2 : Option Addr} {n_OPERATORS_2 : Nat} {sl_OPERATORS_2 : Array (Option Value)} {tk_OPERATORS_2_0 tk_OPERATORS_2_1 : Tok} (w_OPERATORS_2 : PySem.W.nsIn K a_OPERATORS (PySem.Str.ofString "-") = some (some (.ref a_OPERATORS_2))) (v_OPERATORS_2 : K.lookup a_OPERATORS_2 = some ⟨.type "tuple", dd_OPERATORS_2, .seq #[.str (PySem.Str.ofString "int") tk_OPERATORS_2_0, .str (PySem.Str.ofString "int") tk_OPERATORS_2_1] n_OPERATORS_2, sl_OPERATORS_2⟩) {a_OPERATORS_3 : Addr} {dd_OPERATORS_3 : Option Addr} {n_OPERATORS_3 : Nat} {sl_OPERATORS_3 : Array (Option Value)} {tk_OPERATORS_3_0 tk_OPERATORS_3_1 : Tok} (w_OPERATORS_3 : PySem.W.nsIn K a_OPERATORS (PySem.Str.ofString "*") = some (some (.ref a_OPERATORS_3))) (v_OPERATORS_3 : K.lookup a_OPERATORS_3 = some ⟨.type "tuple", dd_OPERATORS_3, .seq #[.str (PySem.Str.ofString "int") tk_OPERATORS_3_0, .str (PySem.Str.ofString "int") tk_OPERATORS_3_1] n_OPERATORS_3, sl_OPERATORS_3⟩) {a_OPERATORS_4 : Addr} {dd_OPERATORS_4 : Option Addr} {n_OPERATORS_4 : Nat} {sl_OPERATORS_4 : Array (Option Value)} {tk_OPERATORS_4_0 tk_OPERATORS_4_1 : Tok} (w_OPERATORS_4 : PySem.W.nsIn K a_OPERATORS (PySem.Str.ofString "div") = some (some (.ref a_OPERATORS_4))) (v_OPERATORS_4 : K.lookup a_OPERATORS_4 = some ⟨.type "tuple", dd_OPERATORS_4, .seq #[.str (PySem.Str.ofString "int") tk_OPERATORS_4_0, .str (PySem.Str.ofString "int") tk_OPERATORS_4_1] n_OPERATORS_4, sl_OPERATORS_4⟩) {a_OPERATORS_5 : Addr} {dd_OPERATORS_5 : Option Addr} {n_OPERATORS_5 : Nat} {sl_OPERATORS_5 : Array (Option Value)} {tk_OPERATORS_5_0 tk_OPERATORS_5_1 : Tok} (w_OPERATORS_5 : PySem.W.nsIn K a_OPERATORS (PySem.Str.ofString "mod") = some (some (.ref a_OPERATORS_5))) (v_OPERATORS_5 : K.lookup a_OPERATORS_5 = some ⟨.type "tuple", dd_OPERATORS_5, .seq #[.str (PySem.Str.ofString "int") tk_OPERATORS_5_0, .str (PySem.Str.ofString "int") tk_OPERATORS_5_1] n_OPERATORS_5, sl_OPERATORS_5⟩) {a_OPERATORS_6 : Addr} {dd_OPERATORS_6 : Option Addr} {n_OPERATORS_6 : Nat} {sl_OPERATORS_6 : Array (Option Value)} {tk_OPERATORS_6_0 tk_OPERATORS_6_1 : Tok} (w_OPERATORS_6 : PySem.W.nsIn K a_OPERATORS (PySem.Str.ofString "not") = some (some (.ref a_OPERATORS_6))) (v_OPERATORS_6 : K.lookup a_OPERATORS_6 = some ⟨.type "tuple", dd_OPERATORS_6, .seq #[.str (PySem.Str.ofString "truth") tk_OPERATORS_6_0, .str (PySem.Str.ofString "truth") tk_OPERATORS_6_1] n_OPERATORS_6, sl_OPERATORS_6⟩) {a_OPERATORS_7 : Addr} {dd_OPERATORS_7 : Option Addr} {n_OPERATORS_7 : Nat} {sl_OPERATORS_7 : Array (Option Value)} {tk_OPERATORS_7_0 tk_OPERATORS_7_1 : Tok} (w_OPERATORS_7 : PySem.W.nsIn K a_OPERATORS (PySem.Str.ofString "and") = some (some (.ref a_OPERATORS_7))) (v_OPERATORS_7 : K.lookup a_OPERATORS_7 = some ⟨.type "tuple", dd_OPERATORS_7, .seq #[.str (PySem.Str.ofString "truth") tk_OPERATORS_7_0, .str (PySem.Str.ofString "truth") tk_OPERATORS_7_1] n_OPERATORS_7, sl_OPERATORS_7⟩) {a_OPERATORS_8 : Addr} {dd_OPERATORS_8 : Option Addr} {n_OPERATORS_8 : Nat} {sl_OPERATORS_8 : Array (Option Value)} {tk_OPERATORS_8_0 tk_OPERATORS_8_1 : Tok} (w_OPERATORS_8 : PySem.W.nsIn K a_OPERATORS (PySem.Str.ofString "or") = some (some (.ref a_OPERATORS_8))) (v_OPERATORS_8 : K.lookup a_OPERATORS_8 = some ⟨.type "tuple", dd_OPERATORS_8, .seq #[.str (PySem.Str.ofString "truth") tk_OPERATORS_8_0, .str (PySem.Str.ofString "truth") tk_OPERATORS_8_1] n_OPERATORS_8, sl_OPERATORS_8⟩) {a_OPERATORS_9 : Addr} {dd_OPERATORS_9 : Option Addr} {n_OPERATORS_9 : Nat} {sl_OPERATORS_9 : Array (Option Value)} {tk_OPERATORS_9_0 tk_OPERATORS_9_1 : Tok} (w_OPERATORS_9 : PySem.W.nsIn K a_OPERATORS (PySem.Str.ofString "length") = some (some (.ref a_OPERATORS_9))) (v_OPERATORS_9 : K.lookup a_OPERATORS_9 = some ⟨.type "tuple", dd_OPERATORS_9, .seq #[.str (PySem.Str.ofString "text") tk_OPERATORS_9_0, .str (PySem.Str.ofString "int") tk_OPERATORS_9_1] n_OPERATORS_9, sl_OPERATORS_9⟩) {a_OPERATORS_10 : Addr} {dd_OPERATORS_10 : Option Addr} {n_OPERATORS_10 : Nat} {sl_OPERATORS_10 : Array (Option Value)} {tk_OPERATORS_10_0 tk_OPERATORS_10_1 : Tok} (w_OPERATORS_10 : PySem.W.nsIn K a_OPERATORS (PySem.Str.ofString "starts") = some (some (.ref a_OPERATORS_10))) (v_OPERATORS_10 : K.lookup a_OPERATORS_10 = some ⟨.type "tuple", dd_OPERATORS_10, .seq #[.str (PySem.Str.ofString "text") tk_OPERATORS_10_0, .str (PySem.Str.ofString "truth") tk_OPERATORS_10_1] n_OPERATORS_10, sl_OPERATORS_10⟩) (m_OPERATORS_0 : PySem.W.nsIn K a_OPERATORS (PySem.Str.ofString "missing") = some none) (m_OPERATORS_1 : PySem.W.nsIn K a_OPERATORS (PySem.Str.ofString "if") = some none) (m_OPERATORS_2 : PySem.W.nsIn K a_OPERATORS (PySem.Str.ofString "coalesce") = some none) (m_OPERATORS_3 : PySem.W.nsIn K a_OPERATORS (PySem.Str.ofString "<") = some none) (m_OPERATORS_4 : PySem.W.nsIn K a_OPERATORS (PySem.Str.ofString "<=") = some none) (m_OPERATORS_5 : PySem.W.nsIn K a_OPERATORS (PySem.Str.ofString "=") = some none) (m_OPERATORS_6 : PySem.W.nsIn K a_OPERATORS (PySem.Str.ofString "!=") = some none) (m_OPERATORS_7 : PySem.W.nsIn K a_OPERATORS (PySem.Str.ofString ">=") = some none) (m_OPERATORS_8 : PySem.W.nsIn K a_OPERATORS (PySem.Str.ofString ">") = some none) {a_COMPARISONS : Addr} {dd_COMPARISONS : Option Addr} {n_COMPARISONS : Nat} {sl_COMPARISONS : Array (Option Value)} {tk_COMPARISONS_0 tk_COMPARISONS_1 tk_COMPARISONS_2 tk_COMPARISONS_3 tk_COMPARISONS_4 tk_COMPARISONS_5 : Tok} (w_COMPARISONS : PySem.W.nsIn K mainGlobals "COMPARISONS" = some (some (.ref a_COMPARISONS))) (v_COMPARISONS : K.lookup a_COMPARISONS = some ⟨.type "tuple", dd_COMPARISONS, .seq #[.str (PySem.Str.ofString "<") tk_COMPARISONS_0, .str (PySem.Str.ofString "<=") tk_COMPARISONS_1, .str (PySem.Str.ofString "=") tk_COMPARISONS_2, .str (PySem.Str.ofString "!=") tk_COMPARISONS_3, .str (PySem.Str.ofString ">=") tk_COMPARISONS_4, .str (PySem.Str.ofString ">") tk_COMPARISONS_5] n_COMPARISONS, sl_COMPARISONS⟩) {a_EXPECTED : Addr} {es_EXPECTED : Array DictEntry} {n_EXPECTED : Nat} (w_EXPECTED : PySem.W.nsIn K mainGlobals "EXPECTED" = some (some (.ref a_EXPECTED))) (v_EXPECTED : K.lookup a_EXPECTED = some ⟨.type "dict", none, .dict es_EXPECTED n_EXPECTED, #[]⟩) (k_EXPECTED : PySem.W.KeysLit w.params es_EXPECTED.toList) (lo_EXPECTED : (a_EXPECTED == sysModules) = false) {tk_EXPECTED_0 : Tok} (w_EXPECTED_0 : PySem.W.nsIn K a_EXPECTED (PySem.Str.ofString "int") = some (some (.str (PySem.Str.ofString "expected an integer") tk_EXPECTED_0))) {tk_EXPECTED_1 : Tok} (w_EXPECTED_1 : PySem.W.nsIn K a_EXPECTED (PySem.Str.ofString "text") = some (some (.str (PySem.Str.ofString "expected a text") tk_EXPECTED_1))) {tk_EXPECTED_2 : Tok} (w_EXPECTED_2 : PySem.W.nsIn K a_EXPECTED (PySem.Str.ofString "truth") = some (some (.str (PySem.Str.ofString "expected a truth value") tk_EXPECTED_2))) {a_PLAIN_WORDS : Addr} {es_PLAIN_WORDS : Array DictEntry} {n_PLAIN_WORDS : Nat} (w_PLAIN_WORDS : PySem.W.nsIn K mainGlobals "PLAIN_WORDS" = some (some (.ref a_PLAIN_WORDS))) (v_PLAIN_WORDS : K.lookup a_PLAIN_WORDS = some ⟨.type "dict", none, .dict es_PLAIN_WORDS n_PLAIN_WORDS, #[]⟩) (k_PLAIN_WORDS : PySem.W.KeysLit w.params es_PLAIN_WORDS.toList) (lo_PLAIN_WORDS : (a_PLAIN_WORDS == sysModules) = false) {tk_PLAIN_WORDS_0 : Tok} (w_PLAIN_WORDS_0 : PySem.W.nsIn K a_PLAIN_WORDS (PySem.Str.ofString "+") = some (some (.str (PySem.Str.ofString "add") tk_PLAIN_WORDS_0))) {tk_PLAIN_WORDS_1 : Tok} (w_PLAIN_WORDS_1 : PySem.W.nsIn K a_PLAIN_WORDS (PySem.Str.ofString "-") = some (some (.str (PySem.Str.ofString "subtract") tk_PLAIN_WORDS_1))) {tk_PLAIN_WORDS_2 : Tok} (w_PLAIN_WORDS_2 : PySem.W.nsIn K a_PLAIN_WORDS (PySem.Str.ofString "*") = some (some (.str (PySem.Str.ofString "multiply") tk_PLAIN_WORDS_2))) {tk_PLAIN_WORDS_3 : Tok} (w_PLAIN_WORDS_3 : PySem.W.nsIn K a_PLAIN_WORDS (PySem.Str.ofString "div") = some (some (.str (PySem.Str.ofString "divide") tk_PLAIN_WORDS_3))) {tk_PLAIN_WORDS_4 : Tok} (w_PLAIN_WORDS_4 : PySem.W.nsIn K a_PLAIN_WORDS (PySem.Str.ofString "mod") = some (some (.str (PySem.Str.ofString "remainder") tk_PLAIN_WORDS_4))) {tk_PLAIN_WORDS_5 : Tok} (w_PLAIN_WORDS_5 : PySem.W.nsIn K a_PLAIN_WORDS (PySem.Str.ofString "<") = some (some (.str (PySem.Str.ofString "less") tk_PLAIN_WORDS_5))) {tk_PLAIN_WORDS_6 : Tok} (w_PLAIN_WORDS_6 : PySem.W.nsIn K a_PLAIN_WORDS (PySem.Str.ofString "=") = some (some (.str (PySem.Str.ofString "equal") tk_PLAIN_WORDS_6))) {tk_PLAIN_WORDS_7 : Tok} (w_PLAIN_WORDS_7 : PySem.W.nsIn K a_PLAIN_WORDS (PySem.Str.ofString "if") = some (some (.str (PySem.Str.ofString "choose") tk_PLAIN_WORDS_7))) (m_PLAIN_WORDS_0 : PySem.W.nsIn K a_PLAIN_WORDS (PySem.Str.ofString "negate") = some none) (m_PLAIN_WORDS_1 : PySem.W.nsIn K a_PLAIN_WORDS (PySem.Str.ofString "not") = some none) (m_PLAIN_WORDS_2 : PySem.W.nsIn K a_PLAIN_WORDS (PySem.Str.ofString "and") = some none) (m_PLAIN_WORDS_3 : PySem.W.nsIn K a_PLAIN_WORDS (PySem.Str.ofString "or") = some none) (m_PLAIN_WORDS_4 : PySem.W.nsIn K a_PLAIN_WORDS (PySem.Str.ofString "length") = some none) (m_PLAIN_WORDS_5 : PySem.W.nsIn K a_PLAIN_WORDS (PySem.Str.ofString "starts") = some none) (m_PLAIN_WORDS_6 : PySem.W.nsIn K a_PLAIN_WORDS (PySem.Str.ofString "missing") = some none) {a_LARGER : Addr} {dd_LARGER : Option Addr} {n_LARGER : Nat} {sl_LARGER : Array (Option Value)} {tk_LARGER_0 tk_LARGER_1 tk_LARGER_2 : Tok} (w_LARGER : PySem.W.nsIn K mainGlobals "LARGER" = some (some (.ref a_LARGER))) (v_LARGER : K.lookup a_LARGER = some ⟨.type "tuple", dd_LARGER, .seq #[.str (PySem.Str.ofString "<=") tk_LARGER_0, .str (PySem.Str.ofString "!=") tk_LARGER_1, .str (PySem.Str.ofString ">=") tk_LARGER_2] n_LARGER, sl_LARGER⟩) {tk_MOST_SIZE : Tok} (w_MOST_SIZE : PySem.W.nsIn K mainGlobals "MOST_SIZE" = some (some (.int 200 tk_MOST_SIZE))) (z_abs : PySem.W.nsIn K mainGlobals "abs" = some none) (z_all : PySem.W.nsIn K mainGlobals "all" = some none) (z_bool : PySem.W.nsIn K mainGlobals "bool" = some none) (z_enumerate : PySem.W.nsIn K mainGlobals "enumerate" = some none) (z_int : PySem.W.nsIn K mainGlobals "int" = some none) (z_isinstance : PySem.W.nsIn K mainGlobals "isinstance" = some none) (z_len : PySem.W.nsIn K mainGlobals "len" = some none) (z_list : PySem.W.nsIn K mainGlobals "list" = some none) (z_range : PySem.W.nsIn K mainGlobals "range" = some none) (z_str : PySem.W.nsIn K mainGlobals "str" = some none) (z_sum : PySem.W.nsIn K mainGlobals "sum" = some none) (z_tuple : PySem.W.nsIn K mainGlobals "tuple" = some none) (ea_Problem : PySem.W.nsIn K mainGlobals "Problem" = some (some (.ref C_Problem))) (ex_Problem : K.lookup C_Problem = some (excClassObj nm_Problem q_Problem C_Problem N_Problem bs_Problem bm_Problem true sn_Problem sub_Problem ab_Problem col_Problem dd_Problem m0_Problem m1_Problem m2_Problem m3_Problem m5_Problem "ValueError.__new__")) (erv_Problem : PySem.HandSPX.refsVE bm_Problem = true) (esa_Problem : PySem.W.findIn K (.ref C_Problem) "__setattr__" = some (some (.builtin "object.__setattr__"))) (ega_Problem : PySem.W.findIn K (.ref C_Problem) "__getattribute__" = some (some (.builtin "BaseException.__getattribute__"))) (egg_Problem : PySem.W.findIn K (.ref C_Problem) "__getattr__" = some none) (en_message_Problem : PySem.W.findIn K (.ref C_Problem) "message" = some none) (ei_Problem : PySem.W.findIn K (.ref C_Problem) "__init__" = some (some (.ref fI_Problem))) (eti_Problem : PySem.W.typeIn K (.ref fI_Problem) = some (.type "function")) (el_Problem : K.lookup fI_Problem = some ⟨oc_Problem, od_Problem, .func (PySem.W.fnX "__init__" "Problem.__init__" (defArgs s_Problem___init__) (defBody s_Problem___init__) (defScope s_Problem___init__) [("__class__", cc_Problem)] .none .none dc_Problem pm_Problem none (.ref cd_Problem) ct_Problem), sl_Problem⟩) (ec_Problem : PySem.W.codeIn K (.ref cd_Problem) "Problem.__init__" = true) (eo_Problem : K.lookup cd_Problem = some ⟨occ_Problem, odc_Problem, .fields vs_Problem, slc_Problem⟩) (ev2_Problem : vs_Problem[2]? = some (.str file_Problem tf_Problem)) (efl_Problem : ((l.prog.main.file : Str) == file_Problem) = true) (exc_Problem : K.lookup cc_Problem = some ⟨ocl_Problem, odl_Problem, .cell (some (.ref C_Problem)), sll_Problem⟩) (eic_Problem : PySem.W.isClsIn K C_Problem = true) (emr_Problem : PySem.W.mroIn K C_Problem (.ref C_Problem) = some true) (ezs_Problem : PySem.W.nsIn K mainGlobals "super" = some none) (etp_Problem : (l.prog.main.scope.names.lookup ("super" : Str)).isSome = false) (eoq_Problem : PySem.W.nsIn K cStatics "thirdparty.any" = some none) (esi_Problem : PySem.W.ks_superIn K C_Problem C_Problem "__init__" = some (some (.builtin "ValueError.__init__"))) (esv_Problem : PySem.W.subIn K (.ref C_Problem) (.type "ValueError") = some true) (ee_Problem : PySem.W.subIn K (.ref C_Problem) (.type "BaseException") = some true) (et_Problem : PySem.W.typeIn K (.ref C_Problem) = some (.type "type")) (ek_Problem : PySem.W.keepIn K (.ref C_Problem) = true) (eh_Problem : PySem.W.hasDictIn K C_Problem = true) (ess_Problem : PySem.W.subIn K (.ref C_Problem) (.ref C_Problem) = some true) :
    ∃ fd : FuncData, (∀ (s : Shared) (v : Value), BindsTo s fd ⟨[v], []⟩ [("script", v)]) ∧ ∀ base : Heap, K.In base → base.Ns mainGlobals mg → FnOk l.prog w K mg base CX0 38 fa fd ["script"] (sp_law K) := by
  have e := hfa.symm.trans (PySem.W.mg_of X G a17)
  cases e
  have F_compile_expression := fun_mk (st := s_compile_expression) l0 c0 k0
  have b_compile_expression := F_compile_expression.binds (ps := ["columns", "expression"]) fun _ _ _ _ _ _ us hl => match us, hl with | [_, _], _ => rfl
  have g_compile_expression := PySem.W.mg_of X G a0
  have F_expect_kind := fun_mk (st := s_expect_kind) l1 c1 k1
  have b_expect_kind := F_expect_kind.binds (ps := ["kind", "expected"]) fun _ _ _ _ _ _ us hl => match us, hl with | [_, _], _ => rfl
  have g_expect_kind := PySem.W.mg_of X G a1
  have F_written_out := fun_mk (st := s_written_out) l2 c2 k2
  have b_written_out := F_written_out.binds (ps := ["columns", "expression"]) fun _ _ _ _ _ _ us hl => match us, hl with | [_, _], _ => rfl
  have g_written_out := PySem.W.mg_of X G a2
  have F_named_column := fun_mk (st := s_named_column) l3 c3 k3
  have b_named_column := F_named_column.binds (ps := ["columns", "expression"]) fun _ _ _ _ _ _ us hl => match us, hl with | [_, _], _ => rfl
  have g_named_column := PySem.W.mg_of X G a3
  have F_is_named := fun_mk (st := s_is_named) l4 c4 k4
  have b_is_named := F_is_named.binds (ps := ["column", "expression"]) fun _ _ _ _ _ _ us hl => match us, hl with | [_, _], _ => rfl
  have g_is_named := PySem.W.mg_of X G a4
  have F_result_kind := fun_mk (st := s_result_kind) l5 c5 k5
  have b_result_kind := F_result_kind.binds (ps := ["word", "kinds"]) fun _ _ _ _ _ _ us hl => match us, hl with | [_, _], _ => rfl
  have g_result_kind := PySem.W.mg_of X G a5
  have F_common_kind := fun_mk (st := s_common_kind) l6 c6 k6
  have b_common_kind := F_common_kind.binds (ps := ["first", "second"]) fun _ _ _ _ _ _ us hl => match us, hl with | [_, _], _ => rfl
  have g_common_kind := PySem.W.mg_of X G a6
  have F_plain_form := fun_mk (st := s_plain_form) l7 c7 k7
  have b_plain_form := F_plain_form.binds (ps := ["word", "parts"]) fun _ _ _ _ _ _ us hl => match us, hl with | [_, _], _ => rfl
  have g_plain_form := PySem.W.mg_of X G a7
  have F_result_size := fun_mk (st := s_result_size) l8 c8 k8
  have b_result_size := F_result_size.binds (ps := ["word", "sizes"]) fun _ _ _ _ _ _ us hl => match us, hl with | [_, _], _ => rfl
  have g_result_size := PySem.W.mg_of X G a8
  have F__law_draw := fun_mk (st := s__law_draw) l9 c9 k9
  have b__law_draw := F__law_draw.binds (ps := ["script"]) fun _ _ _ _ _ _ us hl => match us, hl with | [_], _ => rfl
  have g__law_draw := PySem.W.mg_of X G a9
  have F__law_next := fun_mk (st := s__law_next) l10 c10 k10
  have b__law_next := F__law_next.binds (ps := ["draw", "many"]) fun _ _ _ _ _ _ us hl => match us, hl with | [_, _], _ => rfl
  have g__law_next := PySem.W.mg_of X G a10
  have F__law_same := fun_mk (st := s__law_same) l11 c11 k11
  have b__law_same := F__law_same.binds (ps := ["actual", "due"]) fun _ _ _ _ _ _ us hl => match us, hl with | [_, _], _ => rfl
  have g__law_same := PySem.W.mg_of X G a11
  have F__law_size := fun_mk (st := s__law_size) l12 c12 k12
  have b__law_size := F__law_size.binds (ps := ["tree"]) fun _ _ _ _ _ _ us hl => match us, hl with | [_], _ => rfl
  have g__law_size := PySem.W.mg_of X G a12
  have F__law_leaf := fun_mk (st := s__law_leaf) l13 c13 k13
  have b__law_leaf := F__law_leaf.binds (ps := ["draw"]) fun _ _ _ _ _ _ us hl => match us, hl with | [_], _ => rfl
  have g__law_leaf := PySem.W.mg_of X G a13
  have F__law_wide := fun_mk (st := s__law_wide) l14 c14 k14
  have b__law_wide := F__law_wide.binds (ps := ["draw", "goal"]) fun _ _ _ _ _ _ us hl => match us, hl with | [_, _], _ => rfl
  have g__law_wide := PySem.W.mg_of X G a14
  have F__law_exact := fun_mk (st := s__law_exact) l15 c15 k15
  have b__law_exact := F__law_exact.binds (ps := ["draw", "size"]) fun _ _ _ _ _ _ us hl => match us, hl with | [_, _], _ => rfl
  have g__law_exact := PySem.W.mg_of X G a15
  have F__law_told := fun_mk (st := s__law_told) l16 c16 k16
  have b__law_told := F__law_told.binds (ps := ["columns", "tree"]) fun _ _ _ _ _ _ us hl => match us, hl with | [_, _], _ => rfl
  have g__law_told := PySem.W.mg_of X G a16
  have F_law := fun_mk (st := s_law) l17 c17 k17
  have M : Mg mg := ⟨PySem.W.mg_none_of X G z_abs, PySem.W.mg_none_of X G z_all, PySem.W.mg_none_of X G z_bool, PySem.W.mg_none_of X G z_enumerate, PySem.W.mg_none_of X G z_int, PySem.W.mg_none_of X G z_isinstance, PySem.W.mg_none_of X G z_len, PySem.W.mg_none_of X G z_list, PySem.W.mg_none_of X G z_range, PySem.W.mg_none_of X G z_str, PySem.W.mg_none_of X G z_sum, PySem.W.mg_none_of X G z_tuple⟩
  exact ⟨PySem.W.fnOf "law" "law" (defArgs s_law) (defBody s_law) (defScope s_law) .none kV17 dc17 pm17 an17 cd17 ct17, fun s v => .of_eq rfl, fun base _ _ => by
  have T_PB : OexC K C_Problem := ⟨⟨_, _, _, _, _, _, _, _, _, _, _, _, _, _, _, ex_Problem, erv_Problem⟩, esa_Problem, ee_Problem, et_Problem, ek_Problem⟩
  have xf_PB : XfC K C_Problem := ⟨ega_Problem, egg_Problem, ee_Problem, eh_Problem⟩
  have te_PB := exm_self ee_Problem eic_Problem et_Problem ess_Problem
  have U_PB : SupC l.prog K mg C_Problem fI_Problem (pF cc_Problem cd_Problem) _ := ⟨⟨_, _, _, _, _, _, el_Problem, rfl⟩, ec_Problem, ⟨_, _, _, _, _, _, eo_Problem, ev2_Problem, efl_Problem⟩, ⟨_, _, _, _, rfl, exc_Problem⟩, Option.isSome_iff_exists.mp eic_Problem, emr_Problem, PySem.W.mg_none_of X G ezs_Problem, etp_Problem, eoq_Problem, esi_Problem, esv_Problem, T_PB, (show (defScope s_Problem___init__).names.lookup ("super" : Str) = some .globalImplicit from by decide +kernel), (show (defScope s_Problem___init__).names.lookup ("__class__" : Str) = some .free from by decide +kernel), (show (defScope s_Problem___init__).names.lookup ("self" : Str) = some .local from by decide +kernel), ⟨_, rfl, rfl⟩⟩
  have PB : PrbE l.prog w K mg base C_Problem := ⟨T_PB, PySem.W.mg_of X G ea_Problem, _, _, ei_Problem, eti_Problem, ok_pinit U_PB en_message_Problem, .all fun us hl => match us, hl with | [_, _], _ => rfl⟩

  have KG : Kg K w mg a_OPERATORS a_COMPARISONS a_EXPECTED a_PLAIN_WORDS a_LARGER es_OPERATORS es_EXPECTED es_PLAIN_WORDS n_OPERATORS n_EXPECTED n_PLAIN_WORDS := by
    refine ⟨⟨_, PySem.W.mg_of X G w_OPERATORS, rfl⟩, ⟨_, PySem.W.mg_of X G w_COMPARISONS, rfl⟩, ⟨_, PySem.W.mg_of X G w_EXPECTED, rfl⟩, ⟨_, PySem.W.mg_of X G w_PLAIN_WORDS, rfl⟩, ⟨_, PySem.W.mg_of X G w_LARGER, rfl⟩, ⟨_, PySem.W.mg_of X G w_MOST_SIZE, _, rfl⟩, ⟨v_OPERATORS, k_OPERATORS, lo_OPERATORS⟩, ⟨v_EXPECTED, k_EXPECTED, lo_EXPECTED⟩, ⟨v_PLAIN_WORDS, k_PLAIN_WORDS, lo_PLAIN_WORDS⟩,
      fun H => .inr ⟨_, _, _, v_COMPARISONS, rfl, rfl, by show 6 ≤ sizeLine; decide, .cons ⟨_, rfl⟩ (.cons ⟨_, rfl⟩ (.cons ⟨_, rfl⟩ (.cons ⟨_, rfl⟩ (.cons ⟨_, rfl⟩ (.cons ⟨_, rfl⟩ .nil)))))⟩, fun H => .inr ⟨_, _, _, v_LARGER, rfl, rfl, by show 3 ≤ sizeLine; decide, .cons ⟨_, rfl⟩ (.cons ⟨_, rfl⟩ (.cons ⟨_, rfl⟩ .nil))⟩, fun x => ?_, fun o x r h => ?_, fun o h => ?_, fun o h => ?_⟩
    · cases x
      · exact ⟨_, w_EXPECTED_0, _, rfl⟩
      · exact ⟨_, w_EXPECTED_1, _, rfl⟩
      · exact ⟨_, w_EXPECTED_2, _, rfl⟩
    · cases o <;> cases h
      · exact ⟨_, w_OPERATORS_0, fun H => .inr ⟨_, _, _, v_OPERATORS_0, rfl, rfl, by show 2 ≤ sizeLine; decide, .cons ⟨_, rfl⟩ (.cons ⟨_, rfl⟩ .nil)⟩⟩
      · exact ⟨_, w_OPERATORS_6, fun H => .inr ⟨_, _, _, v_OPERATORS_6, rfl, rfl, by show 2 ≤ sizeLine; decide, .cons ⟨_, rfl⟩ (.cons ⟨_, rfl⟩ .nil)⟩⟩
      · exact ⟨_, w_OPERATORS_8, fun H => .inr ⟨_, _, _, v_OPERATORS_8, rfl, rfl, by show 2 ≤ sizeLine; decide, .cons ⟨_, rfl⟩ (.cons ⟨_, rfl⟩ .nil)⟩⟩
      · exact ⟨_, w_OPERATORS_7, fun H => .inr ⟨_, _, _, v_OPERATORS_7, rfl, rfl, by show 2 ≤ sizeLine; decide, .cons ⟨_, rfl⟩ (.cons ⟨_, rfl⟩ .nil)⟩⟩
      · exact ⟨_, w_OPERATORS_1, fun H => .inr ⟨_, _, _, v_OPERATORS_1, rfl, rfl, by show 2 ≤ sizeLine; decide, .cons ⟨_, rfl⟩ (.cons ⟨_, rfl⟩ .nil)⟩⟩
      · exact ⟨_, w_OPERATORS_2, fun H => .inr ⟨_, _, _, v_OPERATORS_2, rfl, rfl, by show 2 ≤ sizeLine; decide, .cons ⟨_, rfl⟩ (.cons ⟨_, rfl⟩ .nil)⟩⟩
      · exact ⟨_, w_OPERATORS_3, fun H => .inr ⟨_, _, _, v_OPERATORS_3, rfl, rfl, by show 2 ≤ sizeLine; decide, .cons ⟨_, rfl⟩ (.cons ⟨_, rfl⟩ .nil)⟩⟩
      · exact ⟨_, w_OPERATORS_4, fun H => .inr ⟨_, _, _, v_OPERATORS_4, rfl, rfl, by show 2 ≤ sizeLine; decide, .cons ⟨_, rfl⟩ (.cons ⟨_, rfl⟩ .nil)⟩⟩
      · exact ⟨_, w_OPERATORS_5, fun H => .inr ⟨_, _, _, v_OPERATORS_5, rfl, rfl, by show 2 ≤ sizeLine; decide, .cons ⟨_, rfl⟩ (.cons ⟨_, rfl⟩ .nil)⟩⟩
      · exact ⟨_, w_OPERATORS_9, fun H => .inr ⟨_, _, _, v_OPERATORS_9, rfl, rfl, by show 2 ≤ sizeLine; decide, .cons ⟨_, rfl⟩ (.cons ⟨_, rfl⟩ .nil)⟩⟩
      · exact ⟨_, w_OPERATORS_10, fun H => .inr ⟨_, _, _, v_OPERATORS_10, rfl, rfl, by show 2 ≤ sizeLine; decide, .cons ⟨_, rfl⟩ (.cons ⟨_, rfl⟩ .nil)⟩⟩
    · cases o <;> cases h
      · exact m_OPERATORS_3
      · exact m_OPERATORS_4
      · exact m_OPERATORS_5
      · exact m_OPERATORS_6
      · exact m_OPERATORS_7
      · exact m_OPERATORS_8
      · exact m_OPERATORS_0
      · exact m_OPERATORS_2
      · exact m_OPERATORS_1
    · cases o <;> cases h
      · exact .inr ⟨m_PLAIN_WORDS_0, rfl⟩
      · exact .inr ⟨m_PLAIN_WORDS_1, rfl⟩
      · exact .inr ⟨m_PLAIN_WORDS_3, rfl⟩
      · exact .inr ⟨m_PLAIN_WORDS_2, rfl⟩
      · exact .inl ⟨_, w_PLAIN_WORDS_5, _, rfl⟩
      · exact .inl ⟨_, w_PLAIN_WORDS_6, _, rfl⟩
      · exact .inl ⟨_, w_PLAIN_WORDS_0, _, rfl⟩
      · exact .inl ⟨_, w_PLAIN_WORDS_1, _, rfl⟩
      · exact .inl ⟨_, w_PLAIN_WORDS_2, _, rfl⟩
      · exact .inl ⟨_, w_PLAIN_WORDS_3, _, rfl⟩
      · exact .inl ⟨_, w_PLAIN_WORDS_4, _, rfl⟩
      · exact .inr ⟨m_PLAIN_WORDS_6, rfl⟩
      · exact .inr ⟨m_PLAIN_WORDS_4, rfl⟩
      · exact .inr ⟨m_PLAIN_WORDS_5, rfl⟩
      · exact .inl ⟨_, w_PLAIN_WORDS_7, _, rfl⟩
  have EK := FnOk.clx (ok_ek F_expect_kind M PB KG) F_expect_kind g_expect_kind b_expect_kind
  have CK := FnOk.clx (ok_ck F_common_kind M PB) F_common_kind g_common_kind b_common_kind
  have RK := FnOk.clx (ok_rk F_result_kind M PB KG EK CK) F_result_kind g_result_kind b_result_kind
  have RZ := FnOk.cl (P := l.prog) (w := w) (base := base) (ok_rz F_result_size M KG) F_result_size g_result_size b_result_size
  have PF := FnOk.cl (P := l.prog) (w := w) (base := base) (ok_pf F_plain_form M KG) F_plain_form g_plain_form b_plain_form
  have IN := FnOk.cl (P := l.prog) (w := w) (base := base) (ok_in F_is_named M) F_is_named g_is_named b_is_named
  have NC := FnOk.clx (ok_nc F_named_column M PB IN) F_named_column g_named_column b_named_column
  have WO := cl_wo F_written_out M PB g_written_out b_written_out NC RK PF RZ

  have DR := FnOk.cl (P := l.prog) (w := w) (base := base) (ok_draw F__law_draw M) F__law_draw g__law_draw b__law_draw
  have N := FnOk.cl (P := l.prog) (w := w) (base := base) (ok_next F__law_next M) F__law_next g__law_next b__law_next
  have SM := cl_same (P := l.prog) (w := w) (base := base) F__law_same M g__law_same b__law_same
  have CE := FnOk.clx (ok_ce 30 F_compile_expression M PB KG (WO 30)) F_compile_expression g_compile_expression b_compile_expression
  have TO := FnOk.cl (ok_told 30 F__law_told M PB xf_PB en_message_Problem te_PB CE) F__law_told g__law_told b__law_told
  have LS := cl_size (P := l.prog) (w := w) (base := base) F__law_size M g__law_size b__law_size 30
  have LL := FnOk.cl (ok_leaf F__law_leaf M N) F__law_leaf g__law_leaf b__law_leaf
  have LW := cl_wide F__law_wide M g__law_wide b__law_wide N LL 7
  have LX := cl_exact F__law_exact M g__law_exact b__law_exact LL 8
  exact ok_law F_law M DR N LW LX LS TO (SM 5)⟩
end Lw
open PySem PySem.W PyProof.Rows
set_option maxHeartbeats 0 in
theorem PySem.Challenge.cw_lineworks_k26_sizes_of_expressions_holds : PySem.Challenge.rw_lineworks_k26_sizes_of_expressions.Holds := by
  w_on; o_law; k_head; (case hw => w_witness2)
  k_fill
  refine L2.walk_of (l := PySem.Challenge.rw_lineworks_k26_sizes_of_expressions) (n := 63) (k := 38) (x := "script") (CX := fun _ => L2.CX0) (sp := fun w => Lw.sp_law _) rfl (by decide) rfl ⟨rfl, by decide, by decide⟩ (fun w h Y => PySem.W.kIn_of Y) ?F (fun _ _ a ns hl _ hS => ⟨a, ns, rfl, hS, hl, fun _ => rfl⟩) (fun _ _ _ _ _ h => h)
  case F =>
    intro w mg fa h KX G hmg
    refine' Lw.all_mk KX G hmg ?a0 ?l0 ?c0 ?k0 ?a1 ?l1 ?c1 ?k1 ?a2 ?l2 ?c2 ?k2 ?a3 ?l3 ?c3 ?k3 ?a4 ?l4 ?c4 ?k4 ?a5 ?l5 ?c5 ?k5 ?a6 ?l6 ?c6 ?k6 ?a7 ?l7 ?c7 ?k7 ?a8 ?l8 ?c8 ?k8 ?a9 ?l9 ?c9 ?k9 ?a10 ?l10 ?c10 ?k10 ?a11 ?l11 ?c11 ?k11 ?a12 ?l12 ?c12 ?k12 ?a13 ?l13 ?c13 ?k13 ?a14 ?l14 ?c14 ?k14 ?a15 ?l15 ?c15 ?k15 ?a16 ?l16 ?c16 ?k16 ?a17 ?l17 ?c17 ?k17 ?w_OPERATORS ?v_OPERATORS ?k_OPERATORS ?lo_OPERATORS ?w_OPERATORS_0 ?v_OPERATORS_0 ?w_OPERATORS_1 ?v_OPERATORS_1 ?w_OPERATORS_2 ?v_OPERATORS_2 ?w_OPERATORS_3 ?v_OPERATORS_3 ?w_OPERATORS_4 ?v_OPERATORS_4 ?w_OPERATORS_5 ?v_OPERATORS_5 ?w_OPERATORS_6 ?v_OPERATORS_6 ?w_OPERATORS_7 ?v_OPERATORS_7 ?w_OPERATORS_8 ?v_OPERATORS_8 ?w_OPERATORS_9 ?v_OPERATORS_9 ?w_OPERATORS_10 ?v_OPERATORS_10 ?m_OPERATORS_0 ?m_OPERATORS_1 ?m_OPERATORS_2 ?m_OPERATORS_3 ?m_OPERATORS_4 ?m_OPERATORS_5 ?m_OPERATORS_6 ?m_OPERATORS_7 ?m_OPERATORS_8 ?w_COMPARISONS ?v_COMPARISONS ?w_EXPECTED ?v_EXPECTED ?k_EXPECTED ?lo_EXPECTED ?w_EXPECTED_0 ?w_EXPECTED_1 ?w_EXPECTED_2 ?w_PLAIN_WORDS ?v_PLAIN_WORDS ?k_PLAIN_WORDS ?lo_PLAIN_WORDS ?w_PLAIN_WORDS_0 ?w_PLAIN_WORDS_1 ?w_PLAIN_WORDS_2 ?w_PLAIN_WORDS_3 ?w_PLAIN_WORDS_4 ?w_PLAIN_WORDS_5 ?w_PLAIN_WORDS_6 ?w_PLAIN_WORDS_7 ?m_PLAIN_WORDS_0 ?m_PLAIN_WORDS_1 ?m_PLAIN_WORDS_2 ?m_PLAIN_WORDS_3 ?m_PLAIN_WORDS_4 ?m_PLAIN_WORDS_5 ?m_PLAIN_WORDS_6 ?w_LARGER ?v_LARGER ?w_MOST_SIZE ?z_abs ?z_all ?z_bool ?z_enumerate ?z_int ?z_isinstance ?z_len ?z_list ?z_range ?z_str ?z_sum ?z_tuple ?ea_Problem ?ex_Problem ?erv_Problem ?esa_Problem ?ega_Problem ?egg_Problem ?en_message_Problem ?ei_Problem ?eti_Problem ?el_Problem ?ec_Problem ?eo_Problem ?ev2_Problem ?efl_Problem ?exc_Problem ?eic_Problem ?emr_Problem ?ezs_Problem ?etp_Problem ?eoq_Problem ?esi_Problem ?esv_Problem ?ee_Problem ?et_Problem ?ek_Problem ?eh_Problem ?ess_Problem
    (case a0 => k_is); (case l0 => k_is); (case c0 => k_is); (case k0 => k_is)
    (case a1 => k_is); (case l1 => k_is); (case c1 => k_is); (case k1 => k_is)
    (case a2 => k_is); (case l2 => k_is); (case c2 => k_is); (case k2 => k_is)
    (case a3 => k_is); (case l3 => k_is); (case c3 => k_is); (case k3 => k_is)
    (case a4 => k_is); (case l4 => k_is); (case c4 => k_is); (case k4 => k_is)
    (case a5 => k_is); (case l5 => k_is); (case c5 => k_is); (case k5 => k_is)
    (case a6 => k_is); (case l6 => k_is); (case c6 => k_is); (case k6 => k_is)
    (case a7 => k_is); (case l7 => k_is); (case c7 => k_is); (case k7 => k_is)
    (case a8 => k_is); (case l8 => k_is); (case c8 => k_is); (case k8 => k_is)
    (case a9 => k_is); (case l9 => k_is); (case c9 => k_is); (case k9 => k_is)
    (case a10 => k_is); (case l10 => k_is); (case c10 => k_is); (case k10 => k_is)
    (case a11 => k_is); (case l11 => k_is); (case c11 => k_is); (case k11 => k_is)
    (case a12 => k_is); (case l12 => k_is); (case c12 => k_is); (case k12 => k_is)
    (case a13 => k_is); (case l13 => k_is); (case c13 => k_is); (case k13 => k_is)
    (case a14 => k_is); (case l14 => k_is); (case c14 => k_is); (case k14 => k_is)
    (case a15 => k_is); (case l15 => k_is); (case c15 => k_is); (case k15 => k_is)
    (case a16 => k_is); (case l16 => k_is); (case c16 => k_is); (case k16 => k_is)
    (case a17 => k_is); (case l17 => k_is); (case c17 => k_is); (case k17 => k_is)
    (case w_OPERATORS => k_is)
    (case v_OPERATORS => k_is)
    (case k_OPERATORS => k_keys)
    (case lo_OPERATORS => first | rfl | decide | decide +kernel)
    (case w_OPERATORS_0 => k_is)
    (case v_OPERATORS_0 => k_is)
    (case w_OPERATORS_1 => k_is)
    (case v_OPERATORS_1 => k_is)
    (case w_OPERATORS_2 => k_is)
    (case v_OPERATORS_2 => k_is)
    (case w_OPERATORS_3 => k_is)
    (case v_OPERATORS_3 => k_is)
    (case w_OPERATORS_4 => k_is)
    (case v_OPERATORS_4 => k_is)
    (case w_OPERATORS_5 => k_is)
    (case v_OPERATORS_5 => k_is)
    (case w_OPERATORS_6 => k_is)
    (case v_OPERATORS_6 => k_is)
    (case w_OPERATORS_7 => k_is)
    (case v_OPERATORS_7 => k_is)
    (case w_OPERATORS_8 => k_is)
    (case v_OPERATORS_8 => k_is)
    (case w_OPERATORS_9 => k_is)
    (case v_OPERATORS_9 => k_is)
    (case w_OPERATORS_10 => k_is)
    (case v_OPERATORS_10 => k_is)
    (case m_OPERATORS_0 => k_is)
    (case m_OPERATORS_1 => k_is)
    (case m_OPERATORS_2 => k_is)
    (case m_OPERATORS_3 => k_is)
    (case m_OPERATORS_4 => k_is)
    (case m_OPERATORS_5 => k_is)
    (case m_OPERATORS_6 => k_is)
    (case m_OPERATORS_7 => k_is)
    (case m_OPERATORS_8 => k_is)
    (case w_COMPARISONS => k_is)
    (case v_COMPARISONS => k_is)
    (case w_EXPECTED => k_is)
    (case v_EXPECTED => k_is)
    (case k_EXPECTED => k_keys)
    (case lo_EXPECTED => first | rfl | decide | decide +kernel)
    (case w_EXPECTED_0 => k_is)
    (case w_EXPECTED_1 => k_is)
    (case w_EXPECTED_2 => k_is)
    (case w_PLAIN_WORDS => k_is)
    (case v_PLAIN_WORDS => k_is)
    (case k_PLAIN_WORDS => k_keys)
    (case lo_PLAIN_WORDS => first | rfl | decide | decide +kernel)
    (case w_PLAIN_WORDS_0 => k_is)
    (case w_PLAIN_WORDS_1 => k_is)
    (case w_PLAIN_WORDS_2 => k_is)
    (case w_PLAIN_WORDS_3 => k_is)
    (case w_PLAIN_WORDS_4 => k_is)
    (case w_PLAIN_WORDS_5 => k_is)
    (case w_PLAIN_WORDS_6 => k_is)
    (case w_PLAIN_WORDS_7 => k_is)
    (case m_PLAIN_WORDS_0 => k_is)
    (case m_PLAIN_WORDS_1 => k_is)
    (case m_PLAIN_WORDS_2 => k_is)
    (case m_PLAIN_WORDS_3 => k_is)
    (case m_PLAIN_WORDS_4 => k_is)
    (case m_PLAIN_WORDS_5 => k_is)
    (case m_PLAIN_WORDS_6 => k_is)
    (case w_LARGER => k_is)
    (case v_LARGER => k_is)
    (case w_MOST_SIZE => k_is)
    (case z_abs => k_is); (case z_all => k_is); (case z_bool => k_is); (case z_enumerate => k_is); (case z_int => k_is); (case z_isinstance => k_is); (case z_len => k_is); (case z_list => k_is); (case z_range => k_is); (case z_str => k_is); (case z_sum => k_is); (case z_tuple => k_is)
    (case ea_Problem => k_is)
    (case ex_Problem => k_is)
    (case erv_Problem => first | rfl | decide | decide +kernel)
    (case esa_Problem => k_is)
    (case ega_Problem => k_is)
    (case egg_Problem => k_is)
    (case en_message_Problem => k_is)
    (case ei_Problem => k_is)
    (case eti_Problem => k_is)
    (case el_Problem => k_is)
    (case ec_Problem => k_is)
    (case eo_Problem => k_is)
    (case ev2_Problem => rfl)
    (case efl_Problem => first | rfl | decide | decide +kernel)
    (case exc_Problem => k_is)
    (case eic_Problem => k_is)
    (case emr_Problem => k_is)
    (case ezs_Problem => k_is)
    (case etp_Problem => first | rfl | decide | decide +kernel)
    (case eoq_Problem => k_is)
    (case esi_Problem => ks_is)
    (case esv_Problem => k_is)
    (case ee_Problem => k_is)
    (case et_Problem => k_is)
    (case ek_Problem => k_is)
    (case eh_Problem => k_is)
    (case ess_Problem => k_is)

