import PyProof.Rows.All
import Wide.All
import OpenK.AllK
import Wide.FinOn
import HandS.ForMost
import HandS.Wide
import HandS.IsInst
import HandS.Replace
import HandS.Codes
import HandS.More
import HandS.StrMore
import HandS.FStr
import HandS.Nested
import HandS.Exc
import HandS.ExcInit
import HandS.ExcField
import HandS.WordsExc
import PyProof.StrBlock2
import KE.KExcSuper
import KE.KSuper
import KE.KSuperObj
import KE.KExcMake
import PySem.Challenge.RW_lineworks_k03_unknown_characters
set_option Elab.async false
set_option linter.all false
set_option maxRecDepth 100000
namespace Lw
open PySem PySem.Spec PyProof.Rows L2
def topS (i : Nat) : Stmt := PySem.Challenge.pw_lineworks_k03_unknown_characters.main.body.getD i (.Pass ⟨0, 0, 0, 0⟩)
abbrev s__wall : Stmt := topS 0
abbrev s_SourceError___init__ : Stmt := inClass (topS 3) 0
abbrev s_tokens : Stmt := topS 12
abbrev N_tokens : List Str := ["source", "found", "offset", "kind", "value", "end"]
theorem sc_tokens : FnScope N_tokens ["source"] (defScope s_tokens) := ⟨rfl, rfl, rfl, by decide +kernel, rfl, by decide +kernel, by decide +kernel⟩
abbrev s_place : Stmt := topS 13
abbrev N_place : List Str := ["source", "offset", "line", "column"]
theorem sc_place : FnScope N_place ["source", "offset"] (defScope s_place) := ⟨rfl, rfl, rfl, by decide +kernel, rfl, by decide +kernel, by decide +kernel⟩
abbrev s_behind_gap : Stmt := topS 14
abbrev N_behind_gap : List Str := ["source", "start", "end"]
theorem sc_behind_gap : FnScope N_behind_gap ["source", "start"] (defScope s_behind_gap) := ⟨rfl, rfl, rfl, by decide +kernel, rfl, by decide +kernel, by decide +kernel⟩
abbrev s_behind_comment : Stmt := topS 15
abbrev N_behind_comment : List Str := ["source", "start", "newline"]
theorem sc_behind_comment : FnScope N_behind_comment ["source", "start"] (defScope s_behind_comment) := ⟨rfl, rfl, rfl, by decide +kernel, rfl, by decide +kernel, by decide +kernel⟩
abbrev s_read_token : Stmt := topS 16
abbrev N_read_token : List Str := ["source", "start", "first"]
theorem sc_read_token : FnScope N_read_token ["source", "start"] (defScope s_read_token) := ⟨rfl, rfl, rfl, by decide +kernel, rfl, by decide +kernel, by decide +kernel⟩
abbrev s_read_word : Stmt := topS 17
abbrev N_read_word : List Str := ["source", "start", "end"]
theorem sc_read_word : FnScope N_read_word ["source", "start"] (defScope s_read_word) := ⟨rfl, rfl, rfl, by decide +kernel, rfl, by decide +kernel, by decide +kernel⟩
abbrev s_read_number : Stmt := topS 18
abbrev N_read_number : List Str := ["source", "start", "end"]
theorem sc_read_number : FnScope N_read_number ["source", "start"] (defScope s_read_number) := ⟨rfl, rfl, rfl, by decide +kernel, rfl, by decide +kernel, by decide +kernel⟩
abbrev s_read_text : Stmt := topS 19
abbrev N_read_text : List Str := ["source", "start", "end", "value"]
theorem sc_read_text : FnScope N_read_text ["source", "start"] (defScope s_read_text) := ⟨rfl, rfl, rfl, by decide +kernel, rfl, by decide +kernel, by decide +kernel⟩
abbrev s_read_sign : Stmt := topS 20
abbrev N_read_sign : List Str := ["source", "start", "begun", "sign"]
theorem sc_read_sign : FnScope N_read_sign ["source", "start"] (defScope s_read_sign) := ⟨rfl, rfl, rfl, by decide +kernel, rfl, by decide +kernel, by decide +kernel⟩
abbrev s_behind_run : Stmt := topS 21
abbrev N_behind_run : List Str := ["source", "start", "members", "end"]
theorem sc_behind_run : FnScope N_behind_run ["source", "start", "members"] (defScope s_behind_run) := ⟨rfl, rfl, rfl, by decide +kernel, rfl, by decide +kernel, by decide +kernel⟩
abbrev s_behind_text : Stmt := topS 22
abbrev N_behind_text : List Str := ["source", "start", "end"]
theorem sc_behind_text : FnScope N_behind_text ["source", "start"] (defScope s_behind_text) := ⟨rfl, rfl, rfl, by decide +kernel, rfl, by decide +kernel, by decide +kernel⟩
abbrev s_refuse : Stmt := topS 23
abbrev N_refuse : List Str := ["source", "offset", "line", "column"]
theorem sc_refuse : FnScope N_refuse ["source", "offset"] (defScope s_refuse) := ⟨rfl, rfl, rfl, by decide +kernel, rfl, by decide +kernel, by decide +kernel⟩
abbrev s_read_expression : Stmt := topS 30
abbrev s_read_or : Stmt := topS 31
abbrev s_read_and : Stmt := topS 32
abbrev s_read_not : Stmt := topS 33
abbrev s_read_comparison : Stmt := topS 34
abbrev s_read_sum : Stmt := topS 35
abbrev s_read_product : Stmt := topS 36
abbrev s_read_negation : Stmt := topS 37
abbrev s_read_left_to_right : Stmt := topS 38
abbrev s_read_atom : Stmt := topS 39
abbrev s_read_parenthesis : Stmt := topS 40
abbrev s_read_call : Stmt := topS 41
abbrev s_read_leaf : Stmt := topS 42
abbrev s_read_named : Stmt := topS 43
abbrev s_deeper : Stmt := topS 44
abbrev s_Reader___init__ : Stmt := inClass (topS 47) 0
abbrev N_Reader___init__ : List Str := ["self", "source"]
theorem sc_Reader___init__ : FnScope N_Reader___init__ ["self", "source"] (defScope s_Reader___init__) := ⟨rfl, rfl, rfl, by decide +kernel, rfl, by decide +kernel, by decide +kernel⟩
abbrev s_Reader_kind : Stmt := inClass (topS 47) 1
abbrev s_Reader_ahead : Stmt := inClass (topS 47) 2
abbrev s_Reader_offset : Stmt := inClass (topS 47) 3
abbrev s_Reader_take : Stmt := inClass (topS 47) 4
abbrev s_Reader_expect : Stmt := inClass (topS 47) 5
abbrev s_Reader_take_name : Stmt := inClass (topS 47) 6
abbrev s_Reader_expect_end : Stmt := inClass (topS 47) 7
abbrev s_Reader_fail : Stmt := inClass (topS 47) 8
abbrev s_parse_source : Stmt := topS 55
abbrev N_parse_source : List Str := ["source", "reader", "items", "offset"]
theorem sc_parse_source : FnScope N_parse_source ["source"] (defScope s_parse_source) := ⟨rfl, rfl, rfl, by decide +kernel, rfl, by decide +kernel, by decide +kernel⟩
abbrev s_read_item : Stmt := topS 56
abbrev s_read_table : Stmt := topS 57
abbrev s_read_list : Stmt := topS 58
abbrev s_read_column : Stmt := topS 59
abbrev s_read_step : Stmt := topS 60
abbrev s_read_query : Stmt := topS 61
abbrev s_read_chain : Stmt := topS 62
abbrev s_read_operand : Stmt := topS 63
abbrev s_read_inside : Stmt := topS 64
abbrev s_read_stage : Stmt := topS 65
abbrev s_read_join : Stmt := topS 66
abbrev s_read_group : Stmt := topS 67
abbrev s_read_output : Stmt := topS 68
abbrev s_read_total : Stmt := topS 69
abbrev s_read_form : Stmt := topS 70
abbrev s__law_draw : Stmt := topS 72
abbrev N__law_draw : List Str := ["script"]
theorem sc__law_draw : FnScope N__law_draw ["script"] (defScope s__law_draw) := ⟨rfl, rfl, rfl, by decide +kernel, rfl, by decide +kernel, by decide +kernel⟩
abbrev s__law_next : Stmt := topS 73
abbrev N__law_next : List Str := ["draw", "many", "found", "cell"]
theorem sc__law_next : FnScope N__law_next ["draw", "many"] (defScope s__law_next) := ⟨rfl, rfl, rfl, by decide +kernel, rfl, by decide +kernel, by decide +kernel⟩
abbrev s__law_fault : Stmt := topS 74
abbrev N__law_fault : List Str := ["draw", "form"]
theorem sc__law_fault : FnScope N__law_fault ["draw"] (defScope s__law_fault) := ⟨rfl, rfl, rfl, by decide +kernel, rfl, by decide +kernel, by decide +kernel⟩
abbrev s__law_error : Stmt := topS 75
abbrev N__law_error : List Str := ["script", "first", "e"]
theorem sc__law_error : FnScope N__law_error ["script", "first"] (defScope s__law_error) := ⟨rfl, rfl, rfl, by decide +kernel, rfl, by decide +kernel, by decide +kernel⟩
abbrev s_law : Stmt := topS 76
abbrev N_law : List Str := ["script", "draw", "parts", "source", "k", "line", "column", "char", "due"]
theorem sc_law : FnScope N_law ["script"] (defScope s_law) := ⟨rfl, rfl, rfl, by decide +kernel, rfl, by decide +kernel, by decide +kernel⟩
/-! ### heaps and calls -/
theorem same_upd {H : Hp} {p : Addr} {o : HO} (h : H p = none) : Same H (upd H p o) := fun b x e => by
  rw [upd_ne (ne_of_none e h)]
  exact e
/-- what stood stands, but for the object at d -/
def Fd (d : Addr) (H H' : Hp) : Prop := ∀ b o, b ≠ d → H b = some o → H' b = some o
theorem Fd.refl (d : Addr) (H : Hp) : Fd d H H := fun _ _ _ e => e
theorem Fd.trans {d : Addr} {H H1 H2 : Hp} (a : Fd d H H1) (b : Fd d H1 H2) : Fd d H H2 := fun c o n e => b c o n (a c o n e)
theorem Fd.of {d : Addr} {H H' : Hp} (a : Same H H') : Fd d H H' := fun b o _ e => a b o e
theorem Fd.new {d : Addr} {H : Hp} {p : Addr} {o : HO} (h : H p = none) : Fd d H (upd H p o) := Fd.of (same_upd h)
theorem Fd.at {d : Addr} {H : Hp} {o : HO} : Fd d H (upd H d o) := fun b x n e => by
  rw [upd_ne n]
  exact e
/-- a def that may be called by its name -/
structure Cl (P : Program) (w : World) (K : PySem.W.Frag) (mg : Str → Option Value) (base : Heap) (k : Nat) (x : Str) (sp : Sp) : Prop where
  ex : ∃ (f : Addr) (fd : FuncData) (ps : List Str), FnOk P w K mg base CX0 k f fd ps sp ∧ mg x = some (.ref f) ∧ PySem.W.keepIn K (.ref f) = true ∧ Binds K fd ps []
section
variable {X : Cx} {k j : Nat} {x : Str} {sp : Sp} {p pos : Pos} {e : Expr} {es : List Expr} {t : TA}
theorem pe_u (c : Cl X.prog X.w X.K X.mg X.base k x sp) (hr : Room j X.A) (hk : k ≤ j) (hg : Gl X x) (ha : PA X (e :: es) t)
    (hdb : (x == ("__debug__" : Str)) = false := by decide) (he : starEach (e :: es) X.env = (false, eval e X.env) :: starEach es X.env := by rfl) (hpl : (backTo pos (starEach es X.env)).any (·.1) = false := by rfl) :
    PE X (.Call (.Name x p) (e :: es) [] pos) (tCall sp [] E0 t) := by
  obtain ⟨f, fd, ps, F, hm, kp, b⟩ := c.ex
  exact pe_call F (hr.mono hk) hg hm kp b .nil pass0 ha hdb he hpl
theorem pe_u0 (c : Cl X.prog X.w X.K X.mg X.base k x sp) (hr : Room j X.A) (hk : k ≤ j) (hg : Gl X x) (hdb : (x == ("__debug__" : Str)) = false := by decide) : PE X (.Call (.Name x p) [] [] pos) (tCall sp [] E0 tNil) := by
  obtain ⟨f, fd, ps, F, hm, kp, b⟩ := c.ex
  exact pe_call0 F (hr.mono hk) hg hm kp b .nil pass0 hdb
end
theorem FnOk.cl {P : Program} {w : World} {K : PySem.W.Frag} {mg : Str → Option Value} {base : Heap} {k : Nat} {x q : Str} {st : Stmt} {f : Addr} {fd : FuncData} {ps : List Str} {sp : Sp} (h : FnOk P w K mg base CX0 k f fd ps sp) (F : Fun K x q st f fd) (g : mg x = some (.ref f)) (b : Binds K fd ps []) : Cl P w K mg base k x sp := ⟨f, fd, ps, h, g, F.kp, b⟩
/-! ### rules with the written part named (within a comprehension) -/
section
variable {X : Cx} (K : PySem.W.Frag)
theorem ix_listK (h : X.K = K := by rfl) : IxR X (rIxL K) := by subst h; exact ix_list
theorem ix_tupK (h : X.K = K := by rfl) : IxR X (rIxT K) := by subst h; exact ix_tup
theorem ix_seqK (h : X.K = K := by rfl) : IxR X (rIx K) := by subst h; exact ix_seq
theorem len_seqK (h : X.K = K := by rfl) : CallR X (.builtin "len") (fun xs H Q => ∃ p ys, xs = [.ref p] ∧ (SqL K H p ys ∨ SqT K H p ys) ∧ Q (.int ys.length) H) := by subst h; exact call_len_seq
theorem isiK (h : X.K = K := by rfl) : CallR X (.builtin "isinstance") (rIsi K) := by subst h; exact call_isi
theorem isiTK (h : X.K = K := by rfl) : CallR X (.builtin "isinstance") (rIsiT K) := by subst h; exact call_isiT
theorem allK (hc : X.calm = true) (h : X.K = K := by rfl) : CallR X (.builtin "all") (rAll K) := by subst h; exact cr_all hc
theorem listK (h : X.K = K := by rfl) : CallR X (.type "list") (fun xs H Q => ∃ p ys, xs = [.ref p] ∧ (SqL K H p ys ∨ SqT K H p ys) ∧ ∀ l, H l = none → Q (.ref l) (upd H l (.lst ys))) := by subst h; exact call_list_of
theorem tupleK (h : X.K = K := by rfl) : CallR X (.type "tuple") (fun xs H Q => ∃ p ys, xs = [.ref p] ∧ ((SqL K H p ys ∧ ∀ l, H l = none → Q (.ref l) (upd H l (.tup ys))) ∨ (SqT K H p ys ∧ Q (.ref p) H))) := by subst h; exact call_tuple_of
theorem inK (h : X.K = K := by rfl) : OpR X (compareOp .In) (rIn K false) := by subst h; exact op_in_seq
theorem notInK (h : X.K = K := by rfl) : OpR X (compareOp .NotIn) (rIn K true) := by subst h; exact op_notIn_seq
theorem pe_bmK {T : String} {name : Str} {id : String} {r : V → List V → Hp → VK → Prop} {o e : Expr} {es : List Expr} {to : TE} {t : TA} {apos cpos : Pos} (pa : PlainAttrs T) (slot : Slot T name id) (hty : typeOf (.builtin id) = pure (.type "method_descriptor")) (hm : MtR X id r) (ho : PE X o to) (ha : PA X (e :: es) t) (hK : X.K = K := by rfl)
    (hbase : attributeBase o name X.env (eval o X.env) = eval o X.env := by rfl)
    (hfew : ((backTo cpos (starEach (e :: es) X.env)).all (fun x => !x.1) && (backToKw cpos (keywordEach [] X.env)).all (fun x => x.1.isSome)
      && decide ((e :: es).length + ([] : List Keyword).length + (if ([] : List Keyword).isEmpty then 0 else 1) < 30)) = true := by rfl)
    (hline : (apos.endLine == cpos.line) = true := by rfl) (hs : starEach (e :: es) X.env = (false, eval e X.env) :: starEach es X.env := by rfl) (hplain : (backTo cpos (starEach es X.env)).any (·.1) = false := by rfl) :
    PE X (.Call (.Attribute o name apos) (e :: es) [] cpos) (tBM K T r to t) := by subst hK; exact pe_bm pa slot hty hm ho ha hbase hfew hline hs hplain
theorem pt_truthK {a : Expr} {ta : TE} (ha : PE X a ta) (he : ∀ whole, isTrue a X.env whole = (do let v ← whole; standAt a.pos; holding [v] (truthy v))) (h : X.K = K := by rfl) : PT X a (fun σ H Q => ta σ H fun x H' => ∃ k, TruV K x H' k ∧ Q k H') := by subst h; exact pt_truth ha he
theorem eqDK (hu : X.A.units + 64 < cLine) (h : X.K = K := by rfl) : OpR X (compareOp .Eq) (rEqD K) := by subst h; exact op_eqD hu
theorem neDK (hu : X.A.units + 64 < cLine) (h : X.K = K := by rfl) : OpR X (compareOp .NotEq) (rNeD K) := by subst h; exact op_neD hu
end
/-- over the signs of a text -/
theorem for_strs {x : Str} {g : TG} {tb : TS} {D : Ends} {σ : L2.St} {H : Hp} (Pv : Nat → L2.St → Hp → Prop) (h0 : Pv 0 σ H)
    (hs : ∀ i c σ H, x.cps.toList[i]? = some c → Pv i σ H → g (.str ⟨#[c]⟩) σ H fun σ2 H2 => tb { D with nx := Pv (i + 1), ct := Pv (i + 1), bk := D.nx } σ2 H2) (hd : ∀ σ H, Pv x.cps.toList.length σ H → D.nx σ H) :
    ∃ W : Nat → Nat → L2.St → Hp → Prop, (∃ m, W 0 m σ H) ∧ ∀ i m σ H, W i m σ H →
      ((Its x).stop i H ∧ D.nx σ H) ∨ ((Its x).go i H ∧ ∃ N : L2.St → Hp → Prop, (∀ σ' H', N σ' H' → ∃ m', m' < m ∧ W (i + 1) m' σ' H') ∧ ∀ v H', (Its x).yld i H v H' → g v σ H' fun σ2 H2 => tb { D with nx := N, ct := N, bk := D.nx } σ2 H2) := by
  have es : x.cps.toList.length = x.cps.size := by simp
  refine ⟨fun i m σ H => m = x.cps.size - i ∧ i ≤ x.cps.size ∧ Pv i σ H, ⟨x.cps.size, by simp, Nat.zero_le _, h0⟩, ?_⟩
  rintro i m σ H ⟨rfl, hi, p⟩
  by_cases hlt : i < x.cps.size
  · refine .inr ⟨hlt, Pv (i + 1), fun σ' H' p' => ⟨x.cps.size - (i + 1), by omega, rfl, hlt, p'⟩, fun v H' y => ?_⟩
    obtain ⟨e, c, hc, rfl⟩ := y
    subst e
    exact hs i c σ _ (by rw [Array.getElem?_toList]; exact hc) p
  · have e : i = x.cps.size := by omega
    subst e
    exact .inl ⟨Nat.le_refl _, hd σ H (by rw [es]; exact p)⟩
theorem joinL0 : ∀ ps : List (List Nat), TL.joinL [] ps = ps.flatten
  | [] => rfl
  | [p] => by
    show p = p ++ []
    rw [List.append_nil]
  | p :: q :: r => by
    show p ++ ([] ++ TL.joinL [] (q :: r)) = p ++ (q :: r).flatten
    rw [joinL0 (q :: r), List.nil_append]
theorem join0 (ys : List Str) : Txt.join ⟨#[]⟩ ys = ⟨((ys.map TL.tl).flatten).toArray⟩ := by
  refine TL.ext_tl ?_
  rw [TL.join_eq, TL.tl_join]
  show TL.joinL [] _ = _
  rw [joinL0]
theorem flat_len : ∀ ys : List Str, ((ys.map TL.tl).flatten).length = (ys.map (·.length)).sum
  | [] => rfl
  | y :: ys => by
    rw [List.map_cons, List.flatten_cons, List.length_append, flat_len ys, List.map_cons, List.sum_cons]
    show y.cps.toList.length + _ = _
    rw [Array.length_toList]
    rfl
theorem S_len' (l : List Nat) : (⟨l.toArray⟩ : Str).length = l.length := by simp [Str.length]
theorem cut_to (l : List Nat) {o : Nat} (h : o ≤ l.length) : cutS ⟨l.toArray⟩ none (some (o : Int)) = ⟨(l.take o).toArray⟩ := by
  unfold cutS
  rw [HT.sIx_none, HT.sIx_nat, S_len', Nat.sub_zero, Nat.min_eq_left h]
  show (⟨((l.drop 0).take o).toArray⟩ : Str) = _
  rw [List.drop_zero]
theorem str1 (c : Nat) (d : Nat) : decide (V.str ⟨#[c]⟩ = V.str ⟨#[d]⟩) = decide (c = d) := by
  by_cases h : c = d
  · subst h
    rw [decide_eq_true rfl, decide_eq_true rfl]
  · rw [decide_eq_false h, decide_eq_false]
    intro e
    have e1 := V.str.inj e
    have e2 := Array.toList_inj.mpr (Str.mk.inj e1)
    exact h (by simpa using e2)
def tx (l : List Nat) : V := .str ⟨l.toArray⟩
/-- a comprehension's scope within another scope -/
def relS (scope sc : Scope) : Scope := { scope with names := scope.names.map fun (n, k) => if (k == .free && sc.kind == .function && sc.names.lookup n == some .cell) then (n, .cell) else (n, k) }
theorem anyK {X : Cx} (K : PySem.W.Frag) (hc : X.calm = true) (h : X.K = K := by rfl) : CallR X (.builtin "any") (rAny K) := by subst h; exact cr_any hc
theorem pi_listK {X : Cx} (K : PySem.W.Frag) {l tg : Expr} {tl : TE} (hl : PE X l tl) (h : X.K = K := by rfl) : PI X tg l (iList K tl) := by subst h; exact pi_list hl
theorem pi_tupK {X : Cx} (K : PySem.W.Frag) {l tg : Expr} {tl : TE} (hl : PE X l tl) (h : X.K = K := by rfl) : PI X tg l (iTup K tl) := by subst h; exact pi_tup hl

/-! ### an own error whose __init__ says super().__init__(e): its def by its body -/
theorem mw_push {h : Heap} {o : Obj} : ∀ b u, h.get? b = some u → (h.push o).get? b = some u := fun b u e => Heap.get?_push_of_some _ e
/-- the bound __init__ of ValueError, called -/
theorem call_mw {X : Cx} {pins : List (Addr × Obj)} {σ : L2.St} {H : Hp} {s : Shared} {a C u : Addr} {us : List Value} {A : Around} {E : Value → Shared → Prop} {Q : Value → Shared → Prop} (T : OexC X.K C) (I : Inv X pins σ H s) (e : H a = some (exo a C none)) (hu : s.heap.get? u = some (PySem.W.kxs_mw "ValueError.__init__" a)) (hl : us.length ≤ sizeLine) (h : ∀ s', Inv X pins σ H s' → Q .none s') :
    wpAny (model X.prog X.w) A (call (.ref u) us) Q E s := by
  obtain ⟨nm, q, N, bs, bm, sn, sub, ab, col, dd, k0, k1, k2, k3, k5, hC, hbm⟩ := T.cls
  obtain ⟨t1, ho⟩ := exo_at I.hok e
  obtain ⟨hp, g, d, t, os⟩ := s
  refine wpAny_call (codeAny_of_tree ?_)
  show wpAny _ A.in1 (callAny (.ref u) ⟨us, []⟩) _ _ _
  simp only [callAny]
  refine (wpAny_bind (wpAny_load hu ?_))
  simp only [PySem.W.kxs_mw, show (Value.type "method-wrapper" == Value.type "method" || Value.type "method-wrapper" == Value.type "builtin_function_or_method" || Value.type "method-wrapper" == Value.type "method-wrapper") = true by decide, if_true]
  refine PySem.W.KFB.if_so (by decide) ?_
  refine (wpAny_bind (PySem.W.check_bound_init PySem.F.excBase_ValueError.toExcCallFacts (I.kIn _ _ hC) ho rfl ?_))
  refine (wpAny_bind (wpAny_pure (wpAny_pure ?_)))
  refine ⟨plainId_quiet PySem.F.excBase_ValueError.init.plain _, codeAny_builtin PySem.F.excBase_ValueError.initEntry ?_⟩
  refine PySem.W.exc_init_tree (cls := .ref C) (t0 := t1) (dv := none) (c2 := .none) (c3 := .none) (b4 := .bool false) ho hl fun h' k hx ht => ?_
  have J := I.write (t' := t) (x := a) (e := a) (o := exo a C none) (by rw [e]; exact True.intro) (.inl rfl) k ⟨_, hx⟩ (exo_ok hx)
  have eu : upd H a (exo a C none) = H := by
    funext b
    by_cases hb : b = a
    · rw [hb, upd_same, e]
    · rw [upd_ne hb]
  rw [eu] at J
  exact h _ J
section
open NdefX
/-- what the written part says of such a class at C, of its __init__ F at f -/
structure SupC (P : Program) (K : PySem.W.Frag) (mg : Str → Option Value) (C f : Addr) (F : NF) (fd : FuncData) : Prop where
  lk : ∃ (oc : Value) (od : Option Addr) (osl : Array (Option Value)) (doc pm ct : Value), K.lookup f = some ⟨oc, od, .func fd, osl⟩ ∧ fd = F.fd doc pm ct
  hcd : PySem.W.codeIn K (.ref F.c) F.qual = true
  code : ∃ (ccl : Value) (cdd : Option Addr) (vs : Array Value) (ccs : Array (Option Value)) (file : Str) (tf : Tok), K.lookup F.c = some ⟨ccl, cdd, .fields vs, ccs⟩ ∧ vs[2]? = some (.str file tf) ∧ ((P.main.file : Str) == file) = true
  cell : ∃ (cc : Addr) (cl : Value) (cld : Option Addr) (csl : Array (Option Value)), F.cl = [(("__class__" : Str), cc)] ∧ K.lookup cc = some ⟨cl, cld, .cell (some (.ref C)), csl⟩
  cd : ∃ cd, PySem.W.clsIn K C = some cd
  sub : PySem.W.mroIn K C (.ref C) = some true
  noS : mg "super" = none
  top : (P.main.scope.names.lookup ("super" : Str)).isSome = false
  opq : PySem.W.nsIn K cStatics "thirdparty.any" = some none
  ini : PySem.W.ks_superIn K C C "__init__" = some (some (.builtin "ValueError.__init__"))
  isV : PySem.W.subIn K (.ref C) (.type "ValueError") = some true
  T : OexC K C
  hks : F.scope.names.lookup ("super" : Str) = some .globalImplicit
  hkc : F.scope.names.lookup ("__class__" : Str) = some .free
  hka : F.scope.names.lookup ("self" : Str) = some .local
  par : ∃ ar, (F.params.posonlyargs ++ F.params.args).head? = some ar ∧ ar.arg = "self"
theorem exo_none {C x : Addr} {h : Heap} {t1 : Addr} (he : h.get? x = some ({ cls := .ref C, dict := none, data := .fields #[.ref t1, .none, .none, .none, .bool false, .none] } : Obj)) : h.get? x = some (PySem.W.excObj C t1 none .none) := he
variable {P : Program} {w : World} {K : PySem.W.Frag} {mg : Str → Option Value} {base : Heap} {N ps : List Str} {F : NF} {f C : Addr} {k : Nat} {fd : FuncData} {sp : Sp} {e : Expr} {rest : List Stmt} {p0 p1 p2 p3 p4 : Pos}
set_option maxHeartbeats 2000000 in
theorem fn_super (U : SupC P K mg C f F fd) (S : NScope N ps ["__class__"] F.scope) (hb : F.body = .Expr (.Call (.Attribute (.Call (.Name "super" p0) [] [] p1) "__init__" p2) [e] [] p3) p4 :: rest) (hps : ps[0]? = some ("self" : Str))
    (hee : ∀ env : Env, ∃ pl : Sem Bool, eval (.Call (.Attribute (.Call (.Name "super" p0) [] [] p1) "__init__" p2) [e] [] p3) env = (do
      let ov ← attributeBase (.Call (.Name "super" p0) [] [] p1) "__init__" env (eval (.Call (.Name "super" p0) [] [] p1) env)
      standAt p2.atName
      let (f, first) ← holding [ov] (getMethod ov "__init__" pl)
      callWith p3 f first (backTo p3 (starEach [e] env)) []))
    (hst : ∀ env : Env, starEach [e] env = (false, eval e env) :: starEach [] env) (hsw : ∀ env : Env, swapsWith (.Call (.Attribute (.Call (.Name "super" p0) [] [] p1) "__init__" p2) [e] [] p3) none p4.line env = pure false)
    (len : ∀ vs H Q E, sp vs H Q E → vs.length = ps.length)
    (hbody : ∀ (A : Around) (outer : List Env) (s : Shared) (H : Hp) (vs : List V) (Q : VK) (E : XK), Room k (A.deeper (envF F f s.heap.objs.size)) → sp vs H Q E →
      ∃ te t, PE (ncx CX0 P w K mg base N F f A outer s H E) e te ∧ PSs (ncx CX0 P w K mg base N F f A outer s H E) rest t ∧
        ∃ a, vs[0]? = some (.ref a) ∧ H a = some (exo a C none) ∧ ∀ u H0, H u = none → Same H H0 → tCons te tNil (startF N vs [some (.ref C)]) H0 fun zs H1 => zs.length ≤ 1 ∧ H1 a = some (exo a C none) ∧ (∀ o, H0 u = some o → H1 u = some o) ∧ t { nx := fun _ H' => Q .non H', rt := Q } (startF N vs [some (.ref C)]) H1) :
    FnOk P w K mg base CX0 (k + 1) f fd ps sp := by
  refine ⟨len, fun A outer s H args us vs Q E hr e0 hbd r hsp => ?_⟩
  have hl := len _ _ _ _ hsp
  have KX : K.In s.heap := e0.mod.kin.keeps fun b o e => (e0.bs b o e).1
  have lim : s.heap.NoLimit := e0.mod.nolimit.keeps fun b o e => (e0.bs b o e).1
  obtain ⟨oc, od, osl, doc, pm, ct, lk, rfl⟩ := U.lk
  obtain ⟨ccl, cdd, fvs, ccs, file, tf, lkc, hfile, hmain⟩ := U.code
  obtain ⟨cc, cl, cld, csl, hcl, lkcc⟩ := U.cell
  obtain ⟨cd, hcd⟩ := U.cd
  obtain ⟨ar, har, hara⟩ := U.par
  obtain ⟨nm, q, Nn, bs, bm, sn, sub, ab, col, dd, k0, k1, k2, k3, k5, hC, hbm⟩ := U.T.cls
  obtain ⟨te, t, he, ht, a, hva, ha, hq⟩ := hbody A outer s H vs Q E (hr.deeper _) hsp
  -- the cell
  have base_at : ∀ {b : Addr} {o : Obj}, K.lookup b = some o → H b = none ∧ s.heap.get? b = some o := fun {b o} z => by
    have z1 := e0.mod.kin _ _ z
    exact ⟨(e0.bs _ _ z1).2, (e0.bs _ _ z1).1⟩
  have CA : CellsAt F.cl ["__class__"] [some (.ref C)] s.heap H := by
    rw [hcl]
    refine ⟨rfl, fun y c h => ?_, fun x y c h1 h2 => ?_, fun i y h => ?_⟩
    · obtain rfl : c = cc := by
        have := PySem.mem_of_lookup h
        exact (Prod.mk.inj (List.mem_singleton.mp this)).2
      exact ⟨(base_at lkcc).1, _, _, (base_at lkcc).2, rfl⟩
    · have e1 := (Prod.mk.inj (List.mem_singleton.mp (PySem.mem_of_lookup h1))).1
      have e2 := (Prod.mk.inj (List.mem_singleton.mp (PySem.mem_of_lookup h2))).1
      rw [e1, e2]
    · cases i with
      | zero =>
        cases h
        refine ⟨cc, by rw [List.lookup_cons, beq_self_eq_true], fun v hv => ?_⟩
        cases hv
        exact ⟨.ref C, rfl, _, (base_at lkcc).2, rfl⟩
      | succ i => cases h
  refine codeAny_call_function hr.depth (KX _ _ lk) rfl S.co S.gen rfl (PySem.W.codeRec_of KX U.hcd) (hbd _ _ _ _ ?_)
  refine wpAny_newFunctionEnv S.nocell (fun ⟨n, _⟩ hy => S.par n (List.of_mem_zip hy).1) (fun h₁ hns hsb => ⟨lim.fresh _ hsb, ?_⟩) S.kind
  show codeAny _ _ (.func F.body (envF F f s.heap.objs.size)) _ _
  have kp : ∀ b o, s.heap.get? b = some o → h₁.get? b = some o := fun b o e => hsb.extBut b o (Nat.ne_of_lt (Heap.lt_size e)) (Heap.get?_push_of_some _ e)
  have I : Inv (ncx CX0 P w K mg base N F f A outer s H E) [] (startF N vs [some (.ref C)]) H { s with heap := h₁, toks := s.toks + (ps.zip us).length } := inv_startN S hr.hd e0 hl r CA hns kp
  refine PySem.ks_codeAny_funcAt ?_
  rw [hb]
  obtain ⟨pl, hee⟩ := hee (envF F f s.heap.objs.size)
  refine PySem.ks_wpAt_execs_cons (PySem.ks_wpAt_Expr_any (PySem.ks_wpAt_MethodCall (pl := pl) ?_ hee) (hi := I.quiet) (hs := hsw _))
  -- super()
  have hu0 : us[0]? = some (.ref a) := by
    obtain ⟨u, hu, rv⟩ := r.get hva
    obtain rfl : u = Value.ref a := rv
    exact hu
  have hself : (ps.zip us).reverse.lookup ("self" : Str) = some (.ref a) := zip_look (by
    have q := S.nd.sublist (List.take_sublist (ps.length + [("__class__" : Str)].length) N)
    rw [S.pre] at q
    exact (List.nodup_append.mp q).1) hps hu0
  have K1 : ∀ {b : Addr} {o : Obj}, K.lookup b = some o → h₁.get? b = some o := fun z => kp _ _ (KX _ _ z)
  obtain ⟨mb, b1, b2⟩ := I.mod.blt
  obtain ⟨t1, hx1⟩ := exo_at I.hok ha
  have hx1 : h₁.get? a = some ({ cls := .ref C, dict := none, data := .fields #[.ref t1, .none, .none, .none, .bool false, .none] } : Obj) := hx1
  have hC1 := K1 hC
  obtain ⟨oD, hD1, hD2⟩ : ∃ oD, h₁.get? C = some oD ∧ oD.data = .cls cd := by
    have hcd := hcd
    unfold PySem.W.clsIn at hcd
    rw [hC] at hcd
    cases hcd
    exact ⟨_, hC1, rfl⟩
  refine PySem.ks_wpAt_super_base (env := envF F f s.heap.objs.size) U.hks U.hkc (by decide) rfl (K1 lk) rfl har rfl (K1 lkc) rfl hfile hmain U.top ?_
  refine PySem.W.ks_loadName_global S.kind U.hks (Calls.loadGlobal_builtin (env := envF F f s.heap.objs.size) (I.mod.glob.keeps I.bk) U.noS (b1.keeps I.bk) ((b2 "super" (by decide)).trans (by decide +kernel : bootBuiltins "super" = some (.type "super"))) ⟨rfl, ?_⟩)
  refine wpAny_loadName_free S.kind U.hkc (c := cc) (v := .ref C) (by show F.cl.lookup _ = _; rw [hcl, List.lookup_cons, beq_self_eq_true]) ⟨_, K1 lkcc, rfl⟩ ?_
  rw [hara]
  refine wpAny_loadName_local S.kind U.hka hns hself ?_
  refine PySem.ks_wpAny_isType_cls hD1 hD2 ⟨rfl, ?_⟩
  refine PySem.ks_wpAny_call_super hD1 hD2 hx1 rfl (fun c z => by cases z) (PySem.W.looks_mroIn (KX.keeps kp) U.sub) (fun h2 hso k2 => ?_)
  have I2 : Inv (ncx CX0 P w K mg base N F f A outer s H E) [] (startF N vs [some (.ref C)]) H { s with heap := h2, toks := s.toks + (ps.zip us).length } := I.kept (t' := s.toks + (ps.zip us).length) k2
  have X2 : K.In h2 := (KX.keeps kp).keeps k2
  have IA : PySem.W.InstAt h2 a { cls := .ref C, dict := none, data := .fields #[.ref t1, .none, .none, .none, .bool false, .none] } C none := ⟨k2 _ _ hx1, rfl, rfl, trivial⟩
  have hini : PySem.W.alongIn K "__init__" ((cd.mro.dropWhile (· != .ref C)).drop 1) = some (some (.builtin "ValueError.__init__")) := by
    have z := U.ini
    unfold PySem.W.ks_superIn at z
    rw [hcd] at z
    exact z
  have haC : a ≠ C := fun z => by
    have := (base_at hC).1
    rw [← z, ha] at this
    cases this
  refine PySem.W.kxs_getMethod PySem.W.kxs_ValueError hso (PySem.W.looks_opaque X2 U.opq) (l₀ := cd.mro) (fun A Q E s k q => wpAny_bind ((PySem.W.looks_clsIn X2 hcd) A _ E s k (wpAny_pure q))) rfl X2 hini (IA.type.andThen (PySem.W.looks_subIn X2 U.isV)) haC (by decide) ?_
  have nu : H h2.objs.size = none := I2.hok.fresh (Nat.le_refl _)
  have I3 := I2.laid (o := .ext fun h => h.get? h2.objs.size = some (PySem.W.kxs_mw "ValueError.__init__" a)) (h' := h2.push (PySem.W.kxs_mw "ValueError.__init__" a)) (t' := s.toks + (ps.zip us).length + 1) mw_push (Nat.le_refl _) ⟨Heap.get?_push_size _ rfl, ⟨_, Heap.get?_push_size _ rfl⟩, fun h1 h2 z g => g _ z⟩
  have q0 := hq h2.objs.size _ nu (same_upd nu (o := .ext fun h => h.get? h2.objs.size = some (PySem.W.kxs_mw "ValueError.__init__" a)))
  have ev := (pa_cons (X := ncx CX0 P w K mg base N F f A outer s H E) he pa_nil (hs := hst _)).run p3 [] _ _ _ _ I3 q0
  show wpAny _ _ (callWith p3 (.ref h2.objs.size) [] (backTo p3 (starEach [e] (envF F f s.heap.objs.size))) []) _ _ _
  rw [hst]
  rw [show starEach [e] (ncx CX0 P w K mg base N F f A outer s H E).env = (false, eval e (envF F f s.heap.objs.size)) :: starEach [] (envF F f s.heap.objs.size) from hst _] at ev
  refine PySem.W.kxs_callWith (i := "ValueError.__init__") (x := a) rfl (Calls.evalArgs_plain (thn ev fun us' s4 ⟨vs', H1, I4, r4, l4, e4, k4, q4⟩ => ?_))
  have hu4 : s4.heap.get? h2.objs.size = some (PySem.W.kxs_mw "ValueError.__init__" a) := (I4.hok _ _ (k4 _ upd_same)).1
  refine ⟨hu4, call_mw (X := ncx CX0 P w K mg base N F f A outer s H E) U.T I4 e4 hu4 (by show us'.length ≤ _; rw [← r4.length]; exact Nat.le_trans l4 (by decide)) fun s5 I5 => ?_⟩
  refine wpAt_of_wpAny (wpAny_mono (ht.run [] s5 _ H1 _ I5 q4) (fun fl s' hs => ?_) fun e s' hs => hs)
  have fin : ∀ {σ' : L2.St} {H' : Hp} {v : V} {u : Value}, Inv (ncx CX0 P w K mg base N F f A outer s H E) [] σ' H' s' → L2.RelV v u → Q v H' → CE outer P w H s Q u s' := fun {σ' H' v u} J rv q => ⟨v, H', J.os, J.bare, J.base, J.hok, rv, q⟩
  cases fl with
  | ret u =>
    obtain ⟨v, σ', H', J, rv, q⟩ := hs
    exact fin J rv q
  | next =>
    obtain ⟨σ', H', J, q⟩ := hs
    exact fin (v := V.non) (u := Value.none) J rfl q
  | brk =>
    obtain ⟨_, _, _, q⟩ := hs
    exact False.elim q
  | cont =>
    obtain ⟨_, _, _, q⟩ := hs
    exact False.elim q
end

/-! ### the program's error: line, column, message -/
def fs3 (l c : Int) (m : Str) : List (Str × V) := [("message", .str m), ("column", .int c), ("line", .int l)]
def sp_sinit (C : Addr) : Sp := fun vs H Q _ => ∃ (a : Addr) (l c : Int) (m : Str), vs = [.ref a, .int l, .int c, .str m] ∧ H a = some (exo a C none) ∧ 0 ≤ l ∧ l ≤ 1000000 ∧ 0 ≤ c ∧ c ≤ 1000000 ∧ m.length ≤ 1000 ∧ ∀ H' d, (∀ b o, b ≠ a → H b = some o → H' b = some o) → H' a = some (exo a C (some d)) → H' d = some (exd d (fs3 l c m)) → H d = none → d ≠ a → Q .non H'
theorem int_len {l : Int} (h0 : 0 ≤ l) (h1 : l ≤ 1000000) : (Str.ofString (toString l)).length ≤ 40 ∧ l.natAbs.log2 < 1920 := by
  have hn : l.natAbs < 10 ^ 16 := by
    have e : (10 : Nat) ^ 16 = 10000000000000000 := by decide
    omega
  have h2 : l.natAbs < 2 ^ 60 := by
    have e : (2 : Nat) ^ 60 = 1152921504606846976 := by decide
    omega
  have h3 := PySem.Flt.log2_lt_of (by decide : 0 < 60) h2
  have e := int_text_length_le10 (k := 16) (by decide) hn
  exact ⟨by rw [PySem.ofString_length]; omega, by omega⟩
theorem ns_sinit : NdefX.nscB ["self", "line", "column", "message", "__class__"] ["self", "line", "column", "message"] ["__class__"] (defScope s_SourceError___init__) = true := by decide +kernel
theorem js_len {ts : List TE} {σ : L2.St} {H : Hp} {Q : Str → Hp → Prop} {acc y : Str} {n m : Nat} (ha : acc.length ≤ n) (hy : y.length ≤ m) (hs : n + m ≤ 100000) (k : (acc ++ y).length ≤ n + m → tJs ts (acc ++ y) σ H Q) : ∃ y' : Str, V.str y = .str y' ∧ (acc ++ y').length ≤ sizeLine ∧ tJs ts (acc ++ y') σ H Q := by
  have h := strLen_append acc y
  have h2 : (100000 : Nat) ≤ sizeLine := by decide
  exact ⟨y, rfl, by omega, k (by omega)⟩
section
open NdefX
variable {P : Program} {w : World} {K : PySem.W.Frag} {mg : Str → Option Value} {base : Heap} {C f : Addr} {fd : FuncData}
abbrev sF (cc cda : Addr) : NF := ⟨"__init__", "SourceError.__init__", defArgs s_SourceError___init__, defBody s_SourceError___init__, defScope s_SourceError___init__, [("__class__", cc)], cda⟩
theorem ok_sinit {cc cda : Addr} (U : SupC P K mg C f (sF cc cda) fd) (n1 : PySem.W.findIn K (.ref C) "line" = some none) (n2 : PySem.W.findIn K (.ref C) "column" = some none) (n3 : PySem.W.findIn K (.ref C) "message" = some none) : FnOk P w K mg base CX0 1 f fd ["self", "line", "column", "message"] (sp_sinit C) := by
  refine fn_super (N := ["self", "line", "column", "message", "__class__"]) (F := sF cc cda) U (nscope_by ns_sinit) rfl rfl (fun env => ⟨_, rfl⟩) (fun env => rfl) (fun env => rfl) (fun vs H Q E h => ?_) (fun A outer s H vs Q E hr h => ?_)
  · obtain ⟨a, l, c, m, rfl, _⟩ := h
    rfl
  · obtain ⟨a, l, c, m, rfl, ha, l0, l1, c0, c1, hm, q⟩ := h
    refine ⟨_, _, pe_joined (.cons pe_str (.cons (pe_fmt (pv 1)) (.cons pe_str (.cons (pe_fmt (pv 2)) (.cons pe_str (.cons (pe_fmt (pv 3)) .nil)))))), pss_cons (ps_ost (pv 0) (pv 1)) (pss_cons (ps_ost (pv 0) (pv 2)) (pss_one (ps_ost (pv 0) (pv 3)))), a, rfl, ha, fun u H0 hu s0 => ?_⟩
    have il := int_len l0 l1
    have ic := int_len c0 c1
    have hsl : (1000 : Nat) ≤ sizeLine := by decide
    refine js_len (n := 0) (m := 20) (Nat.le_refl _) (by decide) (by decide) fun a1 => ?_
    refine ⟨_, rfl, .inr ⟨l, rfl, il.2, js_len (n := 20) (m := 40) a1 il.1 (by decide) fun a2 => ?_⟩⟩
    refine js_len (n := 60) (m := 20) a2 (by decide) (by decide) fun a3 => ?_
    refine ⟨_, rfl, .inr ⟨c, rfl, ic.2, js_len (n := 80) (m := 40) a3 ic.1 (by decide) fun a4 => ?_⟩⟩
    refine js_len (n := 120) (m := 20) a4 (by decide) (by decide) fun a5 => ?_
    refine ⟨_, rfl, .inl ⟨m, rfl, by omega, js_len (n := 140) (m := 1000) a5 hm (by decide) fun a6 => ?_⟩⟩
    refine ⟨Nat.le_refl _, s0 _ _ ha, fun o e => e, ?_⟩
    have ha0 := s0 _ _ ha
    refine ⟨_, rfl, _, rfl, a, C, rfl, U.T, n1, .inl ⟨ha0, fun dx nx nxa => ?_⟩⟩
    have ea1 : (upd (upd H0 dx (exd dx [("line", .int l)])) a (exo a C (some dx))) a = some (exo a C (some dx)) := upd_same
    have ed1 : (upd (upd H0 dx (exd dx [("line", .int l)])) a (exo a C (some dx))) dx = some (exd dx [("line", .int l)]) := by rw [upd_ne nxa, upd_same]
    have sm1 : ∀ b o, b ≠ a → H b = some o → (upd (upd H0 dx (exd dx [("line", .int l)])) a (exo a C (some dx))) b = some o := fun b o nb e => by
      rw [upd_ne nb, upd_ne (ne_of_none (s0 _ _ e) nx)]
      exact s0 _ _ e
    have nxH : H dx = none := by
      cases e : H dx with
      | none => rfl
      | some o => rw [s0 _ _ e] at nx; cases nx
    generalize upd (upd H0 dx (exd dx [("line", .int l)])) a (exo a C (some dx)) = H2 at ea1 ed1 sm1 ⊢
    refine ⟨_, rfl, _, rfl, a, C, rfl, U.T, n2, .inr ⟨dx, _, ea1, ed1, by show 1 ≤ 900; decide, ?_⟩⟩
    have ea2 : (upd H2 dx (exd dx [("column", .int c), ("line", .int l)])) a = some (exo a C (some dx)) := by rw [upd_ne (Ne.symm nxa)]; exact ea1
    have ed2 : (upd H2 dx (exd dx [("column", .int c), ("line", .int l)])) dx = some (exd dx [("column", .int c), ("line", .int l)]) := upd_same
    have sm2 : ∀ b o, b ≠ a → H b = some o → (upd H2 dx (exd dx [("column", .int c), ("line", .int l)])) b = some o := fun b o nb e => by
      rw [upd_ne (ne_of_none e nxH)]
      exact sm1 _ _ nb e
    generalize upd H2 dx (exd dx [("column", .int c), ("line", .int l)]) = H3 at ea2 ed2 sm2 ⊢
    refine ⟨_, rfl, _, rfl, a, C, rfl, U.T, n3, .inr ⟨dx, _, ea2, ed2, by show 2 ≤ 900; decide, ?_⟩⟩
    refine q _ dx (fun b o nb e => ?_) (by rw [upd_ne (Ne.symm nxa)]; exact ea2) upd_same nxH nxa
    rw [upd_ne (ne_of_none e nxH)]
    exact sm2 _ _ nb e
end
/-- all that a def that raises it needs -/
structure SrcE (P : Program) (w : World) (K : PySem.W.Frag) (mg : Str → Option Value) (base : Heap) (C : Addr) : Prop where
  T : OexC K C
  nm : mg "SourceError" = some (.ref C)
  ini : ∃ (fI : Addr) (fd : FuncData), PySem.W.findIn K (.ref C) "__init__" = some (some (.ref fI)) ∧ PySem.W.typeIn K (.ref fI) = some (.type "function") ∧ FnOk P w K mg base CX0 1 fI fd ["self", "line", "column", "message"] (sp_sinit C) ∧ Binds K fd ["self", "line", "column", "message"] []
/-- SourceError(l, c, m) -/
def tMkS (C : Addr) (ta : TA) : L2.St → Hp → XK → Prop := fun σ H Q => ta σ H fun vs H1 => ∃ (l c : Int) (m : Str), vs = [.int l, .int c, .str m] ∧ 0 ≤ l ∧ l ≤ 1000000 ∧ 0 ≤ c ∧ c ≤ 1000000 ∧ m.length ≤ 1000 ∧ ∀ d H', H1 d = none → Same H1 H' → H' d = some (.xd (fs3 l c m)) → Q (.ref C) (some d) H'
/-- a reading made monotone -/
def tMono (t : TA) : TA := fun σ H Q => ∃ Q0 : List V → Hp → Prop, t σ H Q0 ∧ ∀ vs H1, Q0 vs H1 → Q vs H1
theorem pa_mono {X : Cx} {es : List Expr} {t : TA} (h : PA X es t) : PA X es (tMono t) := ⟨fun pos pins s σ H Q I ⟨Q0, a, m⟩ => wpAny_mono (h.run pos pins s σ H Q0 I a) (fun us s' ⟨vs, H', J, r, q⟩ => ⟨vs, H', J, r, m _ _ q⟩) fun _ _ z => z⟩
theorem pmk_src {X : Cx} {C : Addr} {k : Nat} {ta : TA} {e : Expr} {es : List Expr} {p pos : Pos} (S : SrcE X.prog X.w X.K X.mg X.base C) (hr : Room k X.A) (hk : 2 ≤ k) (hg : L2.Gl X "SourceError") (ha : PA X (e :: es) ta)
    (he : starEach (e :: es) X.env = (false, eval e X.env) :: starEach es X.env := by rfl) (hpl : (backTo pos (starEach es X.env)).any (·.1) = false := by rfl) : PMk X (.Call (.Name "SourceError" p) (e :: es) [] pos) (tMkS C ta) := by
  obtain ⟨fI, fd, iC, tI, F1, hb⟩ := S.ini
  have go := pmk_oex (p := p) (pos := pos) (dvs := []) S.T iC tI F1 (hr.mono hk) hb .nil pass0 hg S.nm (pa_mono ha) (by decide) he hpl
  intro pins s σ H Q I h
  refine go pins s σ H Q I ⟨_, h, fun vs H1 hv => ?_⟩
  obtain ⟨l, c, m, rfl, l0, l1, c0, c1, hm, q⟩ := hv
  refine ⟨by show 3 ≤ 1000; decide, fun a na => ⟨a, l, c, m, rfl, upd_same, l0, l1, c0, c1, hm, fun H' d kp ea ed nd nda => ⟨rfl, d, _, ea, ed, ?_, ?_⟩⟩⟩
  · rw [upd_ne nda] at nd
    exact nd
  · rw [upd_ne nda] at nd
    refine q d _ nd (fun b o e => ?_) upd_same
    have nb := ne_of_none e na
    rw [upd_ne (ne_of_none e nd), del_ne nb]
    exact kp b o nb (by rw [upd_ne nb]; exact e)
/-- raise SourceError(l, c, m), out of a def -/
theorem ps_raiseS {X : Cx} {C : Addr} {k : Nat} {ta : TA} {W : WX} {e : Expr} {es : List Expr} {p pos pos' : Pos} (S : SrcE X.prog X.w X.K X.mg X.base C) (hc : X.calm = true) (tk : Takes X W) (hr : Room k X.A) (hk : 2 ≤ k) (hg : L2.Gl X "SourceError") (ha : PA X (e :: es) ta)
    (he : starEach (e :: es) X.env = (false, eval e X.env) :: starEach es X.env := by rfl) (hpl : (backTo pos (starEach es X.env)).any (·.1) = false := by rfl) : PS X (.Raise (some (.Call (.Name "SourceError" p) (e :: es) [] pos)) none pos') (fun _ σ H => tMkS C ta σ H fun cls d H' => W cls d σ H') :=
  ps_raise hc tk (pmk_src S hr hk hg ha he hpl)
/-- a def that may raise, called by its name -/
structure ClX (P : Program) (w : World) (K : PySem.W.Frag) (mg : Str → Option Value) (base : Heap) (k : Nat) (x : Str) (sp : Sp) : Prop where
  ex : ∃ (f : Addr) (fd : FuncData) (ps : List Str), FnOk P w K mg base (L2.CX P w) k f fd ps sp ∧ mg x = some (.ref f) ∧ PySem.W.keepIn K (.ref f) = true ∧ Binds K fd ps []
theorem FnOk.clx {P : Program} {w : World} {K : PySem.W.Frag} {mg : Str → Option Value} {base : Heap} {k : Nat} {x q : Str} {st : Stmt} {f : Addr} {fd : FuncData} {ps : List Str} {sp : Sp} (h : FnOk P w K mg base (L2.CX P w) k f fd ps sp) (F : Fun K x q st f fd) (g : mg x = some (.ref f)) (b : Binds K fd ps []) : ClX P w K mg base k x sp := ⟨f, fd, ps, h, g, F.kp, b⟩
structure ClCX (P : Program) (w : World) (K : PySem.W.Frag) (mg : Str → Option Value) (base : Heap) (k : Nat) (x : Str) (C : Addr) (sp : Sp) : Prop where
  ex : ∃ (f : Addr) (fd : FuncData) (ps : List Str), FnOk P w K mg base (L2.CX P w) k f fd ps sp ∧ Mk K C f ∧ mg x = some (.ref C) ∧ Binds K fd ps []
theorem passX {X : Cx} {E : XK} (tk : Takes X (fun cls d _ H => E cls d H)) : Passes (L2.CX X.prog X.w) X E := fun pins σ H s e s' I c => passAt (W := fun cls d _ H => E cls d H) tk σ pins H s e s' I c
section
variable {X : Cx} {k j : Nat} {x : Str} {sp : Sp} {E : XK} {C : Addr} {p pos : Pos} {e : Expr} {es : List Expr} {t : TA}
theorem pe_ux (c : ClX X.prog X.w X.K X.mg X.base k x sp) (hr : Room j X.A) (hk : k ≤ j) (hp : Passes (L2.CX X.prog X.w) X E) (hg : L2.Gl X x) (ha : PA X (e :: es) t)
    (hdb : (x == ("__debug__" : Str)) = false := by decide) (he : starEach (e :: es) X.env = (false, eval e X.env) :: starEach es X.env := by rfl) (hpl : (backTo pos (starEach es X.env)).any (·.1) = false := by rfl) :
    PE X (.Call (.Name x p) (e :: es) [] pos) (tCall sp [] E t) := by
  obtain ⟨f, fd, ps, F, hm, kp, b⟩ := c.ex
  exact pe_call F (hr.mono hk) hg hm kp b .nil hp ha hdb he hpl
theorem pe_mkx (c : ClCX X.prog X.w X.K X.mg X.base k x C sp) (hr : Room j X.A) (hk : k + 1 ≤ j) (hp : Passes (L2.CX X.prog X.w) X E) (hg : L2.Gl X x) (ha : PA X (e :: es) t)
    (hdb : (x == ("__debug__" : Str)) = false := by decide) (he : starEach (e :: es) X.env = (false, eval e X.env) :: starEach es X.env := by rfl) (hpl : (backTo pos (starEach es X.env)).any (·.1) = false := by rfl) :
    PE X (.Call (.Name x p) (e :: es) [] pos) (tMake C sp [] E t) := by
  obtain ⟨f, fd, ps, F, M, hm, b⟩ := c.ex
  exact pe_make M F (hr.mono hk) hg hm b .nil hp ha hdb he hpl
end

structure Mg (mg : Str → Option Value) : Prop where
  abs : mg "abs" = none
  int : mg "int" = none
  len : mg "len" = none
  list : mg "list" = none
  range : mg "range" = none
/-! ### the law's draws: a list of the script's copy, a place in it, what is left of a great number, a seed -/
def Dr (H : Hp) (d c : Addr) : Prop := c ≠ d ∧ ∃ (ns : List Int) (pos rest seed : Int), H d = some (.lst [.ref c, .int pos, .int rest, .int seed]) ∧ H c = some (.lst (ns.map V.int)) ∧ 0 ≤ pos ∧ 0 ≤ rest ∧ 0 ≤ seed ∧ seed < 2147483647
theorem Dr.ext {H H' : Hp} {d c : Addr} (h : Dr H d c) (e : Same H H') : Dr H' d c := by
  obtain ⟨n, ns, pos, rest, seed, h1, h2, r⟩ := h
  exact ⟨n, ns, pos, rest, seed, e _ _ h1, e _ _ h2, r⟩
theorem Dr.upd {H : Hp} {d c p : Addr} {o : HO} (h : Dr H d c) (n1 : p ≠ d) (n2 : p ≠ c) : Dr (upd H p o) d c := by
  obtain ⟨n, ns, pos, rest, seed, h1, h2, r⟩ := h
  exact ⟨n, ns, pos, rest, seed, by rw [upd_ne n1.symm]; exact h1, by rw [upd_ne n2.symm]; exact h2, r⟩
theorem Dr.nd {H : Hp} {d c p : Addr} (h : Dr H d c) (n : H p = none) : p ≠ d := by
  obtain ⟨_, ns, pos, rest, seed, h1, _⟩ := h
  exact (ne_of_none h1 n).symm
theorem Dr.nc {H : Hp} {d c p : Addr} (h : Dr H d c) (n : H p = none) : p ≠ c := by
  obtain ⟨_, ns, pos, rest, seed, _, h2, _⟩ := h
  exact (ne_of_none h2 n).symm
theorem Dr.lst {H : Hp} {d c : Addr} (h : Dr H d c) : ∃ zs, H d = some (.lst zs) := by
  obtain ⟨_, ns, pos, rest, seed, h1, _⟩ := h
  exact ⟨_, h1⟩
theorem Dr.lift {H H' : Hp} {d c d' c' : Addr} (_h : Dr H d c) (h' : Dr H' d' c') : Dr H' d' c' := h'
def sp_draw (K : PySem.W.Frag) : Sp := fun vs H Q _ => ∃ (a : Addr) (ns : List Int), vs = [.ref a] ∧ SqL K H a (ns.map V.int) ∧ ∀ H' d c, Same H H' → H d = none → Dr H' d c → Q (.ref d) H'
/-- a draw: some number below many -/
def sp_next : Sp := fun vs H Q _ => ∃ (d c : Addr) (many : Int), vs = [.ref d, .int many] ∧ Dr H d c ∧ 1 ≤ many ∧ many < 2 ^ 64 ∧ ∀ H' r, Fd d H H' → (∀ p, p ≠ d → H' p = H p) → Dr H' d c → 0 ≤ r → r < many → Q (.int r) H'
section
variable {P : Program} {w : World} {K : PySem.W.Frag} {mg : Str → Option Value} {base : Heap}
theorem ok_draw {f : Addr} {fd : FuncData} (F : Fun K "_law_draw" "_law_draw" s__law_draw f fd) (M : Mg mg) : FnOk P w K mg base CX0 1 f fd ["script"] (sp_draw K) := by
  refine F.ok sc__law_draw (fun vs H Q E h => ?_) (fun cdv A outer s H vs Q E hr h => ?_)
  · obtain ⟨a, ns, rfl, _⟩ := h
    rfl
  · obtain ⟨a, ns, rfl, hS, q⟩ := h
    refine ⟨_, (pss_one (ps_ret (pe_lst (pa_cons (pe_callTy (listK K) (by rfl) M.list (by decide +kernel) (pa_cons (pv 0) pa_nil)) (pa_cons pe_int (pa_cons pe_int (pa_cons pe_int pa_nil))))))), ?_⟩
    refine ⟨_, rfl, a, _, rfl, .inl hS, fun c nc => ?_⟩
    refine ⟨by show 4 ≤ sizeLine; decide, fun d nd => ?_⟩
    have hc : (upd H c (.lst (ns.map V.int))) c = some (.lst (ns.map V.int)) := upd_same
    have ncd : c ≠ d := ne_of_none hc nd
    have s1 := (same_upd nc (o := .lst (ns.map V.int))).trans (same_upd nd (o := .lst [.ref c, .int 0, .int 0, .int 17]))
    refine q _ d c s1 ((same_upd nc).free nd) ⟨ncd, ns, 0, 0, 17, upd_same, ?_, by decide, by decide, by decide, by decide⟩
    rw [upd_ne ncd]
    exact hc
theorem next_aux {H : Hp} {d c : Addr} {xs' : List V} {pos rest seed : Int} {ns : List Int} (hn : c ≠ d) (h2 : H c = some (.lst (ns.map V.int))) (hx : xs' = [.ref c, .int pos, .int rest, .int seed]) (h0 : 0 ≤ pos) (h1 : 0 ≤ rest) (h3 : 0 ≤ seed) (h4 : seed < 2147483647) : Dr (upd H d (.lst xs')) d c := by
  subst hx
  refine ⟨hn, ns, pos, rest, seed, upd_same, ?_, h0, h1, h3, h4⟩
  rw [upd_ne hn]
  exact h2
theorem ok_next {f : Addr} {fd : FuncData} (F : Fun K "_law_next" "_law_next" s__law_next f fd) (M : Mg mg) : FnOk P w K mg base CX0 1 f fd ["draw", "many"] sp_next := by
  refine F.ok sc__law_next (fun vs H Q E h => ?_) (fun cdv A outer s H vs Q E hr h => ?_)
  · obtain ⟨d, c, many, rfl, _⟩ := h
    rfl
  · obtain ⟨d, c, many, rfl, ⟨ncd, ns, pos, rest, seed, h1, h2, h0, h3, h4, h5⟩, hm1, hm2, q⟩ := h
    have hdv : ∀ x : Int, CDivW x many := fun x => wide_div (b := 64) (by omega) (by omega) (by decide) (by decide)
    have hcd : d ≠ c := ncd.symm
    have L0 : SqL K H d [.ref c, .int pos, .int rest, .int seed] := .of h1
    have at0 : ∀ (a b e g : V), atI [a, b, e, g] (0 : Int) = some a := fun a b e g => atI_nat (j := 0) rfl
    have at1 : ∀ (a b e g : V), atI [a, b, e, g] (1 : Int) = some b := fun a b e g => atI_nat (j := 1) rfl
    have at2 : ∀ (a b e g : V), atI [a, b, e, g] (2 : Int) = some e := fun a b e g => atI_nat (j := 2) rfl
    have at3 : ∀ (a b e g : V), atI [a, b, e, g] (3 : Int) = some g := fun a b e g => atI_nat (j := 3) rfl
    have fr : ∀ (H0 : Hp) (o : HO), (∀ p, p ≠ d → H0 p = H p) → (∀ p, p ≠ d → (upd H0 d o) p = H p) := fun H0 o e p n => by rw [upd_ne n]; exact e p n
    have fF : ∀ (H0 : Hp), (∀ p, p ≠ d → H0 p = H p) → Fd d H H0 := fun H0 e b o n h => by rw [e b n]; exact h
    -- the last row's value
    have last : ∀ (seed' : Int), 0 ≤ seed' → seed' < 2147483647 → ∀ H0 : Hp, (∀ p, p ≠ d → H0 p = H p) → (∃ pos rest, H0 d = some (.lst [.ref c, .int pos, .int rest, .int seed']) ∧ 0 ≤ pos ∧ 0 ≤ rest) → Q (.int ((seed' * 69621 % 2147483629 / 7) % many)) H0 := by
      intro seed' g0 g1 H0 e ⟨pos', rest', g2, g3, g4⟩
      exact q H0 _ (fF _ e) e ⟨ncd, ns, pos', rest', seed', g2, by rw [e c ncd]; exact h2, g3, g4, g0, g1⟩ (Int.emod_nonneg _ (by omega)) (Int.emod_lt_of_pos _ (by omega))
    refine ⟨_, (pss_cons (ps_if (pt_cmpR op_gt (pe_ix (ix_listK K) (pv 0) pe_int (fun _ _ => rfl)) pe_int (nomark _)) (pss_cons (ps_set (i := 2) sc__law_next.nd rfl (.inl rfl) (pe_op op_mod (pe_callTy call_int1 (by rfl) M.int (by decide +kernel) (pa_cons (pe_ix (ix_listK K) (pv 0) pe_int (fun _ _ => rfl)) pa_nil)) (pv 1)))
      (pss_cons (ps_asg (pe_op op_fdivW (pe_ix (ix_listK K) (pv 0) pe_int (fun _ _ => rfl)) (pv 1)) (pg_sub (pv 0) pe_int set_list))
      (pss_one (ps_ret (pv 2))))) pss_nil)
      (pss_cons (ps_if (pt_cmpR op_lt (pe_ix (ix_listK K) (pv 0) pe_int (fun _ _ => rfl)) (pe_callB (len_seqK K) (by rfl) M.len PySem.boot_len (pa_cons (pe_ix (ix_listK K) (pv 0) pe_int (fun _ _ => rfl)) pa_nil)) (nomark _)) (pss_cons (ps_set (i := 3) sc__law_next.nd rfl (.inl rfl) (pe_callB call_abs (by rfl) M.abs (by decide +kernel) (pa_cons (pe_ix (ix_listK K) (pe_ix (ix_listK K) (pv 0) pe_int (fun _ _ => rfl)) (pe_ix (ix_listK K) (pv 0) pe_int (fun _ _ => rfl)) (fun _ _ => rfl)) pa_nil)))
      (pss_cons (ps_asg (pe_op op_add (pe_ix (ix_listK K) (pv 0) pe_int (fun _ _ => rfl)) pe_int) (pg_sub (pv 0) pe_int set_list))
      (pss_cons (ps_if (pt_cmpR op_ge (pv 3) (pe_op op_pow pe_int pe_int) (nomark _)) (pss_cons (ps_asg (pe_op op_fdivW (pv 3) (pv 1)) (pg_sub (pv 0) pe_int set_list))
      (pss_one (ps_ret (pe_op op_mod (pe_callTy call_int1 (by rfl) M.int (by decide +kernel) (pa_cons (pv 3) pa_nil)) (pv 1))))) pss_nil)
      (pss_one (ps_asg (pe_op op_mod (pe_callTy call_int1 (by rfl) M.int (by decide +kernel) (pa_cons (pe_op op_add (pe_op op_add (pe_op op_mul (pe_ix (ix_listK K) (pv 0) pe_int (fun _ _ => rfl)) pe_int) (pv 3)) pe_int) pa_nil)) pe_int) (pg_sub (pv 0) pe_int set_list)))))) (pss_one (ps_asg (pe_op op_mod (pe_callTy call_int1 (by rfl) M.int (by decide +kernel) (pa_cons (pe_op op_add (pe_op op_mul (pe_ix (ix_listK K) (pv 0) pe_int (fun _ _ => rfl)) pe_int) pe_int) pa_nil)) pe_int) (pg_sub (pv 0) pe_int set_list))))
      (pss_one (ps_ret (pe_op op_mod (pe_op op_fdivW (pe_callTy call_int1 (by rfl) M.int (by decide +kernel) (pa_cons (pe_op op_mod (pe_op op_mul (pe_ix (ix_listK K) (pv 0) pe_int (fun _ _ => rfl)) pe_int) pe_int) pa_nil)) pe_int) (pv 1)))))), ?_⟩
    refine ⟨_, rfl, d, _, 2, .int rest, rfl, rfl, L0, at2 .., ?_⟩
    refine ⟨_, _, rfl, rfl, _, rfl, ite2 (fun e => ?_) (fun e => ?_)⟩
    · -- draw[2] > 0
      have hr0 : 0 < rest := of_decide_eq_true e
      refine ⟨_, rfl, d, _, 2, .int rest, rfl, rfl, L0, at2 .., .inl ⟨_, rfl, ?_⟩⟩
      refine ⟨_, rfl, _, _, rfl, rfl, by omega, ?_⟩
      refine ⟨_, rfl, d, _, 2, .int rest, rfl, rfl, L0, at2 .., ?_⟩
      refine ⟨_, rfl, _, _, rfl, rfl, hdv _, ?_⟩
      refine ⟨_, rfl, d, _, 2, 2, rfl, rfl, h1, rfl, ?_⟩
      refine ⟨_, rfl, ?_⟩
      have e1 := fr H (.lst ([.ref c, .int pos, .int rest, .int seed].set 2 (.int (rest / many)))) (fun _ _ => rfl)
      exact q _ _ (fF _ e1) e1 (next_aux ncd h2 rfl h0 (Int.ediv_nonneg h3 (by omega)) h4 h5) (Int.emod_nonneg _ (by omega)) (Int.emod_lt_of_pos _ (by omega))
    · refine ⟨_, rfl, d, _, 1, .int pos, rfl, rfl, L0, at1 .., ?_⟩
      refine ⟨_, rfl, d, _, 0, .ref c, rfl, rfl, L0, at0 .., ?_⟩
      refine ⟨c, _, rfl, .inl (.of h2), ?_⟩
      refine ⟨_, _, rfl, rfl, _, rfl, ite2 (fun e2 => ?_) (fun e2 => ?_)⟩
      · have hp : pos < ((ns.map V.int).length : Int) := of_decide_eq_true e2
        rw [List.length_map] at hp
        obtain ⟨i, rfl⟩ := Int.eq_ofNat_of_zero_le h0
        have hi : i < ns.length := by omega
        have hat : atI (ns.map V.int) ((i : Nat) : Int) = some (.int ns[i]) := atI_nat (by rw [List.getElem?_map, List.getElem?_eq_getElem hi]; rfl)
        -- cell = abs(..)
        refine ⟨_, rfl, d, _, 0, .ref c, rfl, rfl, L0, at0 .., ?_⟩
        refine ⟨_, rfl, d, _, 1, _, rfl, rfl, L0, at1 .., ?_⟩
        refine ⟨c, _, _, _, rfl, rfl, .of h2, hat, ?_⟩
        refine ⟨_, rfl, ?_⟩
        have hcell : (0 : Int) ≤ (if ns[i] < 0 then -ns[i] else ns[i]) := by split <;> omega
        generalize (if ns[i] < 0 then -ns[i] else ns[i]) = cell at hcell
        -- draw[1] = draw[1] + 1
        refine ⟨_, rfl, d, _, 1, _, rfl, rfl, L0, at1 .., ?_⟩
        refine ⟨_, _, rfl, rfl, ?_⟩
        refine ⟨_, rfl, d, _, 1, 1, rfl, rfl, h1, rfl, ?_⟩
        have hd1 : (upd H d (.lst ([.ref c, .int ((i : Nat) : Int), .int rest, .int seed].set 1 (.int ((i : Nat) + 1))))) d = some (.lst [.ref c, .int ((i : Nat) + 1), .int rest, .int seed]) := upd_same
        have e1 := fr H (.lst ([.ref c, .int ((i : Nat) : Int), .int rest, .int seed].set 1 (.int ((i : Nat) + 1)))) (fun _ _ => rfl)
        generalize upd H d (.lst ([.ref c, .int ((i : Nat) : Int), .int rest, .int seed].set 1 (.int ((i : Nat) + 1)))) = H1 at hd1 e1
        have h2' : H1 c = some (.lst (ns.map V.int)) := by rw [e1 c ncd]; exact h2
        -- cell >= 10 ** 18
        refine ⟨_, rfl, _, _, rfl, rfl, ⟨by decide, by decide, by decide⟩, ?_⟩
        refine ⟨_, _, rfl, rfl, _, rfl, ite2 (fun e3 => ?_) (fun e3 => ?_)⟩
        · refine ⟨_, rfl, _, rfl, _, _, rfl, rfl, hdv _, ?_⟩
          refine ⟨_, rfl, d, _, 2, 2, rfl, rfl, hd1, rfl, ?_⟩
          refine ⟨_, rfl, .inl ⟨_, rfl, ?_⟩⟩
          refine ⟨_, rfl, _, _, rfl, rfl, by omega, ?_⟩
          have e5 := fr H1 (.lst ([.ref c, .int ((i : Nat) + 1), .int rest, .int seed].set 2 (.int (cell / many)))) e1
          exact q _ _ (fF _ e5) e5 (next_aux ncd h2' rfl (by omega) (Int.ediv_nonneg hcell (by omega)) h4 h5) (Int.emod_nonneg _ (by omega)) (Int.emod_lt_of_pos _ (by omega))
        · -- draw[3] = ..
          refine ⟨_, rfl, d, _, 3, .int seed, rfl, rfl, .of hd1, at3 .., ?_⟩
          refine ⟨_, _, rfl, rfl, .inl ⟨by omega, by omega⟩, ?_⟩
          refine ⟨_, rfl, _, _, rfl, rfl, ?_⟩
          refine ⟨_, _, rfl, rfl, .inl ⟨_, rfl, ?_⟩⟩
          refine ⟨_, _, rfl, rfl, by show (0 : Int) < 2147483647; decide, ?_⟩
          refine ⟨_, rfl, d, _, 3, 3, rfl, rfl, hd1, rfl, ?_⟩
          have hs0 : 0 ≤ (seed * 48271 + cell + 11) % 2147483647 := Int.emod_nonneg _ (by decide)
          have hs1 : (seed * 48271 + cell + 11) % 2147483647 < 2147483647 := Int.emod_lt_of_pos _ (by decide)
          have e5 := fr H1 (.lst ([.ref c, .int ((i : Nat) + 1), .int rest, .int seed].set 3 (.int ((seed * 48271 + cell + 11) % 2147483647)))) e1
          have hd5 : (upd H1 d (.lst ([.ref c, .int ((i : Nat) + 1), .int rest, .int seed].set 3 (.int ((seed * 48271 + cell + 11) % 2147483647))))) d = some (.lst [.ref c, .int ((i : Nat) + 1), .int rest, .int ((seed * 48271 + cell + 11) % 2147483647)]) := upd_same
          dsimp only
          generalize (seed * 48271 + cell + 11) % 2147483647 = seed' at hs0 hs1 e5 hd5 ⊢
          refine ⟨_, rfl, d, _, 3, .int seed', rfl, rfl, .of hd5, at3 .., ?_⟩
          refine ⟨_, _, rfl, rfl, .inl ⟨by omega, by omega⟩, ?_⟩
          refine ⟨_, _, rfl, rfl, by show (0 : Int) < 2147483629; decide, .inl ⟨_, rfl, ?_⟩⟩
          refine ⟨_, _, rfl, rfl, ⟨by decide, by decide⟩, ?_⟩
          refine ⟨_, rfl, _, _, rfl, rfl, by omega, ?_⟩
          exact last seed' hs0 hs1 _ e5 ⟨_, _, hd5, by omega, h3⟩
      · -- draw[3] = ..
        refine ⟨_, rfl, d, _, 3, .int seed, rfl, rfl, L0, at3 .., ?_⟩
        refine ⟨_, _, rfl, rfl, .inl ⟨by omega, by omega⟩, ?_⟩
        refine ⟨_, _, rfl, rfl, .inl ⟨_, rfl, ?_⟩⟩
        refine ⟨_, _, rfl, rfl, by show (0 : Int) < 2147483647; decide, ?_⟩
        refine ⟨_, rfl, d, _, 3, 3, rfl, rfl, h1, rfl, ?_⟩
        have hs0 : 0 ≤ (seed * 48271 + 12345) % 2147483647 := Int.emod_nonneg _ (by decide)
        have hs1 : (seed * 48271 + 12345) % 2147483647 < 2147483647 := Int.emod_lt_of_pos _ (by decide)
        have e5 := fr H (.lst ([.ref c, .int pos, .int rest, .int seed].set 3 (.int ((seed * 48271 + 12345) % 2147483647)))) (fun _ _ => rfl)
        have hd5 : (upd H d (.lst ([.ref c, .int pos, .int rest, .int seed].set 3 (.int ((seed * 48271 + 12345) % 2147483647))))) d = some (.lst [.ref c, .int pos, .int rest, .int ((seed * 48271 + 12345) % 2147483647)]) := upd_same
        dsimp only
        generalize (seed * 48271 + 12345) % 2147483647 = seed' at hs0 hs1 e5 hd5 ⊢
        refine ⟨_, rfl, d, _, 3, .int seed', rfl, rfl, .of hd5, at3 .., ?_⟩
        refine ⟨_, _, rfl, rfl, .inl ⟨by omega, by omega⟩, ?_⟩
        refine ⟨_, _, rfl, rfl, by show (0 : Int) < 2147483629; decide, .inl ⟨_, rfl, ?_⟩⟩
        refine ⟨_, _, rfl, rfl, ⟨by decide, by decide⟩, ?_⟩
        refine ⟨_, rfl, _, _, rfl, rfl, by omega, ?_⟩
        exact last seed' hs0 hs1 _ e5 ⟨_, _, hd5, h0, h3⟩
end

/-! ### data in the heap -/
theorem SqT.ext {K : PySem.W.Frag} {H H' : Hp} {a : Addr} {xs : List V} (e : Same H H') (h : SqT K H a xs) : SqT K H' a xs := by
  rcases h with (h | ⟨o, h⟩) | h
  · exact .inl (.inl (e _ _ h))
  · exact .inl (.inr ⟨o, e _ _ h⟩)
  · exact .inr h
mutual
theorem Dp.ext {K : PySem.W.Frag} {H H' : Hp} (e : Same H H') : ∀ (d : PyData) (v : V), Dp K H v d → Dp K H' v d
  | .none, _, h => by cases h; exact .non
  | .bool b, _, h => by cases h; exact .bl b
  | .int i, _, h => by cases h; exact .int i
  | .str x, _, h => by cases h; exact .str x
  | .list ds, _, h => by
    cases h with
    | lst hs ha => exact .lst (e.seq hs) (DpAll.ext e ds _ ha)
  | .tuple ds, _, h => by
    cases h with
    | tup hs ha => exact .tup (SqT.ext e hs) (DpAll.ext e ds _ ha)
  | .dict _, _, h => by cases h
theorem DpAll.ext {K : PySem.W.Frag} {H H' : Hp} (e : Same H H') : ∀ (ds : List PyData) (vs : List V), DpAll K H vs ds → DpAll K H' vs ds
  | [], _, h => by cases h; exact .nil
  | d :: ds, _, h => by
    cases h with
    | cons h1 h2 => exact .cons (Dp.ext e d _ h1) (DpAll.ext e ds _ h2)
end
theorem DpAll.len {K : PySem.W.Frag} {H : Hp} : ∀ {ds : List PyData} {vs : List V}, DpAll K H vs ds → vs.length = ds.length
  | [], _, h => by cases h; rfl
  | d :: ds, _, h => by
    cases h with
    | cons h1 h2 => exact congrArg (· + 1) (DpAll.len h2)
theorem DpAll.get {K : PySem.W.Frag} {H : Hp} : ∀ {ds : List PyData} {vs : List V} {i : Nat} {d : PyData}, DpAll K H vs ds → ds[i]? = some d → ∃ v, vs[i]? = some v ∧ Dp K H v d
  | [], _, _, _, _, e => by simp at e
  | x :: ds, _, 0, d, h, e => by
    cases h with
    | cons h1 h2 =>
      have e1 : x = d := Option.some.inj e
      subst e1
      exact ⟨_, rfl, h1⟩
  | x :: ds, _, i + 1, d, h, e => by
    cases h with
    | cons h1 h2 =>
      obtain ⟨v, hv, hd⟩ := DpAll.get (i := i) h2 (by simpa using e)
      exact ⟨v, by simpa using hv, hd⟩
theorem tyL {K : PySem.W.Frag} {H : Hp} {a : Addr} {xs : List V} (h : SqL K H a xs) : TyX K H (.ref a) (.type "list") := by
  rcases h with (h | ⟨o, h⟩) | ⟨o, its, n, h, c, _⟩
  · exact .base (.lst h)
  · exact .base (.frz h)
  · exact .kList h c
theorem tyT {K : PySem.W.Frag} {H : Hp} {a : Addr} {xs : List V} (h : SqT K H a xs) : TyX K H (.ref a) (.type "tuple") := by
  rcases h with (h | ⟨o, h⟩) | ⟨o, its, n, h, c, _⟩
  · exact .base (.tup h)
  · exact .fTuple h
  · exact .kTuple h c
mutual
/-- no list within -/
def tupOnly : PyData → Bool
  | .list _ => false
  | .dict _ => false
  | .tuple ds => tupOnlys ds
  | _ => true
def tupOnlys : List PyData → Bool
  | [] => true
  | d :: ds => tupOnly d && tupOnlys ds
end
mutual
theorem Dp.away {K : PySem.W.Frag} {H : Hp} {D : Addr} {zs : List V} {o : HO} (hD : H D = some (.lst zs)) : ∀ (d : PyData) (v : V), tupOnly d = true → Dp K H v d → Dp K (upd H D o) v d
  | .none, _, _, h => by cases h; exact .non
  | .bool b, _, _, h => by cases h; exact .bl b
  | .int i, _, _, h => by cases h; exact .int i
  | .str x, _, _, h => by cases h; exact .str x
  | .list ds, _, e, _ => by unfold tupOnly at e; cases e
  | .tuple ds, _, e, h => by
    unfold tupOnly at e
    cases h with
    | @tup a _ _ hs ha =>
      refine .tup ?_ (DpAll.away hD ds _ e ha)
      rcases hs with (hs | ⟨o', hs⟩) | hs
      · exact .inl (.inl (by rw [upd_ne (ne_of hs hD (fun z => nomatch z))]; exact hs))
      · exact .inl (.inr ⟨o', by rw [upd_ne (ne_of hs hD (fun z => nomatch z))]; exact hs⟩)
      · exact .inr hs
  | .dict _, _, _, h => by cases h
theorem DpAll.away {K : PySem.W.Frag} {H : Hp} {D : Addr} {zs : List V} {o : HO} (hD : H D = some (.lst zs)) : ∀ (ds : List PyData) (vs : List V), tupOnlys ds = true → DpAll K H vs ds → DpAll K (upd H D o) vs ds
  | [], _, _, h => by cases h; exact .nil
  | d :: ds, _, e, h => by
    unfold tupOnlys at e
    rw [Bool.and_eq_true] at e
    cases h with
    | cons h1 h2 => exact .cons (Dp.away hD d _ e.1 h1) (DpAll.away hD ds _ e.2 h2)
end
theorem DpAll.snoc {K : PySem.W.Frag} {H : Hp} : ∀ {ds : List PyData} {xs : List V} {v : V} {d : PyData}, DpAll K H xs ds → Dp K H v d → DpAll K H (xs ++ [v]) (ds ++ [d])
  | [], _, _, _, h, h2 => by cases h; exact .cons h2 .nil
  | _ :: ds, _, _, _, h, h2 => by
    cases h with
    | cons a b => exact .cons a (DpAll.snoc b h2)
theorem at_0 {α : Type} {xs : List α} {i : Nat} {v : α} (h : xs[i]? = some v) : atI xs (0 + (i : Int)) = some v := by
  rw [Int.zero_add]
  exact atI_nat h
mutual
/-- what is made of tuples stands when another list is changed -/
theorem Dp.fd {K : PySem.W.Frag} {H H' : Hp} {D : Addr} (hD : ∃ zs, H D = some (.lst zs)) (e : Fd D H H') : ∀ (d : PyData) (v : V), tupOnly d = true → Dp K H v d → Dp K H' v d
  | .none, _, _, h => by cases h; exact .non
  | .bool b, _, _, h => by cases h; exact .bl b
  | .int i, _, _, h => by cases h; exact .int i
  | .str x, _, _, h => by cases h; exact .str x
  | .list ds, _, e, _ => by unfold tupOnly at e; cases e
  | .tuple ds, _, e', h => by
    unfold tupOnly at e'
    obtain ⟨zs, hz⟩ := hD
    cases h with
    | @tup a _ _ hs ha =>
      refine .tup ?_ (DpAll.fd ⟨zs, hz⟩ e ds _ e' ha)
      rcases hs with (hs | ⟨o', hs⟩) | hs
      · exact .inl (.inl (e _ _ (ne_of hs hz (fun z => nomatch z)) hs))
      · exact .inl (.inr ⟨o', e _ _ (ne_of hs hz (fun z => nomatch z)) hs⟩)
      · exact .inr hs
  | .dict _, _, _, h => by cases h
theorem DpAll.fd {K : PySem.W.Frag} {H H' : Hp} {D : Addr} (hD : ∃ zs, H D = some (.lst zs)) (e : Fd D H H') : ∀ (ds : List PyData) (vs : List V), tupOnlys ds = true → DpAll K H vs ds → DpAll K H' vs ds
  | [], _, _, h => by cases h; exact .nil
  | d :: ds, _, e', h => by
    unfold tupOnlys at e'
    rw [Bool.and_eq_true] at e'
    cases h with
    | cons h1 h2 => exact .cons (Dp.fd hD e d _ e'.1 h1) (DpAll.fd hD e ds _ e'.2 h2)
end

/-! ### x.replace('a', 'b') of two written texts: behind something that gave a token out -/
section
variable {X : Cx}
def EPG (X : Cx) (pins : List (Addr × Obj)) (σ : L2.St) (Q : VK) (u : Value) (s' : Shared) : Prop := 1 ≤ s'.toks ∧ EP X pins σ Q u s'
def PEG (X : Cx) (e : Expr) (t : TE) : Prop :=
  ∀ (pins : List (Addr × Obj)) (s : Shared) (σ : L2.St) (H : Hp) (Q : VK), Inv X pins σ H s → t σ H Q → wpAny (model X.prog X.w) X.A (eval e X.env) (EPG X pins σ Q) X.xe s
theorem peg_str {c : Str} {j : Nat} {pos : Pos} : PEG X (.Constant (.str c) j pos) (tC (.str c)) := fun pins s σ H Q I h =>
  Calls.Constant_str ⟨by show 1 ≤ s.toks + 1; omega, .str c, H, I.tok (s.toks + 1), ⟨_, rfl⟩, h⟩
theorem peg_add {a b : Expr} {ta tb : TE} {pos : Pos} (ha : PE X a ta) (hb : PE X b tb) : PEG X (.BinOp a .Add b pos) (tOp (rI0 fun i j => .int (i + j)) ta tb) := by
  intro pins s σ H Q I h
  refine wpAny_BinOp (thn (ha.run pins s σ H _ I h) fun v s1 ⟨x, H1, I1, r1, q1⟩ => thn (hb.run pins s1 σ H1 _ I1 q1) fun u s2 ⟨y, H2, I2, r2, q2⟩ => ?_)
  obtain ⟨i, j, rfl, rfl, q⟩ := q2
  obtain ⟨t1, rfl⟩ := r1
  obtain ⟨t2, rfl⟩ := r2
  exact PyProof.Rows.add_int ⟨by show 1 ≤ s2.toks + 1; omega, .int (i + j), H2, I2.tok (s2.toks + 1), ⟨_, rfl⟩, q⟩
theorem peg_slice {r : V → Option Int → Option Int → Hp → VK → Prop} {e lo hi : Expr} {te tl th : TE} {p2 pos : Pos} (hr : SlR X r) (he : PE X e te) (hl : PEG X lo tl) (hu : PE X hi th) :
    PEG X (.Subscript e (.Slice (some lo) (some hi) none p2) pos) (tSl r te (tPart tl) (tPart th)) := by
  intro pins s σ H Q I h
  refine Subscript_ (thn (he.run pins s σ H _ I h) fun v s1 ⟨x, H1, I1, r1, q1⟩ => ?_)
  refine wpAny_Slice ?_
  rw [evalPart_some]
  refine thn (hl pins s1 σ H1 _ I1 q1) fun vl s2 ⟨g2, yl, H2, I2, r2, q2⟩ => ?_
  obtain ⟨l, rfl, q2⟩ := q2
  obtain ⟨tl', rfl⟩ := r2
  rw [evalPart_some]
  refine wpAny_mono (PySem.wpAny_toks_of g2 (hu.run pins s2 σ H2 _ I2 q2)) (fun vu s3 z => ?_) fun _ _ z => z.2
  obtain ⟨g3, yu, H3, I3, r3, q3⟩ := z
  obtain ⟨u, rfl, q3⟩ := q3
  obtain ⟨tu', rfl⟩ := r3
  rw [evalPart_none]
  refine wpAny_pure ?_
  have I4 : Inv X pins σ H3 { s3 with heap := s3.heap.push { cls := .type "slice", data := .fields #[.int l tl', .int u tu', .none] } } := I3.kept (t' := s3.toks) fun b ob q => Heap.get?_push_of_some _ q
  obtain ⟨T, id, hT, ht, hg⟩ := hr pins { s3 with heap := s3.heap.push { cls := .type "slice", data := .fields #[.int l tl', .int u tu', .none] } } σ H3 x v (.int l tl') (.int u tu') (some l) (some u) s3.heap.objs.size Q I4 r1 (Heap.IsSliceOf.new ..) (.int l tl') (.int u tu') q3
  show wpAny (model X.prog X.w) X.A (subscriptTail e (.Slice (some lo) (some hi) none p2) v (.ref s3.heap.objs.size)) (EPG X pins σ Q) X.xe { s3 with heap := s3.heap.push { cls := .type "slice", data := .fields #[.int l tl', .int u tu', .none] } }
  refine tail_any (ops := [.ref s3.heap.objs.size, v]) ht hT ?_ (by with_unfolding_all rfl)
  exact wpAny_mono (PySem.wpAny_toks_of (n := 1) (show 1 ≤ s3.toks from g3) hg) (fun _ _ z => z) fun _ _ z => z.2
def tRpl (y z : Str) (to : TE) : TE := fun σ H Q => to σ H fun v H1 => ∃ x : Str, v = .str x ∧ x.length + (x.length + 1) * z.length ≤ 16777216 ∧ Q (.str (Txt.replace x y z)) H1
theorem pet_rpl {o : Expr} {to : TE} {y z : Str} {j0 j1 : Nat} {c0 c1 apos cpos : Pos} (ho : PE X o to) (hyz : (y == z) = false)
    (hbase : attributeBase o "replace" X.env (eval o X.env) = eval o X.env := by rfl)
    (hfew : ((backTo cpos (starEach [.Constant (.str y) j0 c0, .Constant (.str z) j1 c1] X.env)).all (fun x => !x.1) && (backToKw cpos (keywordEach [] X.env)).all (fun x => x.1.isSome)
      && decide ([Expr.Constant (.str y) j0 c0, .Constant (.str z) j1 c1].length + ([] : List Keyword).length + (if ([] : List Keyword).isEmpty then 0 else 1) < 30)) = true := by rfl)
    (hline : (apos.endLine == cpos.line) = true := by rfl) :
    PET X (.Call (.Attribute o "replace" apos) [.Constant (.str y) j0 c0, .Constant (.str z) j1 c1] [] cpos) (tRpl y z to) := by
  intro pins s σ H Q g I h
  refine wpAny_Call_method_late hbase hfew hline rfl (wpAny_mono (PySem.wpAny_toks_of g (ho.run pins s σ H _ I h)) (fun v s1 w => ?_) fun _ _ w => w.2)
  obtain ⟨g1, xv, H1, I1, r1, x, rfl, hb, q⟩ := w
  obtain ⟨tx, rfl⟩ := r1
  refine ⟨"str", "str.replace", F.plainAttrs_str, F.slot_str_replace, F.type_str_replace, typeIs_str _ _ _, (fun _ e => nomatch e), ?_⟩
  refine Calls.callWith_builtin rfl (Calls.evalArgs_plain ?_)
  show wpAny _ _ (spliced ((false, eval (.Constant (.str y) j0 c0) X.env) :: backTo cpos (starEach [.Constant (.str z) j1 c1] X.env))) _ _ s1
  refine Calls.spliced_cons (Calls.Constant_str ?_)
  show wpAny _ _ (spliced ((false, eval (.Constant (.str z) j1 c1) X.env) :: backTo cpos (starEach [] X.env))) _ _ _
  refine Calls.spliced_cons (Calls.Constant_str (Calls.spliced_nil ?_))
  have g1' : 1 ≤ s1.toks := g1
  exact PySem.SC.replace (show s1.toks ≠ 0 by omega) (show s1.toks + 1 ≠ 0 by omega) (show s1.toks ≠ s1.toks + 1 by omega) hyz hb fun t' k => ⟨.str (Txt.replace x y z), H1, I1.tok k, ⟨t', rfl⟩, q⟩
theorem pe_rplG {o : Expr} {to : TE} {y z : Str} {j0 j1 : Nat} {c0 c1 apos cpos : Pos} (ho : PEG X o to) (hyz : (y == z) = false)
    (hbase : attributeBase o "replace" X.env (eval o X.env) = eval o X.env := by rfl)
    (hfew : ((backTo cpos (starEach [.Constant (.str y) j0 c0, .Constant (.str z) j1 c1] X.env)).all (fun x => !x.1) && (backToKw cpos (keywordEach [] X.env)).all (fun x => x.1.isSome)
      && decide ([Expr.Constant (.str y) j0 c0, .Constant (.str z) j1 c1].length + ([] : List Keyword).length + (if ([] : List Keyword).isEmpty then 0 else 1) < 30)) = true := by rfl)
    (hline : (apos.endLine == cpos.line) = true := by rfl) :
    PE X (.Call (.Attribute o "replace" apos) [.Constant (.str y) j0 c0, .Constant (.str z) j1 c1] [] cpos) (tRpl y z to) := by
  refine ⟨fun pins s σ H Q I h => ?_⟩
  refine wpAny_Call_method_late hbase hfew hline rfl (wpAny_mono (ho pins s σ H _ I h) (fun v s1 w => ?_) fun _ _ w => w)
  obtain ⟨g1, xv, H1, I1, r1, x, rfl, hb, q⟩ := w
  obtain ⟨tx, rfl⟩ := r1
  refine ⟨"str", "str.replace", F.plainAttrs_str, F.slot_str_replace, F.type_str_replace, typeIs_str _ _ _, (fun _ e => nomatch e), ?_⟩
  refine Calls.callWith_builtin rfl (Calls.evalArgs_plain ?_)
  show wpAny _ _ (spliced ((false, eval (.Constant (.str y) j0 c0) X.env) :: backTo cpos (starEach [.Constant (.str z) j1 c1] X.env))) _ _ s1
  refine Calls.spliced_cons (Calls.Constant_str ?_)
  show wpAny _ _ (spliced ((false, eval (.Constant (.str z) j1 c1) X.env) :: backTo cpos (starEach [] X.env))) _ _ _
  refine Calls.spliced_cons (Calls.Constant_str (Calls.spliced_nil ?_))
  have g1' : 1 ≤ s1.toks := g1
  exact PySem.SC.replace (show s1.toks ≠ 0 by omega) (show s1.toks + 1 ≠ 0 by omega) (show s1.toks ≠ s1.toks + 1 by omega) hyz hb fun t' k => ⟨.str (Txt.replace x y z), H1, I1.tok k, ⟨t', rfl⟩, q⟩
theorem pe_opG {a b : Expr} {op : Operator} {r : R2} {ta tb : TE} {pos : Pos} (ho : OpR X (binaryOp op) r) (ha : PEG X a ta) (hb : PET X b tb) : PE X (.BinOp a op b pos) (tOp r ta tb) := by
  refine ⟨fun pins s σ H Q I h => ?_⟩
  refine wpAny_BinOp (thn (ha pins s σ H _ I h) fun v s1 ⟨g1, x, H1, I1, r1, q1⟩ => thn (hb pins s1 σ H1 _ g1 I1 q1) fun u s2 ⟨y, H2, I2, r2, q2⟩ => ?_)
  exact ho pins s2 σ H2 x y v u Q I2 r1 r2 q2
/-- a test that gives a token out -/
def PTG (X : Cx) (e : Expr) (t : TT) : Prop :=
  ∀ (pins : List (Addr × Obj)) (s : Shared) (σ : L2.St) (H : Hp) (Q : Bool → Hp → Prop), Inv X pins σ H s → t σ H Q → wpAny (model X.prog X.w) X.A (isTrue e X.env (eval e X.env)) (fun b s' => 1 ≤ s'.toks ∧ TP X pins σ Q b s') X.xe s
theorem ptg_cmp {a b : Expr} {op : CmpOp} {r : R2} {ta tb : TE} {pos : Pos} (ho : OpR X (compareOp op) r) (ha : PE X a ta) (hb : PEG X b tb) (hm : behindInMarks op b = false) : PTG X (.Compare a [op] [b] pos) (tTest (tOp r ta tb)) := by
  intro pins s σ H Q I h
  refine wpAny_isTrue_Compare1 (thn (ha.run pins s σ H _ I h) fun v s1 ⟨x, H1, I1, r1, q1⟩ => thn (hb pins s1 σ H1 _ I1 q1) fun u s2 ⟨g2, y, H2, I2, r2, q2⟩ => ?_) hm
  refine wpAny_mono (PySem.wpAny_toks_of g2 (ho pins s2 σ H2 x y v u _ I2 r1 r2 q2)) (fun c s3 z => ?_) fun _ _ z => z.2
  obtain ⟨g3, z, H3, I3, r3, k, e, q3⟩ := z
  subst e
  cases r3
  exact wpAny_truthy_bool ⟨g3, H3, I3, q3⟩
def PSG (X : Cx) (st : Stmt) (t : TS) : Prop :=
  ∀ (pins : List (Addr × Obj)) (s : Shared) (σ : L2.St) (H : Hp) (D : Ends), Inv X pins σ H s → t D σ H → wpAny (model X.prog X.w) X.A (exec st X.env) (fun f s' => 1 ≤ s'.toks ∧ SP X pins D f s') X.xe s
theorem psg_if {c : Expr} {a b : List Stmt} {tc : TT} {t u : TS} {pos : Pos} (hc : PTG X c tc) (ha : PSs X a t) (hb : PSs X b u) : PSG X (.If c a b pos) (tIfS tc t u) := by
  intro pins s σ H D I h
  refine wpAny_If (thn (hc pins s σ H _ I h) fun d s1 ⟨g1, H1, I1, q1⟩ => ?_)
  cases d with
  | true => exact wpAny_mono (PySem.wpAny_toks_of g1 (ha.run pins s1 σ H1 D I1 q1)) (fun _ _ z => z) fun _ _ z => z.2
  | false => exact wpAny_mono (PySem.wpAny_toks_of g1 (hb.run pins s1 σ H1 D I1 q1)) (fun _ _ z => z) fun _ _ z => z.2
theorem pss_consG {st : Stmt} {rest : List Stmt} {t u : TS} (h1 : PSG X st t) (h2 : PSsT X rest u) : PSs X (st :: rest) (tSeq t u) := by
  refine ⟨fun pins s σ H D I h => ?_⟩
  refine wpAny_execs_cons (thn (h1 pins s σ H { D with nx := u D } I h) fun f s1 z => ?_)
  obtain ⟨g1, q⟩ := z
  cases f with
  | next =>
    obtain ⟨σ', H', I', q⟩ := q
    exact h2 pins s1 σ' H' D g1 I' q
  | ret v => exact q
  | brk => exact q
  | cont => exact q
theorem pst_if {c : Expr} {a b : List Stmt} {tc : TT} {t u : TS} {pos : Pos} (hc : PT X c tc) (ha : PSsT X a t) (hb : PSsT X b u) : PST X (.If c a b pos) (tIfS tc t u) := by
  intro pins s σ H D g I h
  refine wpAny_If (wpAny_mono (PySem.wpAny_toks_of g (hc.run pins s σ H _ I h)) (fun d s1 z => ?_) fun _ _ z => z.2)
  obtain ⟨g1, H1, I1, q1⟩ := z
  cases d with
  | true => exact ha pins s1 σ H1 D g1 I1 q1
  | false => exact hb pins s1 σ H1 D g1 I1 q1
theorem pst_set {i : Nat} {x : Str} {e : Expr} {te : TE} {pos' pos : Pos} (hN : X.N.Nodup) (hi : X.N[i]? = some x) (hx : Loc X.env.scope x) (he : PET X e te) (hs : swapsWith e (some (.Name x pos')) pos.line X.env = pure false := by rfl) (hf : X.fn x = true ∨ X.env.scope.names.lookup x = some .local := by first | exact .inl rfl | exact .inr rfl | assumption) :
    PST X (.Assign [.Name x pos'] e pos) (tAsg te (gName i)) := by
  intro pins s σ H D g I h
  refine wpAny_Assign_Name (thn (he pins s σ H _ g I h) fun v s1 ⟨y, H1, I1, r1, q1⟩ => ?_) hs
  exact store_ok I1 hN hi hx r1 (fun s2 I2 => ⟨_, H1, I2, q1⟩) hf
end

/-! ### the tokens of a list of codes -/
def LET : List Nat := (Str.ofString "abcdefghijklmnopqrstuvwxyz_ABCDEFGHIJKLMNOPQRSTUVWXYZ").cps.toList
def DIG : List Nat := (Str.ofString "0123456789").cps.toList
def SGN : List (List Nat) := [[60, 61], [62, 61], [33, 61], [40], [41], [59], [44], [46], [60], [62], [61], [43], [45], [42]]
def toNl (s : List Nat) : List Nat := s.dropWhile (fun c => c != 10)
theorem toNl_len (s : List Nat) : (toNl s).length ≤ s.length := by
  unfold toNl
  exact (List.dropWhile_sublist _).length_le
def isBl (c : Nat) : Bool := c == 32 || c == 9 || c == 10
def skipF : Nat → List Nat → List Nat
  | 0, s => s
  | _ + 1, [] => []
  | n + 1, c :: r => if isBl c = true then skipF n r else if c = 35 then skipF n (toNl r) else c :: r
theorem skipF_more : ∀ (n m : Nat) (s : List Nat), s.length ≤ n → s.length ≤ m → skipF n s = skipF m s
  | 0, 0, _, _, _ => rfl
  | 0, m + 1, [], _, _ => rfl
  | 0, _ + 1, _ :: _, h, _ => absurd h (Nat.not_succ_le_zero _)
  | n + 1, 0, [], _, _ => rfl
  | _ + 1, 0, _ :: _, _, h => absurd h (Nat.not_succ_le_zero _)
  | n + 1, m + 1, [], _, _ => rfl
  | n + 1, m + 1, c :: r, h1, h2 => by
    have l1 : r.length ≤ n := Nat.le_of_succ_le_succ h1
    have l2 : r.length ≤ m := Nat.le_of_succ_le_succ h2
    have l3 := toNl_len r
    unfold skipF
    rw [skipF_more n m r l1 l2, skipF_more n m (toNl r) (by omega) (by omega)]
def skip (s : List Nat) : List Nat := skipF s.length s
theorem skip_nil : skip [] = [] := rfl
theorem skip_cons (c : Nat) (r : List Nat) : skip (c :: r) = if isBl c = true then skip r else if c = 35 then skip (toNl r) else c :: r := by
  unfold skip
  rw [List.length_cons]
  have e : skipF (r.length + 1) (c :: r) = if isBl c = true then skipF r.length r else if c = 35 then skipF r.length (toNl r) else c :: r := by
    rw [skipF]
  rw [e, skipF_more r.length (toNl r).length (toNl r) (toNl_len r) (Nat.le_refl _)]
theorem skip_len : ∀ (n : Nat) (s : List Nat), s.length ≤ n → (skip s).length ≤ s.length
  | _, [], _ => Nat.le_refl _
  | 0, _ :: _, h => absurd h (Nat.not_succ_le_zero _)
  | n + 1, c :: r, h => by
    have l1 : r.length ≤ n := Nat.le_of_succ_le_succ h
    have l3 := toNl_len r
    rw [skip_cons]
    split
    · have := skip_len n r l1
      rw [List.length_cons]
      omega
    · split
      · have := skip_len n (toNl r) (by omega)
        rw [List.length_cons]
        omega
      · exact Nat.le_refl _
/-- where a text ends, behind its first quote -/
def te : List Nat → Option (List Nat)
  | [] => none
  | c :: r => if c = 10 then none else if c = 39 then (match r with | 39 :: r' => te r' | _ => some r) else te r
def und (l : List Nat) : List Nat := TL.joinL [39] (TL.spl [39, 39] 0 [] l)
def dbl : List Nat → List Nat
  | [] => []
  | c :: r => if c = 39 then 39 :: 39 :: dbl r else c :: dbl r
inductive Kv where
  | word (l : List Nat)
  | num (n : Nat)
  | text (l : List Nat)
  | sign (l : List Nat)
def Kv.kd : Kv → Str
  | .word _ => "word"
  | .num _ => "number"
  | .text _ => "text"
  | .sign _ => "sign"
def Kv.val : Kv → PyData
  | .word l => .str ⟨l.toArray⟩
  | .num n => .int n
  | .text l => .str ⟨l.toArray⟩
  | .sign l => .str ⟨l.toArray⟩
def runOf (m s : List Nat) : List Nat := s.takeWhile (fun c => decide (c ∈ m))
def tokC (c : Nat) (r : List Nat) : Option (Kv × List Nat) :=
    if c ∈ LET then (if (runOf (LET ++ DIG) (c :: r)).length ≤ 20 then some (.word (runOf (LET ++ DIG) (c :: r)), (c :: r).drop (runOf (LET ++ DIG) (c :: r)).length) else none)
    else if c ∈ DIG then (if (runOf DIG (c :: r)).length ≤ 15 then some (.num (NumText.digitsVal (runOf DIG (c :: r))), (c :: r).drop (runOf DIG (c :: r)).length) else none)
    else if c = 39 then (match te r with
      | none => none
      | some rest => if (und (r.take (r.length - rest.length - 1))).length ≤ 100 then some (.text (und (r.take (r.length - rest.length - 1))), rest) else none)
    else match SGN.find? (fun g => g.isPrefixOf (c :: r)) with
      | none => none
      | some g => some (.sign g, (c :: r).drop g.length)
def tok : List Nat → Option (Kv × List Nat)
  | [] => none
  | c :: r => tokC c r
/-- what the loop over a source of n signs gives, where s is left -/
inductive Lx (n : Nat) : List Nat → List (Kv × Nat) → Prop
  | nil : Lx n [] []
  | cons {s : List Nat} {kv : Kv} {rest : List Nat} {ts : List (Kv × Nat)} : tok s = some (kv, rest) → Lx n (skip rest) ts → Lx n s ((kv, n - s.length) :: ts)
def tokD (t : Kv × Nat) : PyData := .tuple [.str t.1.kd, t.1.val, .int t.2]
theorem te_len : ∀ (n : Nat) (s r : List Nat), s.length ≤ n → te s = some r → r.length < s.length
  | _, [], _, _, h => by cases h
  | 0, _ :: _, _, h, _ => absurd h (Nat.not_succ_le_zero _)
  | n + 1, c :: s, r, hn, h => by
    have l1 : s.length ≤ n := Nat.le_of_succ_le_succ hn
    unfold te at h
    rw [List.length_cons]
    by_cases h10 : c = 10
    · rw [if_pos h10] at h
      cases h
    · rw [if_neg h10] at h
      by_cases h39 : c = 39
      · rw [if_pos h39] at h
        split at h
        · rename_i r'
          have := te_len n r' r (by rw [List.length_cons] at l1; omega) h
          rw [List.length_cons]
          omega
        · cases h
          omega
      · rw [if_neg h39] at h
        have := te_len n s r l1 h
        omega
theorem sgn_pos : ∀ g ∈ SGN, 0 < g.length := by decide
theorem run_head {m : List Nat} {c : Nat} {r : List Nat} (h : c ∈ m) : 0 < (runOf m (c :: r)).length := by
  unfold runOf
  rw [List.takeWhile_cons_of_pos (by simpa using h)]
  exact Nat.succ_pos _
theorem tok_len {s : List Nat} {kv : Kv} {rest : List Nat} (h : tok s = some (kv, rest)) : rest.length < s.length := by
  cases s with
  | nil => cases h
  | cons c r =>
    have h : tokC c r = some (kv, rest) := h
    unfold tokC at h
    by_cases h1 : c ∈ LET
    · rw [if_pos h1] at h
      split at h
      · cases h
        have := run_head (m := LET ++ DIG) (r := r) (List.mem_append_left DIG h1)
        rw [List.length_drop]
        have l : 0 < (c :: r).length := Nat.succ_pos _
        omega
      · cases h
    · rw [if_neg h1] at h
      by_cases h2 : c ∈ DIG
      · rw [if_pos h2] at h
        split at h
        · cases h
          have := run_head (m := DIG) (r := r) h2
          rw [List.length_drop]
          have l : 0 < (c :: r).length := Nat.succ_pos _
          omega
        · cases h
      · rw [if_neg h2] at h
        by_cases h3 : c = 39
        · rw [if_pos h3] at h
          split at h
          · cases h
          · rename_i rest' e
            split at h
            · cases h
              have := te_len _ r _ (Nat.le_refl _) e
              rw [List.length_cons]
              omega
            · cases h
        · rw [if_neg h3] at h
          split at h
          · cases h
          · rename_i g e
            cases h
            have := sgn_pos g (List.mem_of_find?_eq_some e)
            rw [List.length_drop]
            have l : 0 < (c :: r).length := Nat.succ_pos _
            omega
/-! quotes -/
theorem und_dbl : ∀ (v acc : List Nat), TL.joinL [39] (TL.spl [39, 39] 0 acc (dbl v)) = acc ++ v
  | [], acc => by
    show TL.joinL [39] [acc] = _
    rw [List.append_nil]
    rfl
  | c :: v, acc => by
    unfold dbl
    by_cases h : c = 39
    · rw [if_pos h, TL.spl_hit (by rfl)]
      show TL.joinL [39] (acc :: TL.spl [39, 39] 1 [] (39 :: dbl v)) = _
      have e : TL.spl [39, 39] 1 [] (39 :: dbl v) = TL.spl [39, 39] 0 [] (dbl v) := rfl
      rw [e]
      have ih := und_dbl v []
      have ne : TL.spl [39, 39] 0 [] (dbl v) ≠ [] := spl_ne _ _ _ _
      cases es : TL.spl [39, 39] 0 [] (dbl v) with
      | nil => exact absurd es ne
      | cons q r =>
        rw [es] at ih
        show acc ++ ([39] ++ TL.joinL [39] (q :: r)) = _
        rw [ih, h]
        rfl
    · rw [if_neg h, TL.spl_miss (by
        unfold TL.pre
        cases dbl v with
        | nil => simp
        | cons d r => simp [h])]
      rw [und_dbl v (acc ++ [c]), List.append_assoc]
      rfl
where
  spl_ne : ∀ (S : List Nat) (k : Nat) (acc l : List Nat), TL.spl S k acc l ≠ []
    | S, k, acc, [] => by rw [TL.spl_nil]; simp
    | S, 0, acc, c :: r => by
      unfold TL.spl
      split
      · simp
      · exact spl_ne S 0 _ r
    | S, k + 1, acc, c :: r => spl_ne S k acc r
theorem und_dbl' (v : List Nat) : und (dbl v) = v := und_dbl v []
theorem dbl_rpl : ∀ (v acc : List Nat), TL.joinL [39, 39] (TL.spl [39] 0 acc v) = acc ++ dbl v
  | [], acc => by
    show TL.joinL [39, 39] [acc] = _
    rw [show dbl [] = [] from rfl, List.append_nil]
    rfl
  | c :: v, acc => by
    unfold dbl
    by_cases h : c = 39
    · rw [if_pos h, TL.spl_hit (by rw [h]; rfl)]
      have e : TL.spl [39] ([39].length - 1) [] v = TL.spl [39] 0 [] v := rfl
      rw [e]
      have ih := dbl_rpl v []
      cases es : TL.spl [39] 0 [] v with
      | nil => exact absurd es (und_dbl.spl_ne _ _ _ _)
      | cons q r =>
        rw [es] at ih
        show acc ++ ([39, 39] ++ TL.joinL [39, 39] (q :: r)) = _
        rw [ih]
        rfl
    · rw [if_neg h, TL.spl_miss (by
        unfold TL.pre
        simp [h])]
      rw [dbl_rpl v (acc ++ [c]), List.append_assoc]
      rfl
theorem rpl_S (x y z : List Nat) (hy : y ≠ []) (hk : y.all (· < 256) = true) : Txt.replace ⟨x.toArray⟩ ⟨y.toArray⟩ ⟨z.toArray⟩ = ⟨(TL.joinL z (TL.spl y 0 [] x)).toArray⟩ := by
  have hs : Txt.split (SX.S x) (SX.S y) = (TL.spl y 0 [] x).map SX.S := SX.split_S hy hk
  have hkd := TL.kind_ok (x := SX.S x) (SX.all256 hk)
  have hyl : (SX.S y).length = y.length := SX.S_len y
  have hyp : 0 < y.length := List.length_pos_iff.mpr hy
  have hj := SX.join_S z (TL.spl y 0 [] x)
  rw [← hs] at hj
  refine Eq.trans ?_ hj
  show Txt.replace (SX.S x) (SX.S y) (SX.S z) = Txt.join (SX.S z) (Txt.split (SX.S x) (SX.S y))
  unfold Txt.replace Txt.split
  have one : ∀ w : Str, Txt.join w [SX.S x] = SX.S x := fun w => by
    have := SX.join_S (TL.tl w) [x]
    rw [SX.S_tl] at this
    exact this
  have hz0 : ((SX.S y).length == 0 && (SX.S z).length == 0) = false := by
    rw [hyl]
    cases y with
    | nil => exact absurd rfl hy
    | cons a b => rfl
  rw [hz0, Bool.or_false]
  cases ho : (Builtin.Str.occurrences (SX.S x) (SX.S y) 0 (SX.S x).length ((SX.S x).length + 1)).isEmpty with
  | true =>
    rw [if_pos rfl, if_pos rfl, ite_self, one]
  | false =>
    rw [if_neg Bool.false_ne_true, if_neg Bool.false_ne_true]
    have hl : decide ((SX.S x).length < (SX.S y).length) = false := by
      refine decide_eq_false fun hlt => ?_
      cases hoc : Builtin.Str.occurrences (SX.S x) (SX.S y) 0 (SX.S x).length ((SX.S x).length + 1) with
      | nil =>
        rw [hoc] at ho
        cases ho
      | cons i r =>
        have := (PySem.StrLaws.occ_spec (SX.S x) (SX.S y) 0 (SX.S x).length ((SX.S x).length + 1) i (by rw [hoc]; exact List.mem_cons_self ..)).1
        omega
    rw [hl, decide_eq_false hkd]
    rfl

/-! ### texts by their places -/
theorem in_text (m : List Nat) (c : Nat) : (!(Builtin.Str.occurrences ⟨m.toArray⟩ ⟨#[c]⟩ 0 (⟨m.toArray⟩ : Str).length 1).isEmpty) = decide (c ∈ m) := StrLaws.found_one ⟨m.toArray⟩ c
theorem run_step {m l : List Nat} {e : Nat} (h : e < l.length) (hm : l[e] ∈ m) : (runOf m (l.drop e)).length = 1 + (runOf m (l.drop (e + 1))).length := by
  unfold runOf
  rw [List.drop_eq_getElem_cons h, List.takeWhile_cons_of_pos (by simpa using hm), List.length_cons]
  omega
theorem run_stop {m l : List Nat} {e : Nat} (h : e < l.length) (hm : l[e] ∉ m) : runOf m (l.drop e) = [] := by
  unfold runOf
  rw [List.drop_eq_getElem_cons h, List.takeWhile_cons_of_neg (by simpa using hm)]
theorem run_le (m s : List Nat) : (runOf m s).length ≤ s.length := by
  unfold runOf
  exact (List.takeWhile_sublist _).length_le
theorem toNl_suf (s : List Nat) : toNl s <:+ s := List.dropWhile_suffix _
theorem skip_suf : ∀ (n : Nat) (s : List Nat), s.length ≤ n → skip s <:+ s
  | _, [], _ => List.suffix_refl _
  | 0, _ :: _, h => absurd h (Nat.not_succ_le_zero _)
  | n + 1, c :: r, h => by
    have l1 : r.length ≤ n := Nat.le_of_succ_le_succ h
    have l3 := toNl_len r
    rw [skip_cons]
    split
    · exact (skip_suf n r l1).trans (List.suffix_cons c r)
    · split
      · exact ((skip_suf n (toNl r) (by omega)).trans (toNl_suf r)).trans (List.suffix_cons c r)
      · exact List.suffix_refl _
theorem suf_at {l t : List Nat} {i : Nat} (hi : i ≤ l.length) (h : t <:+ l.drop i) : t = l.drop (l.length - t.length) ∧ t.length ≤ l.length - i := by
  have h2 : t <:+ l := h.trans (List.drop_suffix i l)
  refine ⟨(List.suffix_iff_eq_drop.mp h2), ?_⟩
  have := h.length_le
  rw [List.length_drop] at this
  exact this
theorem occ_foldL (s sub : Str) (hi limit : Nat) (L : List Nat) (b : Array Nat × Nat) : (forIn L b (StrLaws.occBody s sub hi limit)).run = L.foldl (fun st i => if ((st.fst.size < limit ∧ st.snd ≤ i) ∧ i + sub.length ≤ hi) ∧ Builtin.Str.subAt s sub i = true then (st.fst.push i, i + sub.length) else st) b := by
  have e : StrLaws.occBody s sub hi limit = fun i st => (pure (ForInStep.yield ((fun i st => if ((st.fst.size < limit ∧ st.snd ≤ i) ∧ i + sub.length ≤ hi) ∧ Builtin.Str.subAt s sub i = true then (st.fst.push i, i + sub.length) else st) i st)) : Id _) := by
    funext i st
    unfold StrLaws.occBody
    split <;> rename_i h
    · simp only [if_pos h]
    · simp only [if_neg h]
  rw [e, List.forIn_pure_yield_eq_foldl]
  rfl
theorem sub_at (l : List Nat) (c n : Nat) : Builtin.Str.subAt ⟨l.toArray⟩ ⟨#[c]⟩ n = decide (l[n]? = some c) := by
  unfold Builtin.Str.subAt
  have e : (⟨#[c]⟩ : Str).length = 1 := rfl
  rw [e]
  show (l.toArray.extract n (n + 1) == #[c]) = _
  rw [List.extract_toArray, List.extract_eq_take_drop, Nat.add_sub_cancel_left]
  by_cases h : n < l.length
  · rw [List.drop_eq_getElem_cons h, List.getElem?_eq_getElem h]
    rw [Bool.eq_iff_iff]
    simp [List.take]
  · rw [List.drop_eq_nil_of_le (by omega), List.getElem?_eq_none (by omega)]
    simp
theorem find_stay (l : List Nat) (hi : Nat) : ∀ (L : List Nat) (k f : Nat), L.foldl (fun (st : Array Nat × Nat) i => if ((st.fst.size < 1 ∧ st.snd ≤ i) ∧ i + 1 ≤ hi) ∧ Builtin.Str.subAt ⟨l.toArray⟩ ⟨#[10]⟩ i = true then (st.fst.push i, i + 1) else st) (#[k], f) = (#[k], f)
  | [], _, _ => rfl
  | i :: L, k, f => by
    rw [List.foldl_cons, if_neg (by simp)]
    exact find_stay l hi L k f
theorem find_go (l : List Nat) : ∀ (n lo f : Nat), lo + n = l.length + 1 → f ≤ lo →
    ((List.range' lo n).foldl (fun (st : Array Nat × Nat) i => if ((st.fst.size < 1 ∧ st.snd ≤ i) ∧ i + 1 ≤ l.length) ∧ Builtin.Str.subAt ⟨l.toArray⟩ ⟨#[10]⟩ i = true then (st.fst.push i, i + 1) else st) (#[], f)).1 = if toNl (l.drop lo) = [] then #[] else #[l.length - (toNl (l.drop lo)).length]
  | 0, lo, f, h, _ => by
    rw [List.drop_eq_nil_of_le (by omega)]
    rfl
  | n + 1, lo, f, h, hf => by
    rw [List.range'_succ, List.foldl_cons]
    by_cases hlo : lo < l.length
    · have es := sub_at l 10 lo
      rw [List.getElem?_eq_getElem hlo] at es
      by_cases hx : l[lo] = 10
      · rw [hx] at es
        rw [if_pos ⟨⟨⟨by simp, hf⟩, by omega⟩, by rw [es]; simp⟩, show (#[] : Array Nat).push lo = #[lo] from rfl, find_stay]
        have e1 : toNl (l.drop lo) = l.drop lo := by
          unfold toNl
          rw [List.drop_eq_getElem_cons hlo, List.dropWhile_cons_of_neg (by simp [hx])]
        have e2 : l.drop lo ≠ [] := fun z => by
          have := congrArg List.length z
          rw [List.length_drop, List.length_nil] at this
          omega
        rw [e1, if_neg e2, List.length_drop, Nat.sub_sub_self (by omega)]
      · rw [if_neg (by rw [es]; simp [hx]), find_go l n (lo + 1) f (by omega) (by omega)]
        have e1 : toNl (l.drop lo) = toNl (l.drop (lo + 1)) := by
          unfold toNl
          rw [List.drop_eq_getElem_cons hlo, List.dropWhile_cons_of_pos (by simp [hx])]
        rw [e1]
    · rw [if_neg (fun z => by omega), find_go l n (lo + 1) f (by omega) (by omega), List.drop_eq_nil_of_le (by omega), List.drop_eq_nil_of_le (by omega)]
theorem from_nat (n i : Nat) : fromIndex n (i : Int) = i := by
  unfold fromIndex
  rw [if_neg (by omega)]
  omega
theorem find_nl (l : List Nat) (i : Nat) (hi : i ≤ l.length) : Txt.find3 ⟨l.toArray⟩ ⟨#[10]⟩ (i : Int) = if toNl (l.drop i) = [] then -1 else ((l.length - (toNl (l.drop i)).length : Nat) : Int) := by
  unfold Txt.find3
  rw [S_len', from_nat, StrLaws.occ_eq, occ_foldL]
  have e1 : (⟨#[10]⟩ : Str).length = 1 := rfl
  rw [e1, find_go l (l.length + 1 - i) i i (by omega) (Nat.le_refl _)]
  by_cases e : toNl (l.drop i) = []
  · rw [if_pos e, if_pos e]
  · rw [if_neg e, if_neg e]
theorem starts_at (l g : List Nat) (i : Nat) (hi : i ≤ l.length) : Txt.startswith3 ⟨l.toArray⟩ ⟨g.toArray⟩ (i : Int) = g.isPrefixOf (l.drop i) := by
  unfold Txt.startswith3
  rw [S_len', S_len', from_nat]
  rw [Bool.eq_iff_iff, Bool.and_eq_true, decide_eq_true_eq, List.isPrefixOf_iff_prefix]
  refine Iff.trans ?_ (List.prefix_iff_eq_take (l₁ := g) (l₂ := l.drop i)).symm
  unfold Builtin.Str.subAt
  rw [S_len']
  show (i + g.length ≤ l.length ∧ (l.toArray.extract i (i + g.length) == g.toArray) = true) ↔ _
  rw [List.extract_toArray, List.extract_eq_take_drop, Nat.add_sub_cancel_left, beq_iff_eq]
  constructor
  · intro h
    have := congrArg Array.toList h.2
    simpa using this.symm
  · intro h
    refine ⟨?_, congrArg List.toArray h.symm⟩
    have := congrArg List.length h
    rw [List.length_take, List.length_drop] at this
    omega
theorem isBl_in (c : Nat) : inV (.str ⟨#[c]⟩) [.str " ", .str "\t", .str "\n"] = isBl c := by
  unfold inV isBl
  rw [List.any_cons, List.any_cons, List.any_cons, List.any_nil, Bool.or_false]
  show ((SX.S [32] == SX.S [c]) || ((SX.S [9] == SX.S [c]) || (SX.S [10] == SX.S [c]))) = _
  rw [SX.S_beq_eq, SX.S_beq_eq, SX.S_beq_eq]
  by_cases h1 : c = 32
  · subst h1; rfl
  · by_cases h2 : c = 9
    · subst h2; rfl
    · by_cases h3 : c = 10
      · subst h3; rfl
      · have e1 : ¬ [32] = [c] := fun z => h1 (List.cons.inj z).1.symm
        have e2 : ¬ [9] = [c] := fun z => h2 (List.cons.inj z).1.symm
        have e3 : ¬ [10] = [c] := fun z => h3 (List.cons.inj z).1.symm
        rw [decide_eq_false e1, decide_eq_false e2, decide_eq_false e3]
        simp [h1, h2, h3]
/-! ### the tokens, def by def -/
structure Gl (K : PySem.W.Frag) (mg : Str → Option Value) (bl sg : Addr) : Prop where
  BLANKS : ∃ u, mg "BLANKS" = some u ∧ RelV (.ref bl) u
  SIGNS : ∃ u, mg "SIGNS" = some u ∧ RelV (.ref sg) u
  DIGITS : ∃ u, mg "DIGITS" = some u ∧ RelV (.str "0123456789") u
  LETTERS : ∃ u, mg "LETTERS" = some u ∧ RelV (.str "abcdefghijklmnopqrstuvwxyz_ABCDEFGHIJKLMNOPQRSTUVWXYZ") u
  MOST_WORD : ∃ u, mg "MOST_WORD" = some u ∧ RelV (.int 20) u
  MOST_NUMBER : ∃ u, mg "MOST_NUMBER" = some u ∧ RelV (.int 15) u
  MOST_TEXT : ∃ u, mg "MOST_TEXT" = some u ∧ RelV (.int 100) u
  blT : ∀ H : Hp, SqT K H bl [.str " ", .str "\t", .str "\n"]
  sgT : ∀ H : Hp, SqT K H sg (SGN.map fun g => V.str ⟨g.toArray⟩)
def sp_run : Sp := fun vs H Q _ => ∃ (l m : List Nat) (i : Nat), vs = [.str ⟨l.toArray⟩, .int (i : Nat), .str ⟨m.toArray⟩] ∧ i ≤ l.length ∧ l.length ≤ 100000 ∧ Q (.int ((i + (runOf m (l.drop i)).length : Nat) : Int)) H
def sp_cmt : Sp := fun vs H Q _ => ∃ (l : List Nat) (i : Nat), vs = [.str ⟨l.toArray⟩, .int (i : Nat)] ∧ i ≤ l.length ∧ l.length ≤ 100000 ∧ Q (.int ((l.length - (toNl (l.drop i)).length : Nat) : Int)) H
def sp_gap : Sp := fun vs H Q _ => ∃ (l : List Nat) (i : Nat), vs = [.str ⟨l.toArray⟩, .int (i : Nat)] ∧ i ≤ l.length ∧ l.length ≤ 100000 ∧ Q (.int ((l.length - (skip (l.drop i)).length : Nat) : Int)) H
def sp_btx : Sp := fun vs H Q _ => ∃ (l : List Nat) (i : Nat) (r : List Nat), vs = [.str ⟨l.toArray⟩, .int (i : Nat)] ∧ i < l.length ∧ l.length ≤ 100000 ∧ te (l.drop (i + 1)) = some r ∧ Q (.int ((l.length - r.length : Nat) : Int)) H
def sp_rtok (K : PySem.W.Frag) (ok : Kv → Prop) : Sp := fun vs H Q _ => ∃ (l : List Nat) (i : Nat) (kv : Kv) (rest : List Nat), vs = [.str ⟨l.toArray⟩, .int (i : Nat)] ∧ i < l.length ∧ l.length ≤ 100000 ∧ tok (l.drop i) = some (kv, rest) ∧ ok kv ∧
  ∀ H' p, Same H H' → Dp K H' (.ref p) (.tuple [.str kv.kd, kv.val, .int ((l.length - rest.length : Nat) : Int)]) → Q (.ref p) H'
section
variable {P : Program} {w : World} {K : PySem.W.Frag} {mg : Str → Option Value} {base : Heap}
theorem ok_run {f : Addr} {fd : FuncData} (F : Fun K "behind_run" "behind_run" s_behind_run f fd) (M : Mg mg) : FnOk P w K mg base CX0 1 f fd ["source", "start", "members"] sp_run := by
  refine F.ok sc_behind_run (fun vs H Q E h => ?_) (fun cdv A outer s H vs Q E hr h => ?_)
  · obtain ⟨l, m, i, rfl, _⟩ := h
    rfl
  · obtain ⟨l, m, i, rfl, hi, hl, q⟩ := h
    have zl : (⟨l.toArray⟩ : Str).length ≤ sizeLine := by rw [S_len']; exact Nat.le_trans hl (by decide)
    refine ⟨_, (pss_cons (ps_set (i := 3) sc_behind_run.nd rfl (.inl rfl) (pv 1))
      (pss_cons (ps_while PassesOwn.never (PW.pt (pw_and (pt_cmpR op_lt (pv 3) (pe_callB call_len_str (by rfl) M.len PySem.boot_len (pa_cons (pv 0) pa_nil)) (nomark _)) (pw_and1 (pt_cmpR op_in_str (pe_ix ix_str (pv 0) (pv 3) (fun _ _ => rfl)) (pv 2) (by rfl))))) (pss_one (ps_aug (i := 3) sc_behind_run.nd rfl (.inl rfl) pe_int ip_add)))
      (pss_one (ps_ret (pv 3))))), ?_⟩
    refine ⟨_, rfl, fun k σ Hi => Hi = H ∧ ∃ e : Nat, σ = [some (.str ⟨l.toArray⟩), some (.int (i : Nat)), some (.str ⟨m.toArray⟩), some (.int (e : Nat))] ∧ e ≤ l.length ∧ k = l.length - e ∧ i + (runOf m (l.drop i)).length = e + (runOf m (l.drop e)).length, ⟨_, rfl, i, rfl, hi, rfl, rfl⟩, fun k σ Hi hW => ?_⟩
    obtain ⟨rfl, e, rfl, he, rfl, hk⟩ := hW
    refine ⟨_, rfl, _, rfl, _, rfl, zl, _, _, rfl, rfl, _, rfl, ite2 (fun e1 => ?_) (fun e1 => ?_)⟩
    · have e2 : (e : Int) < (((⟨l.toArray⟩ : Str).length : Nat) : Int) := of_decide_eq_true e1
      rw [S_len'] at e2
      have e3 : e < l.length := by omega
      have hat : atI (⟨l.toArray⟩ : Str).cps.toList ((e : Nat) : Int) = some l[e] := atI_nat (show l[e]? = _ from List.getElem?_eq_getElem e3)
      refine ⟨_, rfl, _, rfl, _, _, _, rfl, rfl, zl, hat, _, rfl, _, _, rfl, rfl, _, rfl, ?_⟩
      rw [in_text]
      refine ite2 (fun e4 => ?_) (fun e4 => ?_)
      · have e5 : l[e] ∈ m := of_decide_eq_true e4
        refine ⟨fun σ H' => H' = Hi ∧ σ = [some (.str ⟨l.toArray⟩), some (.int (i : Nat)), some (.str ⟨m.toArray⟩), some (.int ((e : Nat) + 1))], fun σ H' hN => ?_, ?_⟩
        · obtain ⟨rfl, rfl⟩ := hN
          exact ⟨l.length - (e + 1), by omega, rfl, e + 1, rfl, by omega, rfl, by rw [hk, run_step e3 e5]; omega⟩
        · exact ⟨_, rfl, _, _, rfl, rfl, rfl, rfl⟩
      · have e5 : l[e] ∉ m := fun z => e4 (decide_eq_true z)
        refine ⟨_, rfl, ?_⟩
        rw [hk, run_stop e3 e5] at q
        exact q
    · have e3 : e = l.length := by
        have : ¬ ((e : Int) < (((⟨l.toArray⟩ : Str).length : Nat) : Int)) := fun z => e1 (decide_eq_true z)
        rw [S_len'] at this
        omega
      subst e3
      refine iteF ?_
      refine ⟨_, rfl, ?_⟩
      rw [hk, List.drop_length] at q
      exact q
theorem ok_cmt {f : Addr} {fd : FuncData} (F : Fun K "behind_comment" "behind_comment" s_behind_comment f fd) (M : Mg mg) : FnOk P w K mg base CX0 1 f fd ["source", "start"] sp_cmt := by
  refine F.ok sc_behind_comment (fun vs H Q E h => ?_) (fun cdv A outer s H vs Q E hr h => ?_)
  · obtain ⟨l, i, rfl, _⟩ := h
    rfl
  · obtain ⟨l, i, rfl, hi, hl, q⟩ := h
    have zl : (⟨l.toArray⟩ : Str).length ≤ sizeLine := by rw [S_len']; exact Nat.le_trans hl (by decide)
    refine ⟨_, (pss_cons (ps_set (i := 2) sc_behind_comment.nd rfl (.inl rfl) (pe_bmK K PySem.F.plainAttrs_str PySem.F.slot_str_find PySem.F.type_str_find mt_find3 (pv 0) (pa_cons pe_str (pa_cons (pv 1) pa_nil))))
      (pss_cons (ps_if (pt_cmpR op_lt (pv 2) pe_int (nomark _)) (pss_one (ps_ret (pe_callB call_len_str (by rfl) M.len PySem.boot_len (pa_cons (pv 0) pa_nil)))) pss_nil)
      (pss_one (ps_ret (pv 2))))), ?_⟩
    refine ⟨_, rfl, rfl, _, rfl, ⟨l.toArray⟩, ⟨#[10]⟩, _, rfl, rfl, ?_⟩
    rw [find_nl l i hi]
    by_cases e : toNl (l.drop i) = []
    · rw [if_pos e]
      refine ⟨_, rfl, _, _, rfl, rfl, _, rfl, iteT ?_⟩
      refine ⟨_, rfl, _, rfl, zl, ?_⟩
      rw [e] at q
      rw [S_len']
      exact q
    · rw [if_neg e]
      refine ⟨_, rfl, _, _, rfl, rfl, _, rfl, ?_⟩
      rw [decide_eq_false (by omega)]
      refine iteF ?_
      exact ⟨_, rfl, q⟩
theorem ok_gap {f : Addr} {fd : FuncData} {bl sg : Addr} (F : Fun K "behind_gap" "behind_gap" s_behind_gap f fd) (M : Mg mg) (G : Gl K mg bl sg) (c_behind_comment : Cl P w K mg base 1 "behind_comment" sp_cmt) : FnOk P w K mg base CX0 2 f fd ["source", "start"] sp_gap := by
  refine F.ok sc_behind_gap (fun vs H Q E h => ?_) (fun cdv A outer s H vs Q E hr h => ?_)
  · obtain ⟨l, i, rfl, _⟩ := h
    rfl
  · obtain ⟨l, i, rfl, hi, hl, q⟩ := h
    have zl : (⟨l.toArray⟩ : Str).length ≤ sizeLine := by rw [S_len']; exact Nat.le_trans hl (by decide)
    refine ⟨_, (pss_cons (ps_set (i := 2) sc_behind_gap.nd rfl (.inl rfl) (pv 1))
      (pss_cons (ps_while PassesOwn.never (pt_cmpR op_lt (pv 2) (pe_callB call_len_str (by rfl) M.len PySem.boot_len (pa_cons (pv 0) pa_nil)) (nomark _)) (pss_one (ps_if (pt_cmpR (inK K) (pe_ix ix_str (pv 0) (pv 2) (fun _ _ => rfl)) (C8.pe_gc (by rfl) G.BLANKS) (by rfl)) (pss_one (ps_aug (i := 2) sc_behind_gap.nd rfl (.inl rfl) pe_int ip_add)) (pss_one (ps_if (pt_cmpR op_eq (pe_ix ix_str (pv 0) (pv 2) (fun _ _ => rfl)) pe_str (nomark _)) (pss_one (ps_set (i := 2) sc_behind_gap.nd rfl (.inl rfl) (pe_u c_behind_comment hr (by first | decide | omega) (by rfl) (pa_cons (pv 0) (pa_cons (pv 2) pa_nil))))) (pss_one (ps_ret (pv 2))))))))
      (pss_one (ps_ret (pv 2))))), ?_⟩
    refine ⟨_, rfl, fun k σ Hi => Hi = H ∧ ∃ e : Nat, σ = [some (.str ⟨l.toArray⟩), some (.int (i : Nat)), some (.int (e : Nat))] ∧ e ≤ l.length ∧ k = l.length - e ∧ skip (l.drop i) = skip (l.drop e), ⟨_, rfl, i, rfl, hi, rfl, rfl⟩, fun k σ Hi hW => ?_⟩
    obtain ⟨rfl, e, rfl, he, rfl, hk⟩ := hW
    refine ⟨_, rfl, _, rfl, _, rfl, zl, _, _, rfl, rfl, _, rfl, ite2 (fun e1 => ?_) (fun e1 => ?_)⟩
    · have e2 : (e : Int) < (((⟨l.toArray⟩ : Str).length : Nat) : Int) := of_decide_eq_true e1
      rw [S_len'] at e2
      have e3 : e < l.length := by omega
      have hat : atI (⟨l.toArray⟩ : Str).cps.toList ((e : Nat) : Int) = some l[e] := atI_nat (show l[e]? = _ from List.getElem?_eq_getElem e3)
      have hd : l.drop e = l[e] :: l.drop (e + 1) := List.drop_eq_getElem_cons e3
      have hsk := skip_cons l[e] (l.drop (e + 1))
      refine ⟨fun σ H' => H' = Hi ∧ ∃ e' : Nat, σ = [some (.str ⟨l.toArray⟩), some (.int (i : Nat)), some (.int (e' : Nat))] ∧ e < e' ∧ e' ≤ l.length ∧ skip (l.drop e) = skip (l.drop e'), fun σ H' hN => ?_, ?_⟩
      · obtain ⟨rfl, e', rfl, h1, h2, h3⟩ := hN
        exact ⟨l.length - e', by omega, rfl, e', rfl, h2, rfl, by rw [hk, h3]⟩
      · refine ⟨_, rfl, _, rfl, _, _, _, rfl, rfl, zl, hat, bl, _, rfl, .inr (G.blT _), rfl, rfl, _, rfl, ?_⟩
        show if (inV (.str ⟨#[l[e]]⟩) [.str " ", .str "\t", .str "\n"]) = true then _ else _
        rw [isBl_in]
        refine ite2 (fun e4 => ?_) (fun e4 => ?_)
        · rw [if_pos e4, ← hd] at hsk
          exact ⟨_, rfl, _, _, rfl, rfl, rfl, e + 1, rfl, by omega, by omega, hsk⟩
        · rw [if_neg e4, ← hd] at hsk
          refine ⟨_, rfl, _, rfl, _, _, _, rfl, rfl, zl, hat, rfl, _, rfl, ?_⟩
          have es : decide (V.str ⟨#[l[e]]⟩ = V.str (Str.ofString "#")) = decide (l[e] = 35) := str1 l[e] 35
          rw [es]
          refine ite2 (fun e5 => ?_) (fun e5 => ?_)
          · have e6 : l[e] = 35 := of_decide_eq_true e5
            rw [if_pos e6] at hsk
            have et : toNl (l.drop e) = toNl (l.drop (e + 1)) := by
              unfold toNl
              rw [hd, List.dropWhile_cons_of_pos (by simp [e6])]
            refine ⟨_, rfl, _, rfl, l, e, rfl, he, hl, ?_⟩
            rw [et]
            obtain ⟨s1, s2⟩ := suf_at (l := l) (i := e + 1) (by omega) (toNl_suf (l.drop (e + 1)))
            refine ⟨rfl, l.length - (toNl (l.drop (e + 1))).length, rfl, by omega, by omega, ?_⟩
            rw [hsk, ← s1]
          · have e6 : ¬ l[e] = 35 := fun z => e5 (decide_eq_true z)
            rw [if_neg e6] at hsk
            refine ⟨_, rfl, ?_⟩
            rw [hk, hsk, List.length_drop, Nat.sub_sub_self he] at q
            exact q
    · have e3 : e = l.length := by
        have : ¬ ((e : Int) < (((⟨l.toArray⟩ : Str).length : Nat) : Int)) := fun z => e1 (decide_eq_true z)
        rw [S_len'] at this
        omega
      subst e3
      refine ⟨_, rfl, ?_⟩
      rw [hk, List.drop_length] at q
      exact q
theorem te_step {l : List Nat} {e : Nat} {r : List Nat} (h : te (l.drop e) = some r) : ∃ he : e < l.length, l[e] ≠ 10 ∧ (l[e] ≠ 39 → te (l.drop (e + 1)) = some r) ∧ (l[e] = 39 → [39, 39].isPrefixOf (l.drop e) = true → te (l.drop (e + 2)) = some r) ∧ (l[e] = 39 → [39, 39].isPrefixOf (l.drop e) = false → r = l.drop (e + 1)) := by
  have he : e < l.length := by
    refine Nat.lt_of_not_le fun z => ?_
    rw [List.drop_eq_nil_of_le z] at h
    cases h
  have hd : l.drop e = l[e] :: l.drop (e + 1) := List.drop_eq_getElem_cons he
  refine ⟨he, ?_, fun hn => ?_, fun h39 hp => ?_, fun h39 hp => ?_⟩
  · intro z
    rw [hd] at h
    unfold te at h
    rw [if_pos z] at h
    cases h
  · rw [hd] at h
    unfold te at h
    split at h
    · cases h
    · first
        | exact h
        | (rw [if_neg hn] at h; exact h)
  · rw [hd] at h hp
    unfold te at h
    rw [if_neg (by rw [h39]; decide), if_pos h39] at h
    have e2 : l.drop (e + 2) = (l.drop (e + 1)).drop 1 := by rw [List.drop_drop]
    rw [e2]
    cases hr : l.drop (e + 1) with
    | nil =>
      rw [hr, h39] at hp
      cases hp
    | cons c r' =>
      rw [hr] at h hp
      rw [h39] at hp
      have hc : c = 39 := by
        simp [List.isPrefixOf] at hp
        exact hp.symm
      subst hc
      exact h
  · rw [hd] at h hp
    unfold te at h
    rw [if_neg (by rw [h39]; decide), if_pos h39] at h
    cases hr : l.drop (e + 1) with
    | nil =>
      rw [hr] at h
      exact (Option.some.inj h).symm
    | cons c r' =>
      rw [hr] at h hp
      rw [h39] at hp
      have hc : c ≠ 39 := fun z => by
        rw [z] at hp
        simp [List.isPrefixOf] at hp
      split at h
      · rename_i heq
        exact absurd (List.cons.inj heq).1 hc
      · exact (Option.some.inj h).symm
theorem ok_btx {f : Addr} {fd : FuncData} (F : Fun K "behind_text" "behind_text" s_behind_text f fd) (M : Mg mg) : FnOk P w K mg base CX0 1 f fd ["source", "start"] sp_btx := by
  refine F.ok sc_behind_text (fun vs H Q E h => ?_) (fun cdv A outer s H vs Q E hr h => ?_)
  · obtain ⟨l, i, r, rfl, _⟩ := h
    rfl
  · obtain ⟨l, i, r, rfl, hi, hl, ht, q⟩ := h
    have zl : (⟨l.toArray⟩ : Str).length ≤ sizeLine := by rw [S_len']; exact Nat.le_trans hl (by decide)
    refine ⟨_, (pss_cons (ps_set (i := 2) sc_behind_text.nd rfl (.inl rfl) (pe_op op_add (pv 1) pe_int))
      (pss_cons (ps_while PassesOwn.never (PW.pt (pw_and (pt_cmpR op_lt (pv 2) (pe_callB call_len_str (by rfl) M.len PySem.boot_len (pa_cons (pv 0) pa_nil)) (nomark _)) (pw_and1 (pt_cmpR op_ne (pe_ix ix_str (pv 0) (pv 2) (fun _ _ => rfl)) pe_str (nomark _))))) (pss_one (ps_if (pt_cmpR op_ne (pe_ix ix_str (pv 0) (pv 2) (fun _ _ => rfl)) pe_str (nomark _)) (pss_one (ps_aug (i := 2) sc_behind_text.nd rfl (.inl rfl) pe_int ip_add)) (pss_one (ps_if (pt_val (pe_bmK K PySem.F.plainAttrs_str PySem.F.slot_str_startswith PySem.F.type_str_startswith mt_startswith3 (pv 0) (pa_cons pe_str (pa_cons (pv 2) pa_nil)))) (pss_one (ps_aug (i := 2) sc_behind_text.nd rfl (.inl rfl) pe_int ip_add)) (pss_one (ps_ret (pe_op op_add (pv 2) pe_int))))))))
      (pss_one (ps_ret pe_non)))), ?_⟩
    refine ⟨_, rfl, _, _, rfl, rfl, fun k σ Hi => Hi = H ∧ ∃ e : Nat, σ = [some (.str ⟨l.toArray⟩), some (.int (i : Nat)), some (.int (e : Nat))] ∧ k = l.length - e ∧ te (l.drop e) = some r, ⟨_, rfl, i + 1, rfl, rfl, ht⟩, fun k σ Hi hW => ?_⟩
    obtain ⟨rfl, e, rfl, rfl, hk⟩ := hW
    obtain ⟨he, h10, hne, h2, h1⟩ := te_step hk
    have hat : atI (⟨l.toArray⟩ : Str).cps.toList ((e : Nat) : Int) = some l[e] := atI_nat (show l[e]? = _ from List.getElem?_eq_getElem he)
    have en : decide (V.str ⟨#[l[e]]⟩ = V.str (Str.ofString "\n")) = decide (l[e] = 10) := str1 l[e] 10
    have eq : decide (V.str ⟨#[l[e]]⟩ = V.str (Str.ofString "'")) = decide (l[e] = 39) := str1 l[e] 39
    refine ⟨_, rfl, _, rfl, _, rfl, zl, _, _, rfl, rfl, _, rfl, ?_⟩
    rw [S_len', decide_eq_true (show (e : Int) < ((l.length : Nat) : Int) by omega)]
    refine iteT ?_
    refine ⟨_, rfl, _, rfl, _, _, _, rfl, rfl, zl, hat, rfl, _, rfl, ?_⟩
    rw [en, decide_eq_false h10]
    refine iteT ?_
    refine ⟨fun σ H' => H' = Hi ∧ ∃ e' : Nat, σ = [some (.str ⟨l.toArray⟩), some (.int (i : Nat)), some (.int (e' : Nat))] ∧ e < e' ∧ te (l.drop e') = some r, fun σ H' hN => ?_, ?_⟩
    · obtain ⟨rfl, e', rfl, g1, g2⟩ := hN
      exact ⟨l.length - e', by omega, rfl, e', rfl, rfl, g2⟩
    · refine ⟨_, rfl, _, rfl, _, _, _, rfl, rfl, zl, hat, rfl, _, rfl, ?_⟩
      rw [eq]
      by_cases h39 : l[e] = 39
      · rw [decide_eq_true h39]
        refine iteF ?_
        refine ⟨_, rfl, rfl, _, rfl, ⟨l.toArray⟩, ⟨[39, 39].toArray⟩, _, rfl, rfl, _, rfl, ?_⟩
        rw [starts_at l [39, 39] e (by omega)]
        cases hp : [39, 39].isPrefixOf (l.drop e) with
        | true =>
          refine iteT ?_
          exact ⟨_, rfl, _, _, rfl, rfl, rfl, e + 2, rfl, by omega, h2 h39 hp⟩
        | false =>
          refine iteF ?_
          refine ⟨_, rfl, _, _, rfl, rfl, ?_⟩
          rw [h1 h39 hp, List.length_drop, Nat.sub_sub_self (by omega)] at q
          exact q
      · rw [decide_eq_false h39]
        refine iteT ?_
        exact ⟨_, rfl, _, _, rfl, rfl, rfl, e + 1, rfl, by omega, hne h39⟩
end
theorem cut_mid (l : List Nat) {i e : Nat} (h1 : i ≤ e) (h2 : e ≤ l.length) : cutS ⟨l.toArray⟩ (some (i : Int)) (some (e : Int)) = ⟨((l.drop i).take (e - i)).toArray⟩ := by
  unfold cutS
  rw [HT.sIx_nat, HT.sIx_nat, S_len', Nat.min_eq_left h2, Nat.min_eq_left (Nat.le_trans h1 h2)]
theorem run_take (m s : List Nat) : s.take (runOf m s).length = runOf m s := (List.prefix_iff_eq_take.mp (List.takeWhile_prefix _)).symm
theorem LET_S : Str.ofString "abcdefghijklmnopqrstuvwxyz_ABCDEFGHIJKLMNOPQRSTUVWXYZ" = ⟨LET.toArray⟩ := (SX.S_tl _).symm
theorem DIG_S : Str.ofString "0123456789" = ⟨DIG.toArray⟩ := (SX.S_tl _).symm
theorem run_all (m : List Nat) : ∀ (s : List Nat) (c : Nat), c ∈ runOf m s → c ∈ m
  | [], _, h => by cases h
  | d :: s, c, h => by
    unfold runOf at h
    by_cases hd : d ∈ m
    · rw [List.takeWhile_cons_of_pos (by simpa using hd)] at h
      rcases List.mem_cons.mp h with rfl | h
      · exact hd
      · exact run_all m s c h
    · rw [List.takeWhile_cons_of_neg (by simpa using hd)] at h
      cases h
theorem DIG_dig : ∀ c ∈ DIG, (decide (48 ≤ c) && decide (c ≤ 57)) = true := by decide +kernel
def sp_rw (K : PySem.W.Frag) : Sp := fun vs H Q _ => ∃ (l : List Nat) (i : Nat), vs = [.str ⟨l.toArray⟩, .int (i : Nat)] ∧ i ≤ l.length ∧ l.length ≤ 100000 ∧ (runOf (LET ++ DIG) (l.drop i)).length ≤ 20 ∧
  ∀ H' p, Same H H' → Dp K H' (.ref p) (.tuple [.str "word", .str ⟨(runOf (LET ++ DIG) (l.drop i)).toArray⟩, .int ((i + (runOf (LET ++ DIG) (l.drop i)).length : Nat) : Int)]) → Q (.ref p) H'
def sp_rn (K : PySem.W.Frag) : Sp := fun vs H Q _ => ∃ (l : List Nat) (i : Nat), vs = [.str ⟨l.toArray⟩, .int (i : Nat)] ∧ i ≤ l.length ∧ l.length ≤ 100000 ∧ 0 < (runOf DIG (l.drop i)).length ∧ (runOf DIG (l.drop i)).length ≤ 15 ∧
  ∀ H' p, Same H H' → Dp K H' (.ref p) (.tuple [.str "number", .int ((NumText.digitsVal (runOf DIG (l.drop i)) : Nat) : Int), .int ((i + (runOf DIG (l.drop i)).length : Nat) : Int)]) → Q (.ref p) H'
def sp_rt (K : PySem.W.Frag) : Sp := fun vs H Q _ => ∃ (l : List Nat) (i : Nat) (rest : List Nat), vs = [.str ⟨l.toArray⟩, .int (i : Nat)] ∧ i < l.length ∧ l.length ≤ 100000 ∧ te (l.drop (i + 1)) = some rest ∧ (und ((l.drop (i + 1)).take ((l.drop (i + 1)).length - rest.length - 1))).length ≤ 100 ∧
  ∀ H' p, Same H H' → Dp K H' (.ref p) (.tuple [.str "text", .str ⟨(und ((l.drop (i + 1)).take ((l.drop (i + 1)).length - rest.length - 1))).toArray⟩, .int ((l.length - rest.length : Nat) : Int)]) → Q (.ref p) H'
def sp_rs (K : PySem.W.Frag) : Sp := fun vs H Q _ => ∃ (l : List Nat) (i : Nat) (g : List Nat), vs = [.str ⟨l.toArray⟩, .int (i : Nat)] ∧ i ≤ l.length ∧ l.length ≤ 100000 ∧ SGN.find? (fun g => g.isPrefixOf (l.drop i)) = some g ∧
  ∀ H' p, Same H H' → Dp K H' (.ref p) (.tuple [.str "sign", .str ⟨g.toArray⟩, .int ((i + g.length : Nat) : Int)]) → Q (.ref p) H'
theorem und_le : ∀ (l acc : List Nat), (TL.joinL [39] (TL.spl [39, 39] 0 acc l)).length ≤ acc.length + l.length := by
  have H : ∀ (n : Nat) (l acc : List Nat), l.length ≤ n → (TL.joinL [39] (TL.spl [39, 39] 0 acc l)).length ≤ acc.length + l.length := by
    intro n
    induction n with
    | zero =>
      intro l acc h
      cases l with
      | nil => exact Nat.le_refl _
      | cons c r => exact absurd h (Nat.not_succ_le_zero _)
    | succ n ih =>
      intro l acc h
      cases l with
      | nil => exact Nat.le_refl _
      | cons c r =>
        have lr : r.length ≤ n := Nat.le_of_succ_le_succ h
        cases hp : TL.pre [39, 39] (c :: r) with
        | true =>
          rw [TL.spl_hit hp]
          have e : TL.spl [39, 39] ([39, 39].length - 1) [] r = TL.spl [39, 39] 0 [] (r.drop 1) := TL.spl_pass _ _ _ _
          rw [e]
          have i2 := ih (r.drop 1) [] (by rw [List.length_drop]; omega)
          have r1 : 1 ≤ r.length := by
            cases r with
            | nil => simp [TL.pre] at hp
            | cons d r' => exact Nat.succ_le_succ (Nat.zero_le _)
          cases es : TL.spl [39, 39] 0 [] (r.drop 1) with
          | nil => exact absurd es (und_dbl.spl_ne _ _ _ _)
          | cons q r' =>
            rw [es] at i2
            show (acc ++ ([39] ++ TL.joinL [39] (q :: r'))).length ≤ _
            rw [List.length_append, List.length_append, List.length_cons]
            rw [List.length_drop, List.length_nil] at i2
            simp only [List.length_cons, List.length_nil]
            omega
        | false =>
          rw [TL.spl_miss hp]
          have := ih r (acc ++ [c]) lr
          rw [List.length_append, List.length_cons, List.length_nil] at this
          rw [List.length_cons]
          omega
  exact fun l acc => H l.length l acc (Nat.le_refl _)
section
variable {P : Program} {w : World} {K : PySem.W.Frag} {mg : Str → Option Value} {base : Heap}
theorem ok_rw {f : Addr} {fd : FuncData} {bl sg : Addr} (F : Fun K "read_word" "read_word" s_read_word f fd) (M : Mg mg) (G : Gl K mg bl sg) (c_behind_run : Cl P w K mg base 1 "behind_run" sp_run) : FnOk P w K mg base CX0 2 f fd ["source", "start"] (sp_rw K) := by
  refine F.ok sc_read_word (fun vs H Q E h => ?_) (fun cdv A outer s H vs Q E hr h => ?_)
  · obtain ⟨l, i, rfl, _⟩ := h
    rfl
  · obtain ⟨l, i, rfl, hi, hl, h20, q⟩ := h
    have zl : (⟨l.toArray⟩ : Str).length ≤ sizeLine := by rw [S_len']; exact Nat.le_trans hl (by decide)
    have hrl := run_le (LET ++ DIG) (l.drop i)
    rw [List.length_drop] at hrl
    refine ⟨_, (pss_cons (ps_set (i := 2) sc_read_word.nd rfl (.inl rfl) (pe_u c_behind_run hr (by first | decide | omega) (by rfl) (pa_cons (pv 0) (pa_cons (pv 1) (pa_cons (pe_op op_add_str (C8.pe_gc (by rfl) G.LETTERS) (C8.pe_gc (by rfl) G.DIGITS)) pa_nil)))))
      (pss_cons (ps_if (pt_cmpR op_gt (pe_op op_sub (pv 2) (pv 1)) (C8.pe_gc (by rfl) G.MOST_WORD) (nomark _)) (pss_one ps_never) pss_nil)
      (pss_one (ps_ret (pe_tup (pa_cons pe_str (pa_cons (pe_slice sl_str (pv 0) (po_some (pv 1)) (po_some (pv 2))) (pa_cons (pv 2) pa_nil)))))))), ?_⟩
    refine ⟨_, rfl, _, rfl, _, _, rfl, rfl, by decide +kernel, ?_⟩
    rw [LET_S, DIG_S, show (⟨LET.toArray⟩ : Str) ++ ⟨DIG.toArray⟩ = ⟨(LET ++ DIG).toArray⟩ from SX.S_cat LET DIG]
    refine ⟨l, LET ++ DIG, i, rfl, hi, hl, ?_⟩
    refine ⟨_, rfl, _, rfl, _, _, rfl, rfl, _, _, rfl, rfl, _, rfl, ?_⟩
    rw [decide_eq_false (by omega)]
    refine iteF ?_
    refine ⟨_, rfl, _, rfl, _, rfl, _, rfl, _, rfl, ⟨l.toArray⟩, rfl, zl, _, rfl, by show 3 ≤ sizeLine; decide, fun p np => ?_⟩
    rw [cut_mid l (by omega) (by omega), Nat.add_sub_cancel_left, run_take]
    exact q _ p (same_upd np) (.tup (.of upd_same) (.cons (.str _) (.cons (.str _) (.cons (.int _) .nil))))
theorem ok_rn {f : Addr} {fd : FuncData} {bl sg : Addr} (F : Fun K "read_number" "read_number" s_read_number f fd) (M : Mg mg) (G : Gl K mg bl sg) (c_behind_run : Cl P w K mg base 1 "behind_run" sp_run) : FnOk P w K mg base CX0 2 f fd ["source", "start"] (sp_rn K) := by
  refine F.ok sc_read_number (fun vs H Q E h => ?_) (fun cdv A outer s H vs Q E hr h => ?_)
  · obtain ⟨l, i, rfl, _⟩ := h
    rfl
  · obtain ⟨l, i, rfl, hi, hl, h0, h15, q⟩ := h
    have zl : (⟨l.toArray⟩ : Str).length ≤ sizeLine := by rw [S_len']; exact Nat.le_trans hl (by decide)
    have hrl := run_le DIG (l.drop i)
    rw [List.length_drop] at hrl
    refine ⟨_, (pss_cons (ps_set (i := 2) sc_read_number.nd rfl (.inl rfl) (pe_u c_behind_run hr (by first | decide | omega) (by rfl) (pa_cons (pv 0) (pa_cons (pv 1) (pa_cons (C8.pe_gc (by rfl) G.DIGITS) pa_nil)))))
      (pss_cons (ps_if (pt_cmpR op_gt (pe_op op_sub (pv 2) (pv 1)) (C8.pe_gc (by rfl) G.MOST_NUMBER) (nomark _)) (pss_one ps_never) pss_nil)
      (pss_one (ps_ret (pe_tup (pa_cons pe_str (pa_cons (pe_callTy call_int_str (by rfl) M.int (by decide +kernel) (pa_cons (pe_slice sl_str (pv 0) (po_some (pv 1)) (po_some (pv 2))) pa_nil)) (pa_cons (pv 2) pa_nil)))))))), ?_⟩
    refine ⟨_, rfl, _, rfl, l, DIG, i, by rw [DIG_S]; rfl, hi, hl, ?_⟩
    refine ⟨_, rfl, _, rfl, _, _, rfl, rfl, _, _, rfl, rfl, _, rfl, ?_⟩
    rw [decide_eq_false (by omega)]
    refine iteF ?_
    refine ⟨_, rfl, _, rfl, _, rfl, _, rfl, _, rfl, ⟨l.toArray⟩, rfl, zl, _, ((NumText.digitsVal (runOf DIG (l.drop i)) : Nat) : Int), rfl, ?_, ?_, _, rfl, by show 3 ≤ sizeLine; decide, fun p np => ?_⟩
    · rw [cut_mid l (by omega) (by omega), Nat.add_sub_cancel_left, run_take]
      exact SX.int_S (List.all_eq_true.mpr fun c hc => DIG_dig c (run_all _ _ c hc)) (fun z => by rw [z] at h0; exact absurd h0 (Nat.lt_irrefl _)) (by omega)
    · rw [cut_mid l (by omega) (by omega), Nat.add_sub_cancel_left, run_take, S_len']
      omega
    · exact q _ p (same_upd np) (.tup (.of upd_same) (.cons (.str _) (.cons (.int _) (.cons (.int _) .nil))))
theorem ok_rt {f : Addr} {fd : FuncData} {bl sg : Addr} (F : Fun K "read_text" "read_text" s_read_text f fd) (M : Mg mg) (G : Gl K mg bl sg) (c_behind_text : Cl P w K mg base 1 "behind_text" sp_btx) : FnOk P w K mg base CX0 2 f fd ["source", "start"] (sp_rt K) := by
  refine F.ok sc_read_text (fun vs H Q E h => ?_) (fun cdv A outer s H vs Q E hr h => ?_)
  · obtain ⟨l, i, rest, rfl, _⟩ := h
    rfl
  · obtain ⟨l, i, rest, rfl, hi, hl, ht, h100, q⟩ := h
    have zl : (⟨l.toArray⟩ : Str).length ≤ sizeLine := by rw [S_len']; exact Nat.le_trans hl (by decide)
    have hlen := te_len _ _ _ (Nat.le_refl _) ht
    rw [List.length_drop] at hlen
    refine ⟨_, (pss_cons (ps_set (i := 2) sc_read_text.nd rfl (.inl rfl) (pe_u c_behind_text hr (by first | decide | omega) (by rfl) (pa_cons (pv 0) (pa_cons (pv 1) pa_nil))))
      (pss_cons (ps_if (pt_cmpR op_isN (pv 2) pe_non (nomark _)) (pss_one ps_never) pss_nil)
      (pss_cons (ps_set (i := 3) sc_read_text.nd rfl (.inl rfl) (pe_rplG (peg_slice sl_str (pv 0) (peg_add (pv 1) pe_int) (pe_op op_sub (pv 2) pe_int)) (by decide)))
      (pss_cons (ps_if (pt_cmpR op_gt (pe_callB call_len_str (by rfl) M.len PySem.boot_len (pa_cons (pv 3) pa_nil)) (C8.pe_gc (by rfl) G.MOST_TEXT) (nomark _)) (pss_one ps_never) pss_nil)
      (pss_one (ps_ret (pe_tup (pa_cons pe_str (pa_cons (pv 3) (pa_cons (pv 2) pa_nil)))))))))), ?_⟩
    refine ⟨_, rfl, _, rfl, l, i, rest, rfl, hi, hl, ht, ?_⟩
    refine ⟨_, rfl, rfl, _, rfl, iteF ?_⟩
    refine ⟨_, rfl, _, rfl, _, _, rfl, rfl, _, rfl, _, rfl, _, _, rfl, rfl, _, rfl, ⟨l.toArray⟩, rfl, zl, _, rfl, ?_⟩
    have e1 : ((i : Nat) : Int) + 1 = ((i + 1 : Nat) : Int) := by omega
    have e2 : ((l.length - rest.length : Nat) : Int) - 1 = ((l.length - rest.length - 1 : Nat) : Int) := by omega
    rw [e1, e2, cut_mid l (by omega) (by omega)]
    have e3 : l.length - rest.length - 1 - (i + 1) = (l.drop (i + 1)).length - rest.length - 1 := by
      rw [List.length_drop]
      omega
    rw [e3]
    generalize hraw : (l.drop (i + 1)).take ((l.drop (i + 1)).length - rest.length - 1) = raw at h100 q
    have hrl : raw.length ≤ 100000 := by
      rw [← hraw, List.length_take, List.length_drop]
      omega
    refine ⟨by rw [S_len']; show raw.length + (raw.length + 1) * 1 ≤ 16777216; omega, ?_⟩
    rw [show Txt.replace ⟨raw.toArray⟩ (Str.ofString "''") (Str.ofString "'") = ⟨(und raw).toArray⟩ from rpl_S raw [39, 39] [39] (by decide) (by decide)]
    have hul := und_le raw []
    refine ⟨_, rfl, _, rfl, by rw [S_len']; exact Nat.le_trans h100 (by decide), _, _, rfl, rfl, _, rfl, ?_⟩
    rw [S_len', decide_eq_false (by omega)]
    refine iteF ?_
    refine ⟨_, rfl, _, rfl, by show 3 ≤ sizeLine; decide, fun p np => ?_⟩
    exact q _ p (same_upd np) (.tup (.of upd_same) (.cons (.str _) (.cons (.str _) (.cons (.int _) .nil))))
theorem ok_rs {f : Addr} {fd : FuncData} {bl sg : Addr} (F : Fun K "read_sign" "read_sign" s_read_sign f fd) (M : Mg mg) (G : Gl K mg bl sg) : FnOk P w K mg base CX0 1 f fd ["source", "start"] (sp_rs K) := by
  refine F.ok sc_read_sign (fun vs H Q E h => ?_) (fun cdv A outer s H vs Q E hr h => ?_)
  · obtain ⟨l, i, g, rfl, _⟩ := h
    rfl
  · obtain ⟨l, i, g, rfl, hi, hl, hg, q⟩ := h
    have zl : (⟨l.toArray⟩ : Str).length ≤ sizeLine := by rw [S_len']; exact Nat.le_trans hl (by decide)
    have hhead : (SGN.filter (fun g => g.isPrefixOf (l.drop i))).head? = some g := by rw [List.head?_filter, hg]
    obtain ⟨gs, hgs⟩ : ∃ gs, SGN.filter (fun g => g.isPrefixOf (l.drop i)) = g :: gs := by
      cases e : SGN.filter (fun g => g.isPrefixOf (l.drop i)) with
      | nil => rw [e] at hhead; cases hhead
      | cons a r => rw [e] at hhead; cases hhead; exact ⟨r, rfl⟩
    have hgl : g.length ≤ 2 := (show ∀ g ∈ SGN, g.length ≤ 2 by decide) g (List.mem_of_find?_eq_some hg)
    refine ⟨_, (pss_cons (ps_setLc (i := 2) (own := [("sign", 3)]) (g := gName 3) rfl sc_read_sign.nd rfl rfl (sw_true rfl rfl rfl (by decide +kernel)) (pi_tup (C8.pe_gc (by rfl) G.SIGNS)) (blkOk_by (N := N_read_sign) (sc := defScope s_read_sign) (by decide +kernel)) (fun _ _ _ _ _ => (pg_name (i := 3) sc_read_sign.nd rfl (.inl rfl))) (fun _ _ _ _ _ => (pts_one (pt_val (pe_bmK K PySem.F.plainAttrs_str PySem.F.slot_str_startswith PySem.F.type_str_startswith mt_startswith3 (pv 0) (pa_cons (pv 3) (pa_cons (pv 1) pa_nil)))))) (fun _ _ _ _ _ => (pv 3)))
      (pss_cons (ps_if (pt_not (pt_truthK K (pv 2) (by intro _; rfl))) (pss_one ps_never) pss_nil)
      (pss_one (ps_ret (pe_tup (pa_cons pe_str (pa_cons (pe_ix (ix_listK K) (pv 2) pe_int (fun _ _ => rfl)) (pa_cons (pe_op op_add (pv 1) (pe_callB call_len_str (by rfl) M.len PySem.boot_len (pa_cons (pe_ix (ix_listK K) (pv 2) pe_int (fun _ _ => rfl)) pa_nil))) pa_nil)))))))), ?_⟩
    refine ⟨sg, rfl, ⟨_, G.sgT H⟩, fun D nD => ?_⟩
    refine lc_tup (K := K) (a := sg) (xs := SGN.map fun g => V.str ⟨g.toArray⟩) (fun k Hi => Same H Hi ∧ Hi D = some (.lst (((SGN.take k).filter (fun g => g.isPrefixOf (l.drop i))).map fun g => V.str ⟨g.toArray⟩))) ⟨same_upd nD, upd_same⟩ (fun k Hi _ _ => G.sgT Hi) (fun k x Hi hx hp => ?_) (fun Hn hp => ?_)
    · obtain ⟨sk, eD⟩ := hp
      rw [List.getElem?_map] at hx
      obtain ⟨y, hy, rfl⟩ := Option.map_eq_some_iff.mp hx
      refine ⟨rfl, ?_⟩
      refine ⟨_, rfl, rfl, _, rfl, _, rfl, ⟨l.toArray⟩, ⟨y.toArray⟩, _, rfl, rfl, _, rfl, ?_⟩
      rw [starts_at l y i hi]
      have ek : (SGN.take (k + 1)).filter (fun g => g.isPrefixOf (l.drop i)) = (SGN.take k).filter (fun g => g.isPrefixOf (l.drop i)) ++ [y].filter (fun g => g.isPrefixOf (l.drop i)) := by
        rw [List.take_add_one, hy, List.filter_append]
        rfl
      have hk : k < 14 := (List.getElem?_eq_some_iff.mp hy).1
      cases hb : y.isPrefixOf (l.drop i) with
      | true =>
        refine iteT ?_
        refine ⟨_, rfl, _, eD, ?_, fun b o e => ?_, ?_⟩
        · rw [List.length_map]
          refine Nat.lt_of_le_of_lt (List.length_filter_le _ _) ?_
          rw [List.length_take]
          exact Nat.lt_of_lt_of_le (m := 20) (by omega) (by decide)
        · rw [upd_ne (ne_of_none e nD)]
          exact sk _ _ e
        · rw [upd_same, ek, List.filter_cons_of_pos (by simpa using hb), List.map_append]
          rfl
      | false =>
        refine iteF ?_
        refine ⟨sk, ?_⟩
        rw [ek, List.filter_cons_of_neg (by simp [hb]), List.filter_nil, List.append_nil]
        exact eD
    · obtain ⟨sn, eD⟩ := hp
      have ea : (SGN.take (SGN.map fun g => V.str ⟨g.toArray⟩).length).filter (fun g => g.isPrefixOf (l.drop i)) = g :: gs := by
        rw [List.take_of_length_le (by rw [List.length_map]; exact Nat.le_refl _), hgs]
      rw [ea] at eD
      have lD : SqL K Hn D (V.str ⟨g.toArray⟩ :: gs.map fun g => V.str ⟨g.toArray⟩) := .of eD
      refine ⟨_, rfl, true, .inl ⟨_, lD, rfl⟩, iteF ?_⟩
      refine ⟨_, rfl, D, _, _, _, rfl, rfl, lD, atI_nat (j := 0) rfl, ?_⟩
      refine ⟨_, rfl, _, rfl, D, _, _, _, rfl, rfl, lD, atI_nat (j := 0) rfl, ?_⟩
      refine ⟨_, rfl, by rw [S_len']; exact Nat.le_trans hgl (by decide), _, _, rfl, rfl, by show 3 ≤ sizeLine; decide, fun p np => ?_⟩
      rw [S_len']
      exact q _ p (sn.trans (same_upd np)) (.tup (.of upd_same) (.cons (.str _) (.cons (.str _) (.cons (.int _) .nil))))
theorem ok_rtok {f : Addr} {fd : FuncData} {bl sg : Addr} (F : Fun K "read_token" "read_token" s_read_token f fd) (M : Mg mg) (G : Gl K mg bl sg) (c_read_word : Cl P w K mg base 2 "read_word" (sp_rw K)) (c_read_number : Cl P w K mg base 2 "read_number" (sp_rn K)) (c_read_text : Cl P w K mg base 2 "read_text" (sp_rt K)) (c_read_sign : Cl P w K mg base 1 "read_sign" (sp_rs K)) : FnOk P w K mg base CX0 3 f fd ["source", "start"] (sp_rtok K fun _ => True) := by
  refine F.ok sc_read_token (fun vs H Q E h => ?_) (fun cdv A outer s H vs Q E hr h => ?_)
  · obtain ⟨l, i, kv, rest, rfl, _⟩ := h
    rfl
  · obtain ⟨l, i, kv, rest, rfl, hi, hl, ht, _, q⟩ := h
    have zl : (⟨l.toArray⟩ : Str).length ≤ sizeLine := by rw [S_len']; exact Nat.le_trans hl (by decide)
    have hat : atI (⟨l.toArray⟩ : Str).cps.toList ((i : Nat) : Int) = some l[i] := atI_nat (show l[i]? = _ from List.getElem?_eq_getElem hi)
    have hd : l.drop i = l[i] :: l.drop (i + 1) := List.drop_eq_getElem_cons hi
    have hdl : (l.drop i).length = l.length - i := List.length_drop
    rw [hd] at ht
    have ht : tokC l[i] (l.drop (i + 1)) = some (kv, rest) := ht
    unfold tokC at ht
    refine ⟨_, (pss_cons (ps_set (i := 2) sc_read_token.nd rfl (.inl rfl) (pe_ix ix_str (pv 0) (pv 1) (fun _ _ => rfl)))
      (pss_cons (ps_if (pt_cmpR op_in_str (pv 2) (C8.pe_gc (by rfl) G.LETTERS) (by rfl)) (pss_one (ps_ret (pe_u c_read_word hr (by first | decide | omega) (by rfl) (pa_cons (pv 0) (pa_cons (pv 1) pa_nil))))) pss_nil)
      (pss_cons (ps_if (pt_cmpR op_in_str (pv 2) (C8.pe_gc (by rfl) G.DIGITS) (by rfl)) (pss_one (ps_ret (pe_u c_read_number hr (by first | decide | omega) (by rfl) (pa_cons (pv 0) (pa_cons (pv 1) pa_nil))))) pss_nil)
      (pss_cons (ps_if (pt_cmpR op_eq (pv 2) pe_str (nomark _)) (pss_one (ps_ret (pe_u c_read_text hr (by first | decide | omega) (by rfl) (pa_cons (pv 0) (pa_cons (pv 1) pa_nil))))) pss_nil)
      (pss_one (ps_ret (pe_u c_read_sign hr (by first | decide | omega) (by rfl) (pa_cons (pv 0) (pa_cons (pv 1) pa_nil))))))))), ?_⟩
    refine ⟨_, rfl, _, rfl, _, _, _, rfl, rfl, zl, hat, ?_⟩
    refine ⟨_, rfl, _, _, rfl, rfl, _, rfl, ?_⟩
    rw [LET_S, in_text]
    by_cases h1 : l[i] ∈ LET
    · rw [if_pos h1, ← hd] at ht
      rw [decide_eq_true h1]
      refine iteT ?_
      split at ht
      · rename_i h20
        cases ht
        have hrl := run_le (LET ++ DIG) (l.drop i)
        refine ⟨_, rfl, _, rfl, l, i, rfl, Nat.le_of_lt hi, hl, h20, fun H' p s' dp => q H' p s' ?_⟩
        have e : l.length - ((l.drop i).drop (runOf (LET ++ DIG) (l.drop i)).length).length = i + (runOf (LET ++ DIG) (l.drop i)).length := by
          rw [List.length_drop]
          omega
        rw [e]
        exact dp
      · cases ht
    · rw [if_neg h1] at ht
      rw [decide_eq_false h1]
      refine iteF ?_
      refine ⟨_, rfl, _, _, rfl, rfl, _, rfl, ?_⟩
      rw [DIG_S, in_text]
      by_cases h2 : l[i] ∈ DIG
      · rw [if_pos h2, ← hd] at ht
        rw [decide_eq_true h2]
        refine iteT ?_
        split at ht
        · rename_i h15
          cases ht
          have hrl := run_le DIG (l.drop i)
          have hr0 := run_head (m := DIG) (r := l.drop (i + 1)) h2
          rw [← hd] at hr0
          refine ⟨_, rfl, _, rfl, l, i, rfl, Nat.le_of_lt hi, hl, hr0, h15, fun H' p s' dp => q H' p s' ?_⟩
          have e : l.length - ((l.drop i).drop (runOf DIG (l.drop i)).length).length = i + (runOf DIG (l.drop i)).length := by
            rw [List.length_drop]
            omega
          rw [e]
          exact dp
        · cases ht
      · rw [if_neg h2] at ht
        rw [decide_eq_false h2]
        refine iteF ?_
        refine ⟨_, rfl, rfl, _, rfl, ?_⟩
        rw [show decide (V.str ⟨#[l[i]]⟩ = V.str (Str.ofString "'")) = decide (l[i] = 39) from str1 l[i] 39]
        by_cases h3 : l[i] = 39
        · rw [if_pos h3] at ht
          rw [decide_eq_true h3]
          refine iteT ?_
          split at ht
          · cases ht
          · rename_i rest' er
            split at ht
            · rename_i h100
              cases ht
              exact ⟨_, rfl, _, rfl, l, i, rest, rfl, hi, hl, er, h100, fun H' p s' dp => q H' p s' dp⟩
            · cases ht
        · rw [if_neg h3, ← hd] at ht
          rw [decide_eq_false h3]
          refine iteF ?_
          split at ht
          · cases ht
          · rename_i g eg
            cases ht
            refine ⟨_, rfl, _, rfl, l, i, g, rfl, Nat.le_of_lt hi, hl, eg, fun H' p s' dp => q H' p s' ?_⟩
            have hp : g <+: l.drop i := List.isPrefixOf_iff_prefix.mp (List.find?_some (p := fun g : List Nat => g.isPrefixOf (l.drop i)) eg)
            have hpl := hp.length_le
            have e : l.length - ((l.drop i).drop g.length).length = i + g.length := by
              rw [List.length_drop]
              omega
            rw [e]
            exact dp
def sp_tok (K : PySem.W.Frag) : Sp := fun vs H Q _ => ∃ (l : List Nat) (ts : List (Kv × Nat)), vs = [.str ⟨l.toArray⟩] ∧ l.length ≤ 100000 ∧ Lx l.length (skip l) ts ∧ ∀ H' p xs, Same H H' → H' p = some (.lst xs) → DpAll K H' xs (ts.map tokD) → Q (.ref p) H'
theorem toks_only : ∀ ts : List (Kv × Nat), tupOnlys (ts.map tokD) = true
  | [] => rfl
  | t :: ts => by
    rw [List.map_cons]
    unfold tupOnlys
    rw [toks_only ts, Bool.and_true]
    obtain ⟨kv, o⟩ := t
    cases kv <;> rfl
theorem skip_le (s : List Nat) : (skip s).length ≤ s.length := skip_len _ s (Nat.le_refl _)
theorem te_suf : ∀ (n : Nat) (s r : List Nat), s.length ≤ n → te s = some r → r <:+ s
  | _, [], _, _, h => by cases h
  | 0, _ :: _, _, h, _ => absurd h (Nat.not_succ_le_zero _)
  | n + 1, c :: s, r, hn, h => by
    have l1 : s.length ≤ n := Nat.le_of_succ_le_succ hn
    unfold te at h
    by_cases h10 : c = 10
    · rw [if_pos h10] at h
      cases h
    · rw [if_neg h10] at h
      by_cases h39 : c = 39
      · rw [if_pos h39] at h
        split at h
        · rename_i r'
          exact ((te_suf n r' r (by rw [List.length_cons] at l1; omega) h).trans (List.suffix_cons 39 r')).trans (List.suffix_cons c _)
        · cases h
          exact List.suffix_cons c _
      · rw [if_neg h39] at h
        exact (te_suf n s r l1 h).trans (List.suffix_cons c s)
theorem tok_suf {s : List Nat} {kv : Kv} {rest : List Nat} (h : tok s = some (kv, rest)) : rest <:+ s := by
  cases s with
  | nil => cases h
  | cons c r =>
    have h : tokC c r = some (kv, rest) := h
    unfold tokC at h
    by_cases h1 : c ∈ LET
    · rw [if_pos h1] at h
      split at h
      · cases h
        exact List.drop_suffix _ _
      · cases h
    · rw [if_neg h1] at h
      by_cases h2 : c ∈ DIG
      · rw [if_pos h2] at h
        split at h
        · cases h
          exact List.drop_suffix _ _
        · cases h
      · rw [if_neg h2] at h
        by_cases h3 : c = 39
        · rw [if_pos h3] at h
          split at h
          · cases h
          · rename_i rest' e
            split at h
            · cases h
              exact (te_suf _ _ _ (Nat.le_refl _) e).trans (List.suffix_cons c r)
            · cases h
        · rw [if_neg h3] at h
          split at h
          · cases h
          · cases h
            exact List.drop_suffix _ _
theorem ok_tok {f : Addr} {fd : FuncData} (F : Fun K "tokens" "tokens" s_tokens f fd) (M : Mg mg) (c_behind_gap : Cl P w K mg base 2 "behind_gap" sp_gap) (c_read_token : Cl P w K mg base 3 "read_token" (sp_rtok K fun _ => True)) : FnOk P w K mg base CX0 4 f fd ["source"] (sp_tok K) := by
  refine F.ok sc_tokens (fun vs H Q E h => ?_) (fun cdv A outer s H vs Q E hr h => ?_)
  · obtain ⟨l, ts, rfl, _⟩ := h
    rfl
  · obtain ⟨l, ts, rfl, hl, hx, q⟩ := h
    have zl : (⟨l.toArray⟩ : Str).length ≤ sizeLine := by rw [S_len']; exact Nat.le_trans hl (by decide)
    refine ⟨_, (pss_cons (ps_set (i := 1) sc_tokens.nd rfl (.inl rfl) (pe_lst pa_nil))
      (pss_cons (ps_set (i := 2) sc_tokens.nd rfl (.inl rfl) (pe_u c_behind_gap hr (by first | decide | omega) (by rfl) (pa_cons (pv 0) (pa_cons pe_int pa_nil))))
      (pss_cons (ps_while PassesOwn.never (pt_cmpR op_lt (pv 2) (pe_callB call_len_str (by rfl) M.len PySem.boot_len (pa_cons (pv 0) pa_nil)) (nomark _)) (pss_cons (ps_asg (pe_u c_read_token hr (by first | decide | omega) (by rfl) (pa_cons (pv 0) (pa_cons (pv 2) pa_nil))) (pg_tup (by rfl) (pgs_cons (pg_name (i := 3) sc_tokens.nd rfl (.inl rfl)) (pgs_cons (pg_name (i := 4) sc_tokens.nd rfl (.inl rfl)) (pgs_cons (pg_name (i := 5) sc_tokens.nd rfl (.inl rfl)) pgs_nil)))))
      (pss_cons (ps_expr (pe_bmK K PySem.F.plainAttrs_list PySem.F.slot_list_append PySem.F.type_list_append mt_append (pv 1) (pa_cons (pe_tup (pa_cons (pv 3) (pa_cons (pv 4) (pa_cons (pv 2) pa_nil)))) pa_nil)))
      (pss_one (ps_set (i := 2) sc_tokens.nd rfl (.inl rfl) (pe_u c_behind_gap hr (by first | decide | omega) (by rfl) (pa_cons (pv 0) (pa_cons (pv 5) pa_nil))))))))
      (pss_one (ps_ret (pv 1)))))), ?_⟩
    refine ⟨Nat.zero_le _, fun D nD => ?_⟩
    refine ⟨_, rfl, l, 0, rfl, Nat.zero_le _, hl, ?_⟩
    rw [List.drop_zero]
    obtain ⟨g1, g2⟩ := suf_at (l := l) (i := 0) (Nat.zero_le _) (show skip l <:+ l.drop 0 from skip_suf _ l (Nat.le_refl _))
    refine ⟨fun k σ Hi => ∃ (o : Nat) (done rest : List (Kv × Nat)) (xs : List V) (y1 y2 y3 : Option V), σ = [some (.str ⟨l.toArray⟩), some (.ref D), some (.int (o : Nat)), y1, y2, y3] ∧ k = l.length - o ∧ o ≤ l.length ∧ ts = done ++ rest ∧ Lx l.length (l.drop o) rest ∧ done.length + (l.length - o) ≤ l.length ∧ (∀ b x, H b = some x → Hi b = some x) ∧ Hi D = some (.lst xs) ∧ DpAll K Hi xs (done.map tokD), ⟨_, l.length - (skip l).length, [], ts, [], none, none, none, rfl, rfl, by omega, rfl, by rw [← g1]; exact hx, by show 0 + _ ≤ _; omega, fun b x e => same_upd nD _ _ e, upd_same, .nil⟩, fun k σ Hi hW => ?_⟩
    obtain ⟨o, done, rest, xs, y1, y2, y3, rfl, rfl, ho, rfl, hrest, hcount, sm, eD, da⟩ := hW
    refine ⟨_, rfl, _, rfl, _, rfl, zl, _, _, rfl, rfl, _, rfl, ?_⟩
    rw [S_len']
    by_cases hlt : o < l.length
    · rw [decide_eq_true (show ((o : Nat) : Int) < ((l.length : Nat) : Int) by omega)]
      refine iteT ?_
      have hdl : (l.drop o).length = l.length - o := List.length_drop
      obtain ⟨kv, rs, ts', er, htok, hts⟩ : ∃ (kv : Kv) (rs : List Nat) (ts' : List (Kv × Nat)), rest = (kv, l.length - (l.drop o).length) :: ts' ∧ tok (l.drop o) = some (kv, rs) ∧ Lx l.length (skip rs) ts' := by
        generalize hs : l.drop o = s at hrest hdl
        cases hrest with
        | nil =>
          rw [List.length_nil] at hdl
          omega
        | cons h1 h2 => exact ⟨_, _, _, rfl, h1, h2⟩
      subst er
      have eo : l.length - (l.drop o).length = o := by omega
      obtain ⟨r1, r2⟩ := suf_at (l := l) (i := o) ho (tok_suf htok)
      have hrl := tok_len htok
      obtain ⟨k1, k2⟩ := suf_at (l := l) (i := l.length - rs.length) (by omega) (show skip rs <:+ l.drop (l.length - rs.length) by rw [← r1]; exact skip_suf _ rs (Nat.le_refl _))
      refine ⟨fun σ H' => ∃ (o' : Nat) (xs' : List V) (z1 z2 z3 : Option V), σ = [some (.str ⟨l.toArray⟩), some (.ref D), some (.int (o' : Nat)), z1, z2, z3] ∧ o < o' ∧ o' ≤ l.length ∧ Lx l.length (l.drop o') ts' ∧ (∀ b x, H b = some x → H' b = some x) ∧ H' D = some (.lst xs') ∧ DpAll K H' xs' ((done ++ [(kv, o)]).map tokD), fun σ H' hN => ?_, ?_⟩
      · obtain ⟨o', xs', z1, z2, z3, rfl, n1, n2, n3, n4, n5, n6⟩ := hN
        refine ⟨l.length - o', by omega, o', done ++ [(kv, o)], ts', xs', z1, z2, z3, rfl, rfl, n2, ?_, n3, ?_, n4, n5, n6⟩
        · rw [eo, List.append_assoc]
          rfl
        · rw [List.length_append, List.length_singleton]
          omega
      · refine ⟨_, rfl, _, rfl, l, o, kv, rs, rfl, hlt, hl, htok, trivial, fun H' p s' dp => ?_⟩
        cases dp with
        | @tup _ zs _ hs ha =>
          cases ha with
          | @cons v1 _ _ _ d1 ha =>
            cases ha with
            | @cons v2 _ _ _ d2 ha =>
              cases ha with
              | @cons v3 _ _ _ d3 ha =>
                cases ha
                cases d1
                cases d3
                refine ⟨p, _, rfl, hs, rfl, _, _, rfl, _, _, rfl, _, _, rfl, rfl, ?_⟩
                have eD' := s' _ _ eD
                refine ⟨_, rfl, .inl ⟨rfl, _, .of eD'⟩, _, rfl, _, rfl, _, rfl, by show 3 ≤ sizeLine; decide, fun p2 np2 => ?_⟩
                have s2 := same_upd np2 (o := .tup [.str kv.kd, v2, .int ((o : Nat) : Int)])
                have eD2 := s2 _ _ eD'
                have xl : xs.length = done.length := by rw [DpAll.len da, List.length_map]
                refine ⟨D, xs, _, rfl, rfl, eD2, ?_, ?_⟩
                · rw [xl]
                  exact Nat.lt_of_le_of_lt (m := 100000) (by omega) (by decide)
                · refine ⟨_, rfl, _, rfl, l, l.length - rs.length, rfl, by omega, hl, ?_⟩
                  rw [← r1]
                  refine ⟨l.length - (skip rs).length, xs ++ [.ref p2], _, _, _, rfl, by have := skip_le rs; omega, by omega, by rw [← k1]; exact hts, fun b x e => ?_, upd_same, ?_⟩
                  · rw [upd_ne (ne_of_none e nD)]
                    exact s2 _ _ (s' _ _ (sm _ _ e))
                  · rw [List.map_append]
                    refine DpAll.snoc (DpAll.away eD2 _ _ (toks_only _) (DpAll.ext (fun b x e => s2 _ _ (s' _ _ e)) _ _ da)) ?_
                    refine Dp.away eD2 _ _ (by cases kv <;> rfl) (.tup (.of upd_same) (.cons (.str _) (.cons (Dp.ext s2 _ _ d2) (.cons (.int _) .nil))))
    · rw [decide_eq_false (show ¬ ((o : Nat) : Int) < ((l.length : Nat) : Int) by omega)]
      refine iteF ?_
      have e0 : l.drop o = [] := List.drop_eq_nil_of_le (by omega)
      rw [e0] at hrest
      have er : rest = [] := by
        cases hrest with
        | nil => rfl
        | cons h1 _ => cases h1
      subst er
      rw [List.append_nil] at q
      exact ⟨_, rfl, q Hi D _ sm eD da⟩
end

section
open Builtin.Str (subAt)
theorem subAt_one (l : List Nat) (c n : Nat) : subAt ⟨l.toArray⟩ ⟨#[c]⟩ n = decide (l[n]? = some c) := by
  unfold subAt
  have e : (⟨#[c]⟩ : Str).length = 1 := rfl
  rw [e]
  show (l.toArray.extract n (n + 1) == #[c]) = _
  rw [List.extract_toArray, List.extract_eq_take_drop, Nat.add_sub_cancel_left]
  by_cases h : n < l.length
  · rw [List.drop_eq_getElem_cons h, List.getElem?_eq_getElem h]
    rw [Bool.eq_iff_iff]
    simp [List.take]
  · rw [List.drop_eq_nil_of_le (by omega), List.getElem?_eq_none (by omega)]
    simp
theorem occ_fold (s sub : Str) (hi limit n : Nat) (b : Array Nat × Nat) : (forIn (List.range' 0 n) b (StrLaws.occBody s sub hi limit)).run = (List.range' 0 n).foldl (fun st i => if ((st.fst.size < limit ∧ st.snd ≤ i) ∧ i + sub.length ≤ hi) ∧ subAt s sub i = true then (st.fst.push i, i + sub.length) else st) b := by
  have e : StrLaws.occBody s sub hi limit = fun i st => (pure (ForInStep.yield ((fun i st => if ((st.fst.size < limit ∧ st.snd ≤ i) ∧ i + sub.length ≤ hi) ∧ subAt s sub i = true then (st.fst.push i, i + sub.length) else st) i st)) : Id _) := by
    funext i st
    unfold StrLaws.occBody
    split <;> rename_i h
    · simp only [if_pos h]
    · simp only [if_neg h]
  rw [e, List.forIn_pure_yield_eq_foldl]
  rfl
theorem last_fold (s sub : Str) (hi n : Nat) (b : Option Nat) : (forIn (List.range' 0 n) b (StrLaws.lastBody s sub hi)).run = (List.range' 0 n).foldl (fun st i => if i + sub.length ≤ hi ∧ subAt s sub i = true then some i else st) b := by
  have e : StrLaws.lastBody s sub hi = fun i st => (pure (ForInStep.yield ((fun i st => if i + sub.length ≤ hi ∧ subAt s sub i = true then some i else st) i st)) : Id _) := by
    funext i st
    unfold StrLaws.lastBody
    split <;> rename_i h
    · simp only [if_pos h]
    · simp only [if_neg h]
  rw [e, List.forIn_pure_yield_eq_foldl]
  rfl
/-- the column behind these signs -/
def colOf (l : List Nat) : Int := l.foldl (fun c x => if x = 10 then 1 else c + 1) 1
def linOf (l : List Nat) : Int := l.foldl (fun c x => if x = 10 then c + 1 else c) 1
theorem colOf_add (l : List Nat) (x : Nat) : colOf (l ++ [x]) = if x = 10 then 1 else colOf l + 1 := by
  unfold colOf
  rw [List.foldl_append]
  rfl
theorem linOf_add (l : List Nat) (x : Nat) : linOf (l ++ [x]) = if x = 10 then linOf l + 1 else linOf l := by
  unfold linOf
  rw [List.foldl_append]
  rfl
theorem take_more {l : List Nat} {n : Nat} (h : n < l.length) : l.take (n + 1) = l.take n ++ [l[n]] := by
  rw [List.take_add_one, List.getElem?_eq_getElem h]
  rfl
theorem occ_count (l : List Nat) (o limit : Nat) (ho : o ≤ l.length) (hl : l.length < limit) : ∀ n ≤ o, ∀ st, st = (List.range' 0 n).foldl (fun (st : Array Nat × Nat) i => if ((st.fst.size < limit ∧ st.snd ≤ i) ∧ i + 1 ≤ o) ∧ subAt ⟨l.toArray⟩ ⟨#[10]⟩ i = true then (st.fst.push i, i + 1) else st) (#[], 0) →
    (st.1.size : Int) + 1 = linOf (l.take n) ∧ st.1.size ≤ n ∧ st.2 ≤ n
  | 0, _, st, e => by subst e; exact ⟨rfl, Nat.le_refl _, Nat.le_refl _⟩
  | n + 1, h, st, e => by
    obtain ⟨h1, h2, h3⟩ := occ_count l o limit ho hl n (by omega) _ rfl
    rw [List.range'_1_concat, List.foldl_append] at e
    simp only [List.foldl_cons, List.foldl_nil, Nat.zero_add] at e
    generalize (List.range' 0 n).foldl _ _ = st0 at h1 h2 h3 e
    have hn : n < l.length := by omega
    rw [take_more hn, linOf_add, ← h1]
    have es := subAt_one l 10 n
    rw [List.getElem?_eq_getElem hn] at es
    by_cases hx : l[n] = 10
    · rw [hx] at es
      rw [if_pos ⟨⟨⟨by omega, h3⟩, by omega⟩, by rw [es]; simp⟩] at e
      subst e
      rw [if_pos hx]
      simp only [Array.size_push]
      exact ⟨by omega, by omega, by omega⟩
    · rw [if_neg (by rw [es]; simp [hx])] at e
      subst e
      rw [if_neg hx]
      exact ⟨rfl, by omega, by omega⟩
theorem last_col (l : List Nat) (o : Nat) (ho : o ≤ l.length) : ∀ n ≤ o, (n : Int) - (match (List.range' 0 n).foldl (fun (st : Option Nat) i => if i + 1 ≤ o ∧ subAt ⟨l.toArray⟩ ⟨#[10]⟩ i = true then some i else st) none with | some k => (k : Int) | none => -1) = colOf (l.take n)
  | 0, _ => rfl
  | n + 1, h => by
    have ih := last_col l o ho n (by omega)
    rw [List.range'_1_concat, List.foldl_append]
    simp only [List.foldl_cons, List.foldl_nil, Nat.zero_add]
    generalize (List.range' 0 n).foldl _ _ = st0 at ih ⊢
    have hn : n < l.length := by omega
    rw [take_more hn, colOf_add, ← ih]
    have es := subAt_one l 10 n
    rw [List.getElem?_eq_getElem hn] at es
    by_cases hx : l[n] = 10
    · rw [hx] at es
      rw [if_pos ⟨by omega, by rw [es]; simp⟩, if_pos hx]
      simp only
      omega
    · rw [if_neg (by rw [es]; simp [hx]), if_neg hx]
      cases st0 <;> simp only <;> omega
theorem range_end {α : Type} (o : Nat) (f : α → Nat → α) (b : α) (h : ∀ a, f a o = a) : (List.range' 0 (o + 1)).foldl f b = (List.range' 0 o).foldl f b := by
  rw [List.range'_1_concat, List.foldl_append]
  simp only [List.foldl_cons, List.foldl_nil, Nat.zero_add, h]
theorem from0 (n : Nat) : fromIndex n 0 = 0 := by unfold fromIndex; simp
theorem toIx {n o : Nat} (h : o ≤ n) : toIndexW n (o : Int) = o := by
  unfold toIndexW
  rw [if_neg (by omega)]
  omega
theorem count_is (l : List Nat) (o : Nat) (ho : o ≤ l.length) : Txt.countIn ⟨l.toArray⟩ ⟨#[10]⟩ 0 (o : Int) + 1 = linOf (l.take o) := by
  unfold Txt.countIn
  have hl : (⟨l.toArray⟩ : Str).length = l.length := by simp [Str.length]
  rw [hl, from0, toIx ho, StrLaws.occ_eq, Nat.sub_zero, occ_fold]
  have e1 : (⟨#[10]⟩ : Str).length = 1 := rfl
  rw [e1, range_end o _ _ (fun a => if_neg (by omega))]
  have := occ_count l o (l.length + 1) ho (by omega) o (Nat.le_refl _) _ rfl
  rw [← this.1]
  simp
theorem rfind_is (l : List Nat) (o : Nat) (ho : o ≤ l.length) : (o : Int) - Txt.rfindIn ⟨l.toArray⟩ ⟨#[10]⟩ 0 (o : Int) = colOf (l.take o) := by
  unfold Txt.rfindIn
  have hl : (⟨l.toArray⟩ : Str).length = l.length := by simp [Str.length]
  rw [hl, from0, toIx ho, StrLaws.last_eq, Nat.sub_zero, last_fold]
  have e1 : (⟨#[10]⟩ : Str).length = 1 := rfl
  rw [e1, range_end o _ _ (fun a => if_neg (by omega))]
  exact last_col l o ho o (Nat.le_refl _)

end
def sp_place (K : PySem.W.Frag) : Sp := fun vs H Q _ => ∃ (l : List Nat) (o : Nat), vs = [.str ⟨l.toArray⟩, .int (o : Int)] ∧ o ≤ l.length ∧ ∀ H' p, Same H H' → H p = none → H' p = some (.tup [.int (linOf (l.take o)), .int (colOf (l.take o))]) → Q (.ref p) H'
section
variable {P : Program} {w : World} {K : PySem.W.Frag} {mg : Str → Option Value} {base : Heap}
theorem ok_place {f : Addr} {fd : FuncData} (F : Fun K "place" "place" s_place f fd) : FnOk P w K mg base CX0 1 f fd ["source", "offset"] (sp_place K) := by
  refine F.ok sc_place (fun vs H Q E h => ?_) (fun cdv A outer s H vs Q E hr h => ?_)
  · obtain ⟨l, o, rfl, _⟩ := h
    rfl
  · obtain ⟨l, o, rfl, ho, q⟩ := h
    refine ⟨_, (pss_cons (ps_set (i := 2) sc_place.nd rfl (.inl rfl) (pe_op op_add (pe_bmK K PySem.F.plainAttrs_str PySem.F.slot_str_count PySem.F.type_str_count mt_count4 (pv 0) (pa_cons pe_str (pa_cons pe_int (pa_cons (pv 1) pa_nil)))) pe_int))
      (pss_cons (ps_set (i := 3) sc_place.nd rfl (.inl rfl) (pe_op op_sub (pv 1) (pe_bmK K PySem.F.plainAttrs_str PySem.F.slot_str_rfind PySem.F.type_str_rfind mt_rfind4 (pv 0) (pa_cons pe_str (pa_cons pe_int (pa_cons (pv 1) pa_nil))))))
      (pss_one (ps_ret (pe_tup (pa_cons (pv 2) (pa_cons (pv 3) pa_nil))))))), ?_⟩
    refine ⟨_, rfl, rfl, _, rfl, ⟨l.toArray⟩, ⟨#[10]⟩, 0, _, rfl, rfl, _, _, rfl, rfl, ?_⟩
    refine ⟨_, rfl, _, rfl, rfl, _, rfl, ⟨l.toArray⟩, ⟨#[10]⟩, 0, _, rfl, rfl, _, _, rfl, rfl, ?_⟩
    refine ⟨_, rfl, _, rfl, by show 2 ≤ sizeLine; decide, fun p np => ?_⟩
    refine q _ p (same_upd np) np ?_
    rw [upd_same, ← count_is l o ho, ← rfind_is l o ho]
end

/-! ### the lexer, with what it refuses -/
theorem lin_bd (l : List Nat) : 1 ≤ linOf l ∧ linOf l ≤ 1 + (l.length : Nat) := by
  have go : ∀ (l : List Nat) (c : Int), 1 ≤ c → 1 ≤ l.foldl (fun c x => if x = 10 then c + 1 else c) c ∧ l.foldl (fun c x => if x = 10 then c + 1 else c) c ≤ c + (l.length : Nat) := by
    intro l
    induction l with
    | nil => exact fun c h => ⟨h, by show c ≤ c + ((0 : Nat) : Int); omega⟩
    | cons x l ih =>
      intro c h
      rw [List.foldl_cons, List.length_cons]
      by_cases e : x = 10
      · rw [if_pos e]
        have := ih (c + 1) (by omega)
        omega
      · rw [if_neg e]
        have := ih c h
        omega
  exact go l 1 (by omega)
theorem col_bd (l : List Nat) : 1 ≤ colOf l ∧ colOf l ≤ 1 + (l.length : Nat) := by
  have go : ∀ (l : List Nat) (c : Int), 1 ≤ c → 1 ≤ l.foldl (fun c x => if x = 10 then 1 else c + 1) c ∧ l.foldl (fun c x => if x = 10 then 1 else c + 1) c ≤ c + (l.length : Nat) := by
    intro l
    induction l with
    | nil => exact fun c h => ⟨h, by show c ≤ c + ((0 : Nat) : Int); omega⟩
    | cons x l ih =>
      intro c h
      rw [List.foldl_cons, List.length_cons]
      by_cases e : x = 10
      · rw [if_pos e]
        have := ih 1 (by omega)
        omega
      · rw [if_neg e]
        have := ih (c + 1) (by omega)
        omega
  exact go l 1 (by omega)
/-- the error at place i of the text l -/
def Fl (C : Addr) (l : List Nat) (i : Nat) (E : XK) (H : Hp) : Prop := ∀ d H', H d = none → Same H H' → H' d = some (.xd (fs3 (linOf (l.take i)) (colOf (l.take i)) "unknown character")) → E (.ref C) (some d) H'
theorem Fl.ext {C : Addr} {l : List Nat} {i : Nat} {E : XK} {H H2 : Hp} (s : Same H H2) (h : Fl C l i E H) : Fl C l i E H2 := fun d H' nd s' e => h d H' (by
  cases z : H d with
  | none => rfl
  | some o => rw [s _ _ z] at nd; cases nd) (s.trans s') e
def sp_refuse (C : Addr) : Sp := fun vs H _ E => ∃ (l : List Nat) (i : Nat), vs = [.str ⟨l.toArray⟩, .int (i : Nat)] ∧ i ≤ l.length ∧ l.length ≤ 100000 ∧ Fl C l i E H
def sp_rwx (K : PySem.W.Frag) (C : Addr) : Sp := fun vs H Q E => ∃ (l : List Nat) (i : Nat), vs = [.str ⟨l.toArray⟩, .int (i : Nat)] ∧ i ≤ l.length ∧ l.length ≤ 100000 ∧ (¬ (runOf (LET ++ DIG) (l.drop i)).length ≤ 20 → Fl C l i E H) ∧
  ((runOf (LET ++ DIG) (l.drop i)).length ≤ 20 → ∀ H' p, Same H H' → Dp K H' (.ref p) (.tuple [.str "word", .str ⟨(runOf (LET ++ DIG) (l.drop i)).toArray⟩, .int ((i + (runOf (LET ++ DIG) (l.drop i)).length : Nat) : Int)]) → Q (.ref p) H')
def sp_rnx (K : PySem.W.Frag) (C : Addr) : Sp := fun vs H Q E => ∃ (l : List Nat) (i : Nat), vs = [.str ⟨l.toArray⟩, .int (i : Nat)] ∧ i ≤ l.length ∧ l.length ≤ 100000 ∧ 0 < (runOf DIG (l.drop i)).length ∧ (¬ (runOf DIG (l.drop i)).length ≤ 15 → Fl C l i E H) ∧
  ((runOf DIG (l.drop i)).length ≤ 15 → ∀ H' p, Same H H' → Dp K H' (.ref p) (.tuple [.str "number", .int ((NumText.digitsVal (runOf DIG (l.drop i)) : Nat) : Int), .int ((i + (runOf DIG (l.drop i)).length : Nat) : Int)]) → Q (.ref p) H')
def sp_btn : Sp := fun vs H Q _ => ∃ (l : List Nat) (i : Nat), vs = [.str ⟨l.toArray⟩, .int (i : Nat)] ∧ i < l.length ∧ l.length ≤ 100000 ∧ (te (l.drop (i + 1)) = none → Q .non H) ∧ (∀ r, te (l.drop (i + 1)) = some r → Q (.int ((l.length - r.length : Nat) : Int)) H)
def sp_rtx (K : PySem.W.Frag) (C : Addr) : Sp := fun vs H Q E => ∃ (l : List Nat) (i : Nat), vs = [.str ⟨l.toArray⟩, .int (i : Nat)] ∧ i < l.length ∧ l.length ≤ 100000 ∧ (te (l.drop (i + 1)) = none → Fl C l i E H) ∧ ∀ rest, te (l.drop (i + 1)) = some rest →
  (¬ (und ((l.drop (i + 1)).take ((l.drop (i + 1)).length - rest.length - 1))).length ≤ 100 → Fl C l i E H) ∧ ((und ((l.drop (i + 1)).take ((l.drop (i + 1)).length - rest.length - 1))).length ≤ 100 →
  ∀ H' p, Same H H' → Dp K H' (.ref p) (.tuple [.str "text", .str ⟨(und ((l.drop (i + 1)).take ((l.drop (i + 1)).length - rest.length - 1))).toArray⟩, .int ((l.length - rest.length : Nat) : Int)]) → Q (.ref p) H')
def sp_rsx (K : PySem.W.Frag) (C : Addr) : Sp := fun vs H Q E => ∃ (l : List Nat) (i : Nat), vs = [.str ⟨l.toArray⟩, .int (i : Nat)] ∧ i ≤ l.length ∧ l.length ≤ 100000 ∧ (SGN.find? (fun g => g.isPrefixOf (l.drop i)) = none → Fl C l i E H) ∧ ∀ g, SGN.find? (fun g => g.isPrefixOf (l.drop i)) = some g →
  ∀ H' p, Same H H' → Dp K H' (.ref p) (.tuple [.str "sign", .str ⟨g.toArray⟩, .int ((i + g.length : Nat) : Int)]) → Q (.ref p) H'
def sp_rtokx (K : PySem.W.Frag) (C : Addr) : Sp := fun vs H Q E => ∃ (l : List Nat) (i : Nat), vs = [.str ⟨l.toArray⟩, .int (i : Nat)] ∧ i < l.length ∧ l.length ≤ 100000 ∧ (tok (l.drop i) = none → Fl C l i E H) ∧ ∀ kv rest, tok (l.drop i) = some (kv, rest) →
  ∀ H' p, Same H H' → Dp K H' (.ref p) (.tuple [.str kv.kd, kv.val, .int ((l.length - rest.length : Nat) : Int)]) → Q (.ref p) H'
section
variable {P : Program} {w : World} {K : PySem.W.Frag} {mg : Str → Option Value} {base : Heap} {C : Addr}
theorem ok_refuse {f : Addr} {fd : FuncData} (SE : SrcE P w K mg base C) (F : Fun K "refuse" "refuse" s_refuse f fd) (M : Mg mg) (c_place : Cl P w K mg base 1 "place" (sp_place K)) : FnOk P w K mg base (L2.CX P w) 3 f fd ["source", "offset"] (sp_refuse C) := by
  refine F.okX sc_refuse (fun vs H Q E h => ?_) (fun cdv A outer s H vs Q E hr h => ?_)
  · obtain ⟨l, i, rfl, _⟩ := h
    rfl
  · obtain ⟨l, i, rfl, hi, hl, fl⟩ := h
    refine ⟨_, (pss_cons (ps_asg (pe_u c_place hr (by first | decide | omega) (by rfl) (pa_cons (pv 0) (pa_cons (pv 1) pa_nil))) (pg_tup (by rfl) (pgs_cons (pg_name (i := 2) sc_refuse.nd rfl (.inl rfl)) (pgs_cons (pg_name (i := 3) sc_refuse.nd rfl (.inl rfl)) pgs_nil))))
      (pss_one (ps_raiseS SE rfl (takes_of rfl rfl rfl rfl) hr (by first | decide | omega) (by rfl) (pa_cons (pv 2) (pa_cons (pv 3) (pa_cons pe_str pa_nil)))))), ?_⟩
    refine ⟨_, rfl, _, rfl, l, i, rfl, hi, fun H' p s' np e => ⟨p, _, rfl, .of e, rfl, _, _, rfl, _, _, rfl, rfl, ?_⟩⟩
    have b1 := lin_bd (l.take i)
    have b2 := col_bd (l.take i)
    have b3 : (l.take i).length ≤ 100000 := by rw [List.length_take]; omega
    exact ⟨_, rfl, _, rfl, _, _, _, rfl, by omega, by omega, by omega, by omega, by decide, fun d H2 nd s2 e2 => fl.ext s' d H2 nd s2 e2⟩
theorem ok_rwx {f : Addr} {fd : FuncData} {bl sg : Addr} (SE : SrcE P w K mg base C) (cx_refuse : ClX P w K mg base 3 "refuse" (sp_refuse C)) (F : Fun K "read_word" "read_word" s_read_word f fd) (M : Mg mg) (G : Gl K mg bl sg) (c_behind_run : Cl P w K mg base 1 "behind_run" sp_run) : FnOk P w K mg base (L2.CX P w) 4 f fd ["source", "start"] (sp_rwx K C) := by
  refine F.okX sc_read_word (fun vs H Q E h => ?_) (fun cdv A outer s H vs Q E hr h => ?_)
  · obtain ⟨l, i, rfl, _⟩ := h
    rfl
  · obtain ⟨l, i, rfl, hi, hl, fl, q⟩ := h
    have zl : (⟨l.toArray⟩ : Str).length ≤ sizeLine := by rw [S_len']; exact Nat.le_trans hl (by decide)
    have hrl := run_le (LET ++ DIG) (l.drop i)
    rw [List.length_drop] at hrl
    refine ⟨_, (pss_cons (ps_set (i := 2) sc_read_word.nd rfl (.inl rfl) (pe_u c_behind_run hr (by first | decide | omega) (by rfl) (pa_cons (pv 0) (pa_cons (pv 1) (pa_cons (pe_op op_add_str (C8.pe_gc (by rfl) G.LETTERS) (C8.pe_gc (by rfl) G.DIGITS)) pa_nil)))))
      (pss_cons (ps_if (pt_cmpR op_gt (pe_op op_sub (pv 2) (pv 1)) (C8.pe_gc (by rfl) G.MOST_WORD) (nomark _)) (pss_one (ps_expr (pe_ux cx_refuse hr (by first | decide | omega) (E := E) (passX (takes_of rfl rfl rfl rfl)) (by rfl) (pa_cons (pv 0) (pa_cons (pv 1) pa_nil))))) pss_nil)
      (pss_one (ps_ret (pe_tup (pa_cons pe_str (pa_cons (pe_slice sl_str (pv 0) (po_some (pv 1)) (po_some (pv 2))) (pa_cons (pv 2) pa_nil)))))))), ?_⟩
    refine ⟨_, rfl, _, rfl, _, _, rfl, rfl, by decide +kernel, ?_⟩
    rw [LET_S, DIG_S, show (⟨LET.toArray⟩ : Str) ++ ⟨DIG.toArray⟩ = ⟨(LET ++ DIG).toArray⟩ from SX.S_cat LET DIG]
    refine ⟨l, LET ++ DIG, i, rfl, hi, hl, ?_⟩
    refine ⟨_, rfl, _, rfl, _, _, rfl, rfl, _, _, rfl, rfl, _, rfl, ?_⟩
    by_cases h20 : (runOf (LET ++ DIG) (l.drop i)).length ≤ 20
    case neg =>
      rw [decide_eq_true (by omega)]
      exact iteT ⟨_, rfl, _, rfl, l, i, rfl, hi, hl, fl h20⟩
    have q := q h20
    rw [decide_eq_false (by omega)]
    refine iteF ?_
    refine ⟨_, rfl, _, rfl, _, rfl, _, rfl, _, rfl, ⟨l.toArray⟩, rfl, zl, _, rfl, by show 3 ≤ sizeLine; decide, fun p np => ?_⟩
    rw [cut_mid l (by omega) (by omega), Nat.add_sub_cancel_left, run_take]
    exact q _ p (same_upd np) (.tup (.of upd_same) (.cons (.str _) (.cons (.str _) (.cons (.int _) .nil))))
theorem ok_rnx {f : Addr} {fd : FuncData} {bl sg : Addr} (SE : SrcE P w K mg base C) (cx_refuse : ClX P w K mg base 3 "refuse" (sp_refuse C)) (F : Fun K "read_number" "read_number" s_read_number f fd) (M : Mg mg) (G : Gl K mg bl sg) (c_behind_run : Cl P w K mg base 1 "behind_run" sp_run) : FnOk P w K mg base (L2.CX P w) 4 f fd ["source", "start"] (sp_rnx K C) := by
  refine F.okX sc_read_number (fun vs H Q E h => ?_) (fun cdv A outer s H vs Q E hr h => ?_)
  · obtain ⟨l, i, rfl, _⟩ := h
    rfl
  · obtain ⟨l, i, rfl, hi, hl, h0, fl, q⟩ := h
    have zl : (⟨l.toArray⟩ : Str).length ≤ sizeLine := by rw [S_len']; exact Nat.le_trans hl (by decide)
    have hrl := run_le DIG (l.drop i)
    rw [List.length_drop] at hrl
    refine ⟨_, (pss_cons (ps_set (i := 2) sc_read_number.nd rfl (.inl rfl) (pe_u c_behind_run hr (by first | decide | omega) (by rfl) (pa_cons (pv 0) (pa_cons (pv 1) (pa_cons (C8.pe_gc (by rfl) G.DIGITS) pa_nil)))))
      (pss_cons (ps_if (pt_cmpR op_gt (pe_op op_sub (pv 2) (pv 1)) (C8.pe_gc (by rfl) G.MOST_NUMBER) (nomark _)) (pss_one (ps_expr (pe_ux cx_refuse hr (by first | decide | omega) (E := E) (passX (takes_of rfl rfl rfl rfl)) (by rfl) (pa_cons (pv 0) (pa_cons (pv 1) pa_nil))))) pss_nil)
      (pss_one (ps_ret (pe_tup (pa_cons pe_str (pa_cons (pe_callTy call_int_str (by rfl) M.int (by decide +kernel) (pa_cons (pe_slice sl_str (pv 0) (po_some (pv 1)) (po_some (pv 2))) pa_nil)) (pa_cons (pv 2) pa_nil)))))))), ?_⟩
    refine ⟨_, rfl, _, rfl, l, DIG, i, by rw [DIG_S]; rfl, hi, hl, ?_⟩
    refine ⟨_, rfl, _, rfl, _, _, rfl, rfl, _, _, rfl, rfl, _, rfl, ?_⟩
    by_cases h15 : (runOf DIG (l.drop i)).length ≤ 15
    case neg =>
      rw [decide_eq_true (by omega)]
      exact iteT ⟨_, rfl, _, rfl, l, i, rfl, hi, hl, fl h15⟩
    have q := q h15
    rw [decide_eq_false (by omega)]
    refine iteF ?_
    refine ⟨_, rfl, _, rfl, _, rfl, _, rfl, _, rfl, ⟨l.toArray⟩, rfl, zl, _, ((NumText.digitsVal (runOf DIG (l.drop i)) : Nat) : Int), rfl, ?_, ?_, _, rfl, by show 3 ≤ sizeLine; decide, fun p np => ?_⟩
    · rw [cut_mid l (by omega) (by omega), Nat.add_sub_cancel_left, run_take]
      exact SX.int_S (List.all_eq_true.mpr fun c hc => DIG_dig c (run_all _ _ c hc)) (fun z => by rw [z] at h0; exact absurd h0 (Nat.lt_irrefl _)) (by omega)
    · rw [cut_mid l (by omega) (by omega), Nat.add_sub_cancel_left, run_take, S_len']
      omega
    · exact q _ p (same_upd np) (.tup (.of upd_same) (.cons (.str _) (.cons (.int _) (.cons (.int _) .nil))))
theorem ok_rtx {f : Addr} {fd : FuncData} {bl sg : Addr} (SE : SrcE P w K mg base C) (cx_refuse : ClX P w K mg base 3 "refuse" (sp_refuse C)) (F : Fun K "read_text" "read_text" s_read_text f fd) (M : Mg mg) (G : Gl K mg bl sg) (c_behind_text : Cl P w K mg base 1 "behind_text" sp_btn) : FnOk P w K mg base (L2.CX P w) 4 f fd ["source", "start"] (sp_rtx K C) := by
  refine F.okX sc_read_text (fun vs H Q E h => ?_) (fun cdv A outer s H vs Q E hr h => ?_)
  · obtain ⟨l, i, rfl, _⟩ := h
    rfl
  · obtain ⟨l, i, rfl, hi, hl, fl, q⟩ := h
    have zl : (⟨l.toArray⟩ : Str).length ≤ sizeLine := by rw [S_len']; exact Nat.le_trans hl (by decide)
    refine ⟨_, (pss_cons (ps_set (i := 2) sc_read_text.nd rfl (.inl rfl) (pe_u c_behind_text hr (by first | decide | omega) (by rfl) (pa_cons (pv 0) (pa_cons (pv 1) pa_nil))))
      (pss_cons (ps_if (pt_cmpR op_isN (pv 2) pe_non (nomark _)) (pss_one (ps_expr (pe_ux cx_refuse hr (by first | decide | omega) (E := E) (passX (takes_of rfl rfl rfl rfl)) (by rfl) (pa_cons (pv 0) (pa_cons (pv 1) pa_nil))))) pss_nil)
      (pss_cons (ps_set (i := 3) sc_read_text.nd rfl (.inl rfl) (pe_rplG (peg_slice sl_str (pv 0) (peg_add (pv 1) pe_int) (pe_op op_sub (pv 2) pe_int)) (by decide)))
      (pss_cons (ps_if (pt_cmpR op_gt (pe_callB call_len_str (by rfl) M.len PySem.boot_len (pa_cons (pv 3) pa_nil)) (C8.pe_gc (by rfl) G.MOST_TEXT) (nomark _)) (pss_one (ps_expr (pe_ux cx_refuse hr (by first | decide | omega) (E := E) (passX (takes_of rfl rfl rfl rfl)) (by rfl) (pa_cons (pv 0) (pa_cons (pv 1) pa_nil))))) pss_nil)
      (pss_one (ps_ret (pe_tup (pa_cons pe_str (pa_cons (pv 3) (pa_cons (pv 2) pa_nil)))))))))), ?_⟩
    refine ⟨_, rfl, _, rfl, l, i, rfl, hi, hl, fun ht => ⟨_, rfl, rfl, _, rfl, iteT ⟨_, rfl, _, rfl, l, i, rfl, Nat.le_of_lt hi, hl, fl ht⟩⟩, fun rest ht => ?_⟩
    obtain ⟨fl2, q⟩ := q rest ht
    have hlen := te_len _ _ _ (Nat.le_refl _) ht
    rw [List.length_drop] at hlen
    refine ⟨_, rfl, rfl, _, rfl, iteF ?_⟩
    refine ⟨_, rfl, _, rfl, _, _, rfl, rfl, _, rfl, _, rfl, _, _, rfl, rfl, _, rfl, ⟨l.toArray⟩, rfl, zl, _, rfl, ?_⟩
    have e1 : ((i : Nat) : Int) + 1 = ((i + 1 : Nat) : Int) := by omega
    have e2 : ((l.length - rest.length : Nat) : Int) - 1 = ((l.length - rest.length - 1 : Nat) : Int) := by omega
    rw [e1, e2, cut_mid l (by omega) (by omega)]
    have e3 : l.length - rest.length - 1 - (i + 1) = (l.drop (i + 1)).length - rest.length - 1 := by
      rw [List.length_drop]
      omega
    rw [e3]
    generalize hraw : (l.drop (i + 1)).take ((l.drop (i + 1)).length - rest.length - 1) = raw at fl2 q
    have hrl : raw.length ≤ 100000 := by
      rw [← hraw, List.length_take, List.length_drop]
      omega
    refine ⟨by rw [S_len']; show raw.length + (raw.length + 1) * 1 ≤ 16777216; omega, ?_⟩
    rw [show Txt.replace ⟨raw.toArray⟩ (Str.ofString "''") (Str.ofString "'") = ⟨(und raw).toArray⟩ from rpl_S raw [39, 39] [39] (by decide) (by decide)]
    have hul := und_le raw []
    have hul2 : (und raw).length ≤ 100000 := by
      have : (und raw).length ≤ ([] : List Nat).length + raw.length := hul
      rw [List.length_nil] at this
      omega
    refine ⟨_, rfl, _, rfl, by rw [S_len']; exact Nat.le_trans hul2 (by decide), _, _, rfl, rfl, _, rfl, ?_⟩
    by_cases h100 : (und raw).length ≤ 100
    case neg =>
      rw [S_len', decide_eq_true (by omega)]
      exact iteT ⟨_, rfl, _, rfl, l, i, rfl, Nat.le_of_lt hi, hl, fl2 h100⟩
    have q := q h100
    rw [S_len', decide_eq_false (by omega)]
    refine iteF ?_
    refine ⟨_, rfl, _, rfl, by show 3 ≤ sizeLine; decide, fun p np => ?_⟩
    exact q _ p (same_upd np) (.tup (.of upd_same) (.cons (.str _) (.cons (.str _) (.cons (.int _) .nil))))
theorem te_at {l : List Nat} {e : Nat} (he : e < l.length) : te (l.drop e) = if l[e] = 10 then none else if l[e] = 39 then (if [39, 39].isPrefixOf (l.drop e) = true then te (l.drop (e + 2)) else some (l.drop (e + 1))) else te (l.drop (e + 1)) := by
  have hd : l.drop e = l[e] :: l.drop (e + 1) := List.drop_eq_getElem_cons he
  have e2 : l.drop (e + 2) = (l.drop (e + 1)).drop 1 := by rw [List.drop_drop]
  rw [e2, hd]
  generalize l.drop (e + 1) = r
  generalize l[e] = c
  by_cases h10 : c = 10
  · rw [if_pos h10, te.eq_def]
    exact if_pos h10
  · rw [if_neg h10]
    by_cases h39 : c = 39
    · rw [if_pos h39]
      subst h39
      cases r with
      | nil => rfl
      | cons d r' =>
        by_cases hd : d = 39
        · subst hd
          rfl
        · have hp : ([39, 39] : List Nat).isPrefixOf (39 :: d :: r') = false := by simp [List.isPrefixOf]; exact fun z => hd z.symm
          rw [hp, if_neg Bool.false_ne_true]
          unfold te
          rw [if_neg (by decide), if_pos rfl]
          split
          · rename_i heq
            exact absurd (List.cons.inj heq).1 hd
          · rfl
    · rw [if_neg h39]
      rw [te.eq_def]
      show (if c = 10 then none else if c = 39 then _ else te r) = _
      rw [if_neg h10, if_neg h39]
theorem te_end {l : List Nat} {e : Nat} (he : ¬ e < l.length) : te (l.drop e) = none := by
  rw [List.drop_eq_nil_of_le (by omega)]
  rfl
theorem ok_btn {f : Addr} {fd : FuncData} (F : Fun K "behind_text" "behind_text" s_behind_text f fd) (M : Mg mg) : FnOk P w K mg base CX0 1 f fd ["source", "start"] sp_btn := by
  refine F.ok sc_behind_text (fun vs H Q E h => ?_) (fun cdv A outer s H vs Q E hr h => ?_)
  · obtain ⟨l, i, rfl, _⟩ := h
    rfl
  · obtain ⟨l, i, rfl, hi, hl, qn, q⟩ := h
    have zl : (⟨l.toArray⟩ : Str).length ≤ sizeLine := by rw [S_len']; exact Nat.le_trans hl (by decide)
    refine ⟨_, (pss_cons (ps_set (i := 2) sc_behind_text.nd rfl (.inl rfl) (pe_op op_add (pv 1) pe_int))
      (pss_cons (ps_while PassesOwn.never (PW.pt (pw_and (pt_cmpR op_lt (pv 2) (pe_callB call_len_str (by rfl) M.len PySem.boot_len (pa_cons (pv 0) pa_nil)) (nomark _)) (pw_and1 (pt_cmpR op_ne (pe_ix ix_str (pv 0) (pv 2) (fun _ _ => rfl)) pe_str (nomark _))))) (pss_one (ps_if (pt_cmpR op_ne (pe_ix ix_str (pv 0) (pv 2) (fun _ _ => rfl)) pe_str (nomark _)) (pss_one (ps_aug (i := 2) sc_behind_text.nd rfl (.inl rfl) pe_int ip_add)) (pss_one (ps_if (pt_val (pe_bmK K PySem.F.plainAttrs_str PySem.F.slot_str_startswith PySem.F.type_str_startswith mt_startswith3 (pv 0) (pa_cons pe_str (pa_cons (pv 2) pa_nil)))) (pss_one (ps_aug (i := 2) sc_behind_text.nd rfl (.inl rfl) pe_int ip_add)) (pss_one (ps_ret (pe_op op_add (pv 2) pe_int))))))))
      (pss_one (ps_ret pe_non)))), ?_⟩
    refine ⟨_, rfl, _, _, rfl, rfl, fun k σ Hi => Hi = H ∧ ∃ e : Nat, σ = [some (.str ⟨l.toArray⟩), some (.int (i : Nat)), some (.int (e : Nat))] ∧ k = l.length - e ∧ e ≤ l.length ∧ te (l.drop e) = te (l.drop (i + 1)), ⟨_, rfl, i + 1, rfl, rfl, hi, rfl⟩, fun k σ Hi hW => ?_⟩
    obtain ⟨rfl, e, rfl, rfl, hel, hk⟩ := hW
    refine ⟨_, rfl, _, rfl, _, rfl, zl, _, _, rfl, rfl, _, rfl, ?_⟩
    by_cases he : e < l.length
    case neg =>
      rw [S_len', decide_eq_false (show ¬ (e : Int) < ((l.length : Nat) : Int) by omega)]
      refine iteF (iteF ?_)
      rw [te_end he] at hk
      exact qn hk.symm
    have ta := te_at he
    rw [hk] at ta
    have hat : atI (⟨l.toArray⟩ : Str).cps.toList ((e : Nat) : Int) = some l[e] := atI_nat (show l[e]? = _ from List.getElem?_eq_getElem he)
    have en : decide (V.str ⟨#[l[e]]⟩ = V.str (Str.ofString "\n")) = decide (l[e] = 10) := str1 l[e] 10
    have eq : decide (V.str ⟨#[l[e]]⟩ = V.str (Str.ofString "'")) = decide (l[e] = 39) := str1 l[e] 39
    rw [S_len', decide_eq_true (show (e : Int) < ((l.length : Nat) : Int) by omega)]
    refine iteT ?_
    refine ⟨_, rfl, _, rfl, _, _, _, rfl, rfl, zl, hat, rfl, _, rfl, ?_⟩
    rw [en]
    by_cases h10 : l[e] = 10
    · rw [decide_eq_true h10]
      refine iteF ?_
      rw [if_pos h10] at ta
      exact qn ta
    · rw [if_neg h10] at ta
      rw [decide_eq_false h10]
      refine iteT ?_
      refine ⟨fun σ H' => H' = Hi ∧ ∃ e' : Nat, σ = [some (.str ⟨l.toArray⟩), some (.int (i : Nat)), some (.int (e' : Nat))] ∧ e < e' ∧ e' ≤ l.length ∧ te (l.drop e') = te (l.drop (i + 1)), fun σ H' hN => ?_, ?_⟩
      · obtain ⟨rfl, e', rfl, g1, g3, g2⟩ := hN
        exact ⟨l.length - e', by omega, rfl, e', rfl, rfl, g3, g2⟩
      · refine ⟨_, rfl, _, rfl, _, _, _, rfl, rfl, zl, hat, rfl, _, rfl, ?_⟩
        rw [eq]
        by_cases h39 : l[e] = 39
        · rw [if_pos h39] at ta
          rw [decide_eq_true h39]
          refine iteF ?_
          refine ⟨_, rfl, rfl, _, rfl, ⟨l.toArray⟩, ⟨[39, 39].toArray⟩, _, rfl, rfl, _, rfl, ?_⟩
          rw [starts_at l [39, 39] e (by omega)]
          cases hp : [39, 39].isPrefixOf (l.drop e) with
          | true =>
            rw [hp, if_pos rfl] at ta
            have hpl := (List.isPrefixOf_iff_prefix.mp hp).length_le
            rw [List.length_drop] at hpl
            have h2 : ([39, 39] : List Nat).length = 2 := rfl
            refine iteT ?_
            exact ⟨_, rfl, _, _, rfl, rfl, rfl, e + 2, rfl, by omega, by omega, ta.symm⟩
          | false =>
            rw [hp, if_neg Bool.false_ne_true] at ta
            refine iteF ?_
            refine ⟨_, rfl, _, _, rfl, rfl, ?_⟩
            have q := q _ ta
            rw [List.length_drop, Nat.sub_sub_self (by omega)] at q
            exact q
        · rw [if_neg h39] at ta
          rw [decide_eq_false h39]
          refine iteT ?_
          exact ⟨_, rfl, _, _, rfl, rfl, rfl, e + 1, rfl, by omega, by omega, ta.symm⟩
theorem ok_rsx {f : Addr} {fd : FuncData} {bl sg : Addr} (SE : SrcE P w K mg base C) (cx_refuse : ClX P w K mg base 3 "refuse" (sp_refuse C)) (F : Fun K "read_sign" "read_sign" s_read_sign f fd) (M : Mg mg) (G : Gl K mg bl sg) : FnOk P w K mg base (L2.CX P w) 4 f fd ["source", "start"] (sp_rsx K C) := by
  refine F.okX sc_read_sign (fun vs H Q E h => ?_) (fun cdv A outer s H vs Q E hr h => ?_)
  · obtain ⟨l, i, rfl, _⟩ := h
    rfl
  · obtain ⟨l, i, rfl, hi, hl, fl, q⟩ := h
    have zl : (⟨l.toArray⟩ : Str).length ≤ sizeLine := by rw [S_len']; exact Nat.le_trans hl (by decide)
    refine ⟨_, (pss_cons (ps_setLc (i := 2) (own := [("sign", 3)]) (g := gName 3) rfl sc_read_sign.nd rfl rfl (sw_true rfl rfl rfl (by decide +kernel)) (pi_tup (C8.pe_gc (by rfl) G.SIGNS)) (blkOk_by (N := N_read_sign) (sc := defScope s_read_sign) (by decide +kernel)) (fun _ _ _ _ _ => (pg_name (i := 3) sc_read_sign.nd rfl (.inl rfl))) (fun _ _ _ _ _ => (pts_one (pt_val (pe_bmK K PySem.F.plainAttrs_str PySem.F.slot_str_startswith PySem.F.type_str_startswith mt_startswith3 (pv 0) (pa_cons (pv 3) (pa_cons (pv 1) pa_nil)))))) (fun _ _ _ _ _ => (pv 3)))
      (pss_cons (ps_if (pt_not (pt_truthK K (pv 2) (by intro _; rfl))) (pss_one (ps_expr (pe_ux cx_refuse hr (by first | decide | omega) (E := E) (passX (takes_of rfl rfl rfl rfl)) (by rfl) (pa_cons (pv 0) (pa_cons (pv 1) pa_nil))))) pss_nil)
      (pss_one (ps_ret (pe_tup (pa_cons pe_str (pa_cons (pe_ix (ix_listK K) (pv 2) pe_int (fun _ _ => rfl)) (pa_cons (pe_op op_add (pv 1) (pe_callB call_len_str (by rfl) M.len PySem.boot_len (pa_cons (pe_ix (ix_listK K) (pv 2) pe_int (fun _ _ => rfl)) pa_nil))) pa_nil)))))))), ?_⟩
    refine ⟨sg, rfl, ⟨_, G.sgT H⟩, fun D nD => ?_⟩
    refine lc_tup (K := K) (a := sg) (xs := SGN.map fun g => V.str ⟨g.toArray⟩) (fun k Hi => Same H Hi ∧ Hi D = some (.lst (((SGN.take k).filter (fun g => g.isPrefixOf (l.drop i))).map fun g => V.str ⟨g.toArray⟩))) ⟨same_upd nD, upd_same⟩ (fun k Hi _ _ => G.sgT Hi) (fun k x Hi hx hp => ?_) (fun Hn hp => ?_)
    · obtain ⟨sk, eD⟩ := hp
      rw [List.getElem?_map] at hx
      obtain ⟨y, hy, rfl⟩ := Option.map_eq_some_iff.mp hx
      refine ⟨rfl, ?_⟩
      refine ⟨_, rfl, rfl, _, rfl, _, rfl, ⟨l.toArray⟩, ⟨y.toArray⟩, _, rfl, rfl, _, rfl, ?_⟩
      rw [starts_at l y i hi]
      have ek : (SGN.take (k + 1)).filter (fun g => g.isPrefixOf (l.drop i)) = (SGN.take k).filter (fun g => g.isPrefixOf (l.drop i)) ++ [y].filter (fun g => g.isPrefixOf (l.drop i)) := by
        rw [List.take_add_one, hy, List.filter_append]
        rfl
      have hk : k < 14 := (List.getElem?_eq_some_iff.mp hy).1
      cases hb : y.isPrefixOf (l.drop i) with
      | true =>
        refine iteT ?_
        refine ⟨_, rfl, _, eD, ?_, fun b o e => ?_, ?_⟩
        · rw [List.length_map]
          refine Nat.lt_of_le_of_lt (List.length_filter_le _ _) ?_
          rw [List.length_take]
          exact Nat.lt_of_lt_of_le (m := 20) (by omega) (by decide)
        · rw [upd_ne (ne_of_none e nD)]
          exact sk _ _ e
        · rw [upd_same, ek, List.filter_cons_of_pos (by simpa using hb), List.map_append]
          rfl
      | false =>
        refine iteF ?_
        refine ⟨sk, ?_⟩
        rw [ek, List.filter_cons_of_neg (by simp [hb]), List.filter_nil, List.append_nil]
        exact eD
    · obtain ⟨sn, eD⟩ := hp
      have e0 : (SGN.take (SGN.map fun g => V.str ⟨g.toArray⟩).length).filter (fun g => g.isPrefixOf (l.drop i)) = SGN.filter (fun g => g.isPrefixOf (l.drop i)) := by
        rw [List.take_of_length_le (by rw [List.length_map]; exact Nat.le_refl _)]
      rw [e0] at eD
      cases hg : SGN.find? (fun g => g.isPrefixOf (l.drop i)) with
      | none =>
        have en : SGN.filter (fun g => g.isPrefixOf (l.drop i)) = [] := by
          have : (SGN.filter (fun g => g.isPrefixOf (l.drop i))).head? = none := by rw [List.head?_filter, hg]
          cases e : SGN.filter (fun g => g.isPrefixOf (l.drop i)) with
          | nil => rfl
          | cons a r => rw [e] at this; cases this
        rw [en] at eD
        refine ⟨_, rfl, false, .inl ⟨_, .of eD, rfl⟩, iteT ?_⟩
        exact ⟨_, rfl, _, rfl, l, i, rfl, hi, hl, (fl hg).ext sn⟩
      | some g =>
      have q := q g hg
      have hhead : (SGN.filter (fun g => g.isPrefixOf (l.drop i))).head? = some g := by rw [List.head?_filter, hg]
      obtain ⟨gs, hgs⟩ : ∃ gs, SGN.filter (fun g => g.isPrefixOf (l.drop i)) = g :: gs := by
        cases e : SGN.filter (fun g => g.isPrefixOf (l.drop i)) with
        | nil => rw [e] at hhead; cases hhead
        | cons a r => rw [e] at hhead; cases hhead; exact ⟨r, rfl⟩
      have hgl : g.length ≤ 2 := (show ∀ g ∈ SGN, g.length ≤ 2 by decide) g (List.mem_of_find?_eq_some hg)
      rw [hgs] at eD
      have lD : SqL K Hn D (V.str ⟨g.toArray⟩ :: gs.map fun g => V.str ⟨g.toArray⟩) := .of eD
      refine ⟨_, rfl, true, .inl ⟨_, lD, rfl⟩, iteF ?_⟩
      refine ⟨_, rfl, D, _, _, _, rfl, rfl, lD, atI_nat (j := 0) rfl, ?_⟩
      refine ⟨_, rfl, _, rfl, D, _, _, _, rfl, rfl, lD, atI_nat (j := 0) rfl, ?_⟩
      refine ⟨_, rfl, by rw [S_len']; exact Nat.le_trans hgl (by decide), _, _, rfl, rfl, by show 3 ≤ sizeLine; decide, fun p np => ?_⟩
      rw [S_len']
      exact q _ p (sn.trans (same_upd np)) (.tup (.of upd_same) (.cons (.str _) (.cons (.str _) (.cons (.int _) .nil))))
theorem ok_rtokx {f : Addr} {fd : FuncData} {bl sg : Addr} (F : Fun K "read_token" "read_token" s_read_token f fd) (M : Mg mg) (G : Gl K mg bl sg) (cx_read_word : ClX P w K mg base 4 "read_word" (sp_rwx K C)) (cx_read_number : ClX P w K mg base 4 "read_number" (sp_rnx K C)) (cx_read_text : ClX P w K mg base 4 "read_text" (sp_rtx K C)) (cx_read_sign : ClX P w K mg base 4 "read_sign" (sp_rsx K C)) : FnOk P w K mg base (L2.CX P w) 5 f fd ["source", "start"] (sp_rtokx K C) := by
  refine F.okX sc_read_token (fun vs H Q E h => ?_) (fun cdv A outer s H vs Q E hr h => ?_)
  · obtain ⟨l, i, rfl, _⟩ := h
    rfl
  · obtain ⟨l, i, rfl, hi, hl, fl, q⟩ := h
    have zl : (⟨l.toArray⟩ : Str).length ≤ sizeLine := by rw [S_len']; exact Nat.le_trans hl (by decide)
    have hat : atI (⟨l.toArray⟩ : Str).cps.toList ((i : Nat) : Int) = some l[i] := atI_nat (show l[i]? = _ from List.getElem?_eq_getElem hi)
    have hd : l.drop i = l[i] :: l.drop (i + 1) := List.drop_eq_getElem_cons hi
    have hdl : (l.drop i).length = l.length - i := List.length_drop
    have tk : tok (l.drop i) = tokC l[i] (l.drop (i + 1)) := by rw [hd]; rfl
    rw [tk] at fl q
    unfold tokC at fl q
    refine ⟨_, (pss_cons (ps_set (i := 2) sc_read_token.nd rfl (.inl rfl) (pe_ix ix_str (pv 0) (pv 1) (fun _ _ => rfl)))
      (pss_cons (ps_if (pt_cmpR op_in_str (pv 2) (C8.pe_gc (by rfl) G.LETTERS) (by rfl)) (pss_one (ps_ret (pe_ux cx_read_word hr (by first | decide | omega) (E := E) (passX (takes_of rfl rfl rfl rfl)) (by rfl) (pa_cons (pv 0) (pa_cons (pv 1) pa_nil))))) pss_nil)
      (pss_cons (ps_if (pt_cmpR op_in_str (pv 2) (C8.pe_gc (by rfl) G.DIGITS) (by rfl)) (pss_one (ps_ret (pe_ux cx_read_number hr (by first | decide | omega) (E := E) (passX (takes_of rfl rfl rfl rfl)) (by rfl) (pa_cons (pv 0) (pa_cons (pv 1) pa_nil))))) pss_nil)
      (pss_cons (ps_if (pt_cmpR op_eq (pv 2) pe_str (nomark _)) (pss_one (ps_ret (pe_ux cx_read_text hr (by first | decide | omega) (E := E) (passX (takes_of rfl rfl rfl rfl)) (by rfl) (pa_cons (pv 0) (pa_cons (pv 1) pa_nil))))) pss_nil)
      (pss_one (ps_ret (pe_ux cx_read_sign hr (by first | decide | omega) (E := E) (passX (takes_of rfl rfl rfl rfl)) (by rfl) (pa_cons (pv 0) (pa_cons (pv 1) pa_nil))))))))), ?_⟩
    refine ⟨_, rfl, _, rfl, _, _, _, rfl, rfl, zl, hat, ?_⟩
    refine ⟨_, rfl, _, _, rfl, rfl, _, rfl, ?_⟩
    rw [LET_S, in_text]
    by_cases h1 : l[i] ∈ LET
    · rw [if_pos h1, ← hd] at fl q
      rw [decide_eq_true h1]
      refine iteT ?_
      have hrl := run_le (LET ++ DIG) (l.drop i)
      refine ⟨_, rfl, _, rfl, l, i, rfl, Nat.le_of_lt hi, hl, fun h20 => fl (if_neg h20), fun h20 H' p s' dp => q _ _ (if_pos h20) H' p s' ?_⟩
      have e : l.length - ((l.drop i).drop (runOf (LET ++ DIG) (l.drop i)).length).length = i + (runOf (LET ++ DIG) (l.drop i)).length := by
        rw [List.length_drop]
        omega
      rw [e]
      exact dp
    · rw [if_neg h1] at fl q
      rw [decide_eq_false h1]
      refine iteF ?_
      refine ⟨_, rfl, _, _, rfl, rfl, _, rfl, ?_⟩
      rw [DIG_S, in_text]
      by_cases h2 : l[i] ∈ DIG
      · rw [if_pos h2, ← hd] at fl q
        rw [decide_eq_true h2]
        refine iteT ?_
        have hrl := run_le DIG (l.drop i)
        have hr0 := run_head (m := DIG) (r := l.drop (i + 1)) h2
        rw [← hd] at hr0
        refine ⟨_, rfl, _, rfl, l, i, rfl, Nat.le_of_lt hi, hl, hr0, fun h15 => fl (if_neg h15), fun h15 H' p s' dp => q _ _ (if_pos h15) H' p s' ?_⟩
        have e : l.length - ((l.drop i).drop (runOf DIG (l.drop i)).length).length = i + (runOf DIG (l.drop i)).length := by
          rw [List.length_drop]
          omega
        rw [e]
        exact dp
      · rw [if_neg h2] at fl q
        rw [decide_eq_false h2]
        refine iteF ?_
        refine ⟨_, rfl, rfl, _, rfl, ?_⟩
        rw [show decide (V.str ⟨#[l[i]]⟩ = V.str (Str.ofString "'")) = decide (l[i] = 39) from str1 l[i] 39]
        by_cases h3 : l[i] = 39
        · rw [if_pos h3] at fl q
          rw [decide_eq_true h3]
          refine iteT ?_
          refine ⟨_, rfl, _, rfl, l, i, rfl, hi, hl, fun ht => fl ?_, fun rest ht => ⟨fun h100 => fl ?_, fun h100 H' p s' dp => q (.text (und ((l.drop (i + 1)).take ((l.drop (i + 1)).length - rest.length - 1)))) rest ?_ H' p s' dp⟩⟩
          · rw [ht]
          · rw [ht]
            exact if_neg h100
          · rw [ht]
            exact if_pos h100
        · rw [if_neg h3, ← hd] at fl q
          rw [decide_eq_false h3]
          refine iteF ?_
          refine ⟨_, rfl, _, rfl, l, i, rfl, Nat.le_of_lt hi, hl, fun hg => fl ?_, fun g eg H' p s' dp => q (.sign g) ((l.drop i).drop g.length) ?_ H' p s' ?_⟩
          · rw [hg]
          · rw [eg]
          · have hp : g <+: l.drop i := List.isPrefixOf_iff_prefix.mp (List.find?_some (p := fun g : List Nat => g.isPrefixOf (l.drop i)) eg)
            have hpl := hp.length_le
            have e : l.length - ((l.drop i).drop g.length).length = i + g.length := by
              rw [List.length_drop]
              omega
            rw [e]
            exact dp
/-- a text of n signs, s of it left, goes wrong at place o -/
inductive Lxe (n : Nat) : List Nat → Nat → Prop
  | here {s : List Nat} : s ≠ [] → tok s = none → Lxe n s (n - s.length)
  | cons {s : List Nat} {kv : Kv} {rest : List Nat} {o : Nat} : tok s = some (kv, rest) → Lxe n (skip rest) o → Lxe n s o
def sp_tokx (C : Addr) : Sp := fun vs H _ E => ∃ (l : List Nat) (o : Nat), vs = [.str ⟨l.toArray⟩] ∧ l.length ≤ 100000 ∧ Lxe l.length (skip l) o ∧ Fl C l o E H
theorem ok_tokx {f : Addr} {fd : FuncData} (F : Fun K "tokens" "tokens" s_tokens f fd) (M : Mg mg) (c_behind_gap : Cl P w K mg base 2 "behind_gap" sp_gap) (cx_read_token : ClX P w K mg base 5 "read_token" (sp_rtokx K C)) : FnOk P w K mg base (L2.CX P w) 6 f fd ["source"] (sp_tokx C) := by
  refine F.okX sc_tokens (fun vs H Q E h => ?_) (fun cdv A outer s H vs Q E hr h => ?_)
  · obtain ⟨l, o, rfl, _⟩ := h
    rfl
  · obtain ⟨l, oe, rfl, hl, hx, fl⟩ := h
    have zl : (⟨l.toArray⟩ : Str).length ≤ sizeLine := by rw [S_len']; exact Nat.le_trans hl (by decide)
    refine ⟨_, (pss_cons (ps_set (i := 1) sc_tokens.nd rfl (.inl rfl) (pe_lst pa_nil))
      (pss_cons (ps_set (i := 2) sc_tokens.nd rfl (.inl rfl) (pe_u c_behind_gap hr (by first | decide | omega) (by rfl) (pa_cons (pv 0) (pa_cons pe_int pa_nil))))
      (pss_cons (ps_while (passes_of rfl) (pt_cmpR op_lt (pv 2) (pe_callB call_len_str (by rfl) M.len PySem.boot_len (pa_cons (pv 0) pa_nil)) (nomark _)) (pss_cons (ps_asg (pe_ux cx_read_token hr (by first | decide | omega) (E := E) (passX (takes_of rfl rfl rfl rfl)) (by rfl) (pa_cons (pv 0) (pa_cons (pv 2) pa_nil))) (pg_tup (by rfl) (pgs_cons (pg_name (i := 3) sc_tokens.nd rfl (.inl rfl)) (pgs_cons (pg_name (i := 4) sc_tokens.nd rfl (.inl rfl)) (pgs_cons (pg_name (i := 5) sc_tokens.nd rfl (.inl rfl)) pgs_nil)))))
      (pss_cons (ps_expr (pe_bmK K PySem.F.plainAttrs_list PySem.F.slot_list_append PySem.F.type_list_append mt_append (pv 1) (pa_cons (pe_tup (pa_cons (pv 3) (pa_cons (pv 4) (pa_cons (pv 2) pa_nil)))) pa_nil)))
      (pss_one (ps_set (i := 2) sc_tokens.nd rfl (.inl rfl) (pe_u c_behind_gap hr (by first | decide | omega) (by rfl) (pa_cons (pv 0) (pa_cons (pv 5) pa_nil))))))))
      (pss_one (ps_ret (pv 1)))))), ?_⟩
    refine ⟨Nat.zero_le _, fun D nD => ?_⟩
    refine ⟨_, rfl, l, 0, rfl, Nat.zero_le _, hl, ?_⟩
    rw [List.drop_zero]
    obtain ⟨g1, g2⟩ := suf_at (l := l) (i := 0) (Nat.zero_le _) (show skip l <:+ l.drop 0 from skip_suf _ l (Nat.le_refl _))
    refine ⟨fun k σ Hi => ∃ (o : Nat) (xs : List V) (y1 y2 y3 : Option V), σ = [some (.str ⟨l.toArray⟩), some (.ref D), some (.int (o : Nat)), y1, y2, y3] ∧ k = l.length - o ∧ o ≤ l.length ∧ Lxe l.length (l.drop o) oe ∧ xs.length + (l.length - o) ≤ l.length ∧ (∀ b x, H b = some x → Hi b = some x) ∧ Hi D = some (.lst xs), ⟨_, l.length - (skip l).length, [], none, none, none, rfl, rfl, by omega, by rw [← g1]; exact hx, by show 0 + _ ≤ _; omega, fun b x e => same_upd nD _ _ e, upd_same⟩, fun k σ Hi hW => ?_⟩
    obtain ⟨o, xs, y1, y2, y3, rfl, rfl, ho, hrest, hcount, sm, eD⟩ := hW
    refine ⟨_, rfl, _, rfl, _, rfl, zl, _, _, rfl, rfl, _, rfl, ?_⟩
    rw [S_len']
    have hlt : o < l.length := by
      refine Nat.lt_of_not_le fun z => ?_
      rw [List.drop_eq_nil_of_le z] at hrest
      cases hrest with
      | here h _ => exact h rfl
      | cons h _ => cases h
    rw [decide_eq_true (show ((o : Nat) : Int) < ((l.length : Nat) : Int) by omega)]
    refine iteT ?_
    have hdl : (l.drop o).length = l.length - o := List.length_drop
    have eo : l.length - (l.drop o).length = o := by omega
    refine ⟨fun σ H' => ∃ (o' : Nat) (xs' : List V) (z1 z2 z3 : Option V), σ = [some (.str ⟨l.toArray⟩), some (.ref D), some (.int (o' : Nat)), z1, z2, z3] ∧ o < o' ∧ o' ≤ l.length ∧ Lxe l.length (l.drop o') oe ∧ xs'.length = xs.length + 1 ∧ (∀ b x, H b = some x → H' b = some x) ∧ H' D = some (.lst xs'), fun σ H' hN => ?_, ?_⟩
    · obtain ⟨o', xs', z1, z2, z3, rfl, n1, n2, n3, n4, n5, n6⟩ := hN
      exact ⟨l.length - o', by omega, o', xs', z1, z2, z3, rfl, rfl, n2, n3, by omega, n5, n6⟩
    · refine ⟨_, rfl, _, rfl, l, o, rfl, hlt, hl, fun htok => ?_, fun kv rs htok H' p s' dp => ?_⟩
      · cases hrest with
        | here _ _ =>
          rw [eo] at fl
          exact Fl.ext sm fl
        | cons h _ =>
          rw [htok] at h
          cases h
      · have hts : Lxe l.length (skip rs) oe := by
          cases hrest with
          | here _ h =>
            rw [htok] at h
            cases h
          | cons h h2 =>
            rw [htok] at h
            cases h
            exact h2
        obtain ⟨r1, r2⟩ := suf_at (l := l) (i := o) ho (tok_suf htok)
        have hrl := tok_len htok
        obtain ⟨k1, k2⟩ := suf_at (l := l) (i := l.length - rs.length) (by omega) (show skip rs <:+ l.drop (l.length - rs.length) by rw [← r1]; exact skip_suf _ rs (Nat.le_refl _))
        cases dp with
        | @tup _ zs _ hs ha =>
          cases ha with
          | @cons v1 _ _ _ d1 ha =>
            cases ha with
            | @cons v2 _ _ _ d2 ha =>
              cases ha with
              | @cons v3 _ _ _ d3 ha =>
                cases ha
                cases d1
                cases d3
                refine ⟨p, _, rfl, hs, rfl, _, _, rfl, _, _, rfl, _, _, rfl, rfl, ?_⟩
                have eD' := s' _ _ eD
                refine ⟨_, rfl, .inl ⟨rfl, _, .of eD'⟩, _, rfl, _, rfl, _, rfl, by show 3 ≤ sizeLine; decide, fun p2 np2 => ?_⟩
                have s2 := same_upd np2 (o := .tup [.str kv.kd, v2, .int ((o : Nat) : Int)])
                have eD2 := s2 _ _ eD'
                refine ⟨D, xs, _, rfl, rfl, eD2, ?_, ?_⟩
                · exact Nat.lt_of_le_of_lt (m := 100000) (by omega) (by decide)
                · refine ⟨_, rfl, _, rfl, l, l.length - rs.length, rfl, by omega, hl, ?_⟩
                  rw [← r1]
                  refine ⟨l.length - (skip rs).length, xs ++ [.ref p2], _, _, _, rfl, by have := skip_le rs; omega, by omega, by rw [← k1]; exact hts, by rw [List.length_append]; rfl, fun b x e => ?_, upd_same⟩
                  rw [upd_ne (ne_of_none e nD)]
                  exact s2 _ _ (s' _ _ (sm _ _ e))
end

/-! ### a reader of a text that goes wrong; the law's way to the error -/
structure RdX (K : PySem.W.Frag) (C : Addr) : Prop where
  cl : Cls K C
  nS : NoAttr K C "source"
def sp_initx (CR C : Addr) : Sp := fun vs H _ E => ∃ (p dx : Addr) (l : List Nat) (o : Nat), vs = [.ref p, .str ⟨l.toArray⟩] ∧ H p = some (.ins CR dx []) ∧ l.length ≤ 100000 ∧ Lxe l.length (skip l) o ∧ ∀ d H', H d = none → Fd p H H' → H' d = some (.xd (fs3 (linOf (l.take o)) (colOf (l.take o)) "unknown character")) → E (.ref C) (some d) H'
section
variable {P : Program} {w : World} {K : PySem.W.Frag} {mg : Str → Option Value} {base : Heap} {C CR : Addr}
theorem ok_initx {f : Addr} {fd : FuncData} (F : Fun K "__init__" "Reader.__init__" s_Reader___init__ f fd) (M : Mg mg) (R : RdX K CR) (cx_tokens : ClX P w K mg base 6 "tokens" (sp_tokx C)) : FnOk P w K mg base (L2.CX P w) 7 f fd ["self", "source"] (sp_initx CR C) := by
  refine F.okX sc_Reader___init__ (fun vs H Q E h => ?_) (fun cdv A outer s H vs Q E hr h => ?_)
  · obtain ⟨p, dx, l, o, rfl, _⟩ := h
    rfl
  · obtain ⟨p, dx, l, o, rfl, hp, hl, hx, q⟩ := h
    refine ⟨_, (pss_cons (ps_fld (pv 0) (pv 1) rfl)
      (pss_cons (ps_fld (pv 0) (pe_op op_cat (pe_ux cx_tokens hr (by first | decide | omega) (E := E) (passX (takes_of rfl rfl rfl rfl)) (by rfl) (pa_cons (pv 1) pa_nil)) (pe_lst (pa_cons (pe_tup (pa_cons pe_str (pa_cons pe_str (pa_cons (pe_callB call_len_str (by rfl) M.len PySem.boot_len (pa_cons (pv 1) pa_nil)) pa_nil)))) pa_nil))) rfl)
      (pss_one (ps_fld (pv 0) pe_int rfl)))), ?_⟩
    refine ⟨_, rfl, _, rfl, p, CR, dx, [], rfl, hp, R.cl, R.nS, by show 0 < 1000; decide, ?_⟩
    have f1 : Fd p H (upd H p (.ins CR dx (putF "source" (.str ⟨l.toArray⟩) []))) := Fd.at
    refine ⟨_, rfl, l, o, rfl, hl, hx, fun d H' nd s' e => q d H' ?_ (f1.trans (Fd.of s')) e⟩
    have ndp : d ≠ p := fun z => by
      rw [z, upd_same] at nd
      cases nd
    rw [upd_ne ndp] at nd
    exact nd
def sp_psx (C : Addr) : Sp := fun vs H _ E => ∃ (l : List Nat) (o : Nat), vs = [.str ⟨l.toArray⟩] ∧ l.length ≤ 100000 ∧ Lxe l.length (skip l) o ∧ Fl C l o E H
theorem ok_psx {f : Addr} {fd : FuncData} (F : Fun K "parse_source" "parse_source" s_parse_source f fd) (M : Mg mg) (cx_Reader___init__ : ClCX P w K mg base 7 "Reader" CR (sp_initx CR C)) : FnOk P w K mg base (L2.CX P w) 9 f fd ["source"] (sp_psx C) := by
  refine F.okX sc_parse_source (fun vs H Q E h => ?_) (fun cdv A outer s H vs Q E hr h => ?_)
  · obtain ⟨l, o, rfl, _⟩ := h
    rfl
  · obtain ⟨l, o, rfl, hl, hx, fl⟩ := h
    refine ⟨_, (pss_cons (ps_set (i := 1) sc_parse_source.nd rfl (.inl rfl) (pe_mkx cx_Reader___init__ hr (by first | decide | omega) (E := E) (passX (takes_of rfl rfl rfl rfl)) (by rfl) (pa_cons (pv 0) pa_nil)))
      pss_never), ?_⟩
    refine ⟨_, rfl, fun p dx np nd hdp => ?_⟩
    have s0 : Same H (upd (upd H dx (.own p)) p (.ins CR dx [])) := (same_upd nd).trans (same_upd (by rw [upd_ne hdp.symm]; exact np))
    refine ⟨p, dx, l, o, rfl, upd_same, hl, hx, fun d H' nd' f' e => fl d H' ?_ (fun b x hb => f' b x (ne_of_none hb np) (s0 _ _ hb)) e⟩
    cases z : H d with
    | none => rfl
    | some y => rw [s0 _ _ z] at nd'; cases nd'
def sp_lerr (C : Addr) : Sp := fun vs H Q _ => ∃ (l : List Nat) (o : Nat) (b : Bool), vs = [.str ⟨l.toArray⟩, .bl b] ∧ l.length ≤ 100000 ∧ Lxe l.length (skip l) o ∧ ∀ H' p, Same H H' → H' p = some (.tup [.int (linOf (l.take o)), .int (colOf (l.take o)), .str "unknown character"]) → Q (.ref p) H'
theorem ok_lerr {f : Addr} {fd : FuncData} (F : Fun K "_law_error" "_law_error" s__law_error f fd) (M : Mg mg) (SE : SrcE P w K mg base C) (xf : XfC K C) (n1 : PySem.W.findIn K (.ref C) "line" = some none) (n2 : PySem.W.findIn K (.ref C) "column" = some none) (n3 : PySem.W.findIn K (.ref C) "message" = some none) (te : PySem.W.exmOne K (.ref C) (.ref C) = some true)
    (cx_tokens : ClX P w K mg base 6 "tokens" (sp_tokx C)) (cx_parse_source : ClX P w K mg base 9 "parse_source" (sp_psx C)) : FnOk P w K mg base CX0 10 f fd ["script", "first"] (sp_lerr C) := by
  obtain ⟨f1, fd1, ps1, F1, hm1, kp1, b1⟩ := cx_tokens.ex
  obtain ⟨f2, fd2, ps2, F2, hm2, kp2, b2⟩ := cx_parse_source.ex
  refine F.ok sc__law_error (fun vs H Q E h => ?_) (fun cdv A outer s H vs Q E hr h => ?_)
  · obtain ⟨l, o, b, rfl, _⟩ := h
    rfl
  · obtain ⟨l, o, b, rfl, hl, hx, q⟩ := h
    have hr1 := hr.mono (by decide : 6 ≤ 9)
    refine ⟨_, pss_cons (ps_try_as (i := 2) (Wout := fun _ _ _ _ => False) (c := .ref C) rfl rfl sc__law_error.nd rfl rfl ⟨rfl, by decide, Or.inl SE.nm⟩ takes0
      (fun W pn xe tk _ => pss_one (ps_if (pt_val (pv 1)) (pss_one (ps_expr (pe_callS F1 hr1 rfl hm1 kp1 b1 (fun σ => passAt tk σ) (by exact (pa_cons (pv 0) pa_nil))))) (pss_one (ps_expr (pe_callS F2 hr rfl hm2 kp2 b2 (fun σ => passAt tk σ) (by exact (pa_cons (pv 0) pa_nil)))))))
      (fun a oe cls d pn hz hf => pss_one (ps_ret (pe_tup (pa_cons (pe_xf xf n1 hz hf (pv 2)) (pa_cons (pe_xf xf n2 hz hf (pv 2)) (pa_cons (pe_xf xf n3 hz hf (pv 2)) pa_nil))))))) pss_never, ?_⟩
    refine ⟨_, rfl, b, rfl, ite2 (fun _ => ⟨_, rfl, l, o, rfl, hl, hx, fun d H' nd s' e => ?_⟩) (fun _ => ⟨_, rfl, l, o, rfl, hl, hx, fun d H' nd s' e => ?_⟩)⟩
    all_goals
      refine ⟨true, te, fun _ a0 _ => ?_, fun q => Bool.noConfusion q⟩
      exact ⟨_, rfl, rfl, rfl, d, _, _, rfl, e, rfl, _, rfl, rfl, rfl, d, _, _, rfl, e, rfl, _, rfl, rfl, rfl, d, _, _, rfl, e, rfl, by show 3 ≤ sizeLine; decide, fun p np => q _ p (s'.trans (same_upd np)) upd_same⟩
end

theorem dbl_len : ∀ l : List Nat, (dbl l).length ≤ 2 * l.length
  | [] => Nat.le_refl _
  | c :: r => by
    have := dbl_len r
    unfold dbl
    split
    · simp only [List.length_cons]; omega
    · simp only [List.length_cons]; omega

/-! ### names, reserved words, the signs of texts -/
def RESs : List String := ["table", "step", "int", "text", "truth", "from", "as", "left", "semi", "anti", "join", "on", "where", "group", "with", "select", "union", "except", "intersect", "count", "distinct", "sum", "min", "max", "or", "and", "not", "div", "mod", "null", "true", "false", "length", "missing", "starts", "coalesce", "if"]
def RES : List Str := RESs.map Str.ofString
def NameOk (l : List Nat) : Prop := ∃ c r, l = c :: r ∧ c ∈ LET ∧ (∀ x ∈ r, x ∈ LET ++ DIG) ∧ l.length ≤ 20
/-- a name: no reserved word -/
def NmOk (l : List Nat) : Prop := NameOk l ∧ (⟨l.toArray⟩ : Str) ∉ RES
theorem name_len {l : List Nat} (h : NmOk l) : l.length ≤ 21 := by
  obtain ⟨⟨_, _, _, _, _, h⟩, _⟩ := h
  omega
def CHS : List Nat := (Str.ofString "'abcdefghijklmnopqrstuvwxyz ABCDEFGHIJKLMNOPQRSTUVWXYZ0123456789!\"#$&()*+,-./:;<=>?@\x5b\\]^_`{|}~\t").cps.toList
theorem CHS_low : ∀ c ∈ CHS, c < 1114112 := by decide +kernel

theorem CHS_nl : ∀ c ∈ CHS, c ≠ 10 := by decide +kernel
/-! ### a written token, a gap behind it -/
def GapHd (g : List Nat) : Prop := ∀ c r, g = c :: r → c ∉ LET ++ DIG ∧ c ≠ 39 ∧ c ≠ 61
/-- written so, whatever gap is behind it -/
def TokOk (kv : Kv) (wr : List Nat) : Prop := (∃ c r, wr = c :: r ∧ isBl c = false ∧ c ≠ 35) ∧ wr.length ≤ 210 ∧ ∀ g, GapHd g → tok (wr ++ g) = some (kv, g)
theorem run_app (m wr g : List Nat) (h : ∀ x ∈ wr, x ∈ m) (hg : ∀ c r, g = c :: r → c ∉ m) : runOf m (wr ++ g) = wr := by
  induction wr with
  | nil =>
    cases g with
    | nil => rfl
    | cons c r =>
      have hc := hg c r rfl
      unfold runOf
      rw [List.nil_append, List.takeWhile_cons_of_neg (by simpa using hc)]
  | cons x wr ih =>
    have ih := ih fun y hy => h y (List.mem_cons_of_mem _ hy)
    unfold runOf at ih ⊢
    rw [List.cons_append, List.takeWhile_cons_of_pos (by simpa using h x (List.mem_cons_self ..)), ih]
theorem LET_bl : ∀ c ∈ LET, isBl c = false ∧ c ≠ 35 := by decide +kernel
theorem DIG_bl : ∀ c ∈ DIG, isBl c = false ∧ c ≠ 35 := by decide +kernel
theorem DIG_LET : ∀ c ∈ DIG, c ∉ LET := by decide +kernel
theorem tok_name {l : List Nat} (h : NameOk l) : TokOk (.word l) l := by
  obtain ⟨c, r, rfl, hc, hr, hl⟩ := h
  refine ⟨⟨c, r, rfl, LET_bl c hc⟩, by omega, fun g hg => ?_⟩
  have e : runOf (LET ++ DIG) ((c :: r) ++ g) = c :: r := run_app _ _ _ (fun z hz => by
    rcases List.mem_cons.mp hz with rfl | hz
    · exact List.mem_append_left _ hc
    · exact hr z hz) fun x y e => (hg x y e).1
  show tokC c (r ++ g) = _
  unfold tokC
  rw [← List.cons_append, e, if_pos hc, if_pos hl, List.drop_left]
theorem tok_num {l : List Nat} {n : Nat} (h0 : l ≠ []) (h : ∀ x ∈ l, x ∈ DIG) (hl : l.length ≤ 15) (hn : NumText.digitsVal l = n) : TokOk (.num n) l := by
  obtain ⟨c, r, rfl⟩ : ∃ c r, l = c :: r := by
    cases l with
    | nil => exact absurd rfl h0
    | cons c r => exact ⟨c, r, rfl⟩
  have hc := h c (List.mem_cons_self ..)
  refine ⟨⟨c, r, rfl, DIG_bl c hc⟩, by omega, fun g hg => ?_⟩
  have e : runOf DIG ((c :: r) ++ g) = c :: r := run_app _ _ _ h fun x y e z => (hg x y e).1 (List.mem_append_right _ z)
  show tokC c (r ++ g) = _
  unfold tokC
  rw [← List.cons_append, e, if_neg (DIG_LET c hc), if_pos hc, if_pos hl, List.drop_left, hn]
theorem te_app : ∀ (v g : List Nat), (∀ x ∈ v, x ≠ 10) → (∀ c r, g = c :: r → c ≠ 39) → te (dbl v ++ (39 :: g)) = some g
  | [], g, _, hg => by
    show te (39 :: g) = _
    unfold te
    rw [if_neg (by decide), if_pos rfl]
    split
    · exact absurd rfl (hg 39 _ rfl)
    · rfl
  | x :: v, g, h, hg => by
    have ih := te_app v g (fun y hy => h y (List.mem_cons_of_mem _ hy)) hg
    have hx := h x (List.mem_cons_self ..)
    unfold dbl
    by_cases h39 : x = 39
    · rw [if_pos h39]
      show te (39 :: 39 :: (dbl v ++ 39 :: g)) = _
      unfold te
      rw [if_neg (by decide), if_pos rfl]
      exact ih
    · rw [if_neg h39]
      show te (x :: (dbl v ++ 39 :: g)) = _
      unfold te
      rw [if_neg hx, if_neg h39]
      exact ih
theorem tok_text {v : List Nat} (h : ∀ x ∈ v, x ∈ CHS) (hl : v.length ≤ 100) : TokOk (.text v) (39 :: (dbl v ++ [39])) := by
  have hd := dbl_len v
  refine ⟨⟨39, _, rfl, rfl, by decide⟩, by simp only [List.length_cons, List.length_append, List.length_nil]; omega, fun g hg => ?_⟩
  have et : te (dbl v ++ (39 :: g)) = some g := te_app v g (fun z hz => CHS_nl z (h z hz)) fun x y e => (hg x y e).2.1
  have e0 : 39 :: (dbl v ++ [39]) ++ g = 39 :: (dbl v ++ (39 :: g)) := by simp
  rw [e0]
  show tokC 39 (dbl v ++ (39 :: g)) = _
  unfold tokC
  rw [if_neg (by decide +kernel), if_neg (by decide +kernel), if_pos rfl, et]
  have er : (dbl v ++ (39 :: g)).take ((dbl v ++ (39 :: g)).length - g.length - 1) = dbl v := by
    have : (dbl v ++ (39 :: g)).length - g.length - 1 = (dbl v).length := by
      simp only [List.length_append, List.length_cons]
      omega
    rw [this, List.take_left]
  dsimp only
  rw [er, und_dbl', if_pos hl]
theorem tok_sign {g : List Nat} (h : g ∈ SGN) : TokOk (.sign g) g := by
  have hh : (∃ c r, g = c :: r ∧ isBl c = false ∧ c ≠ 35 ∧ c ∉ LET ∧ c ∉ DIG ∧ c ≠ 39) ∧ g.length ≤ 2 := by
    revert g
    have : ∀ g ∈ SGN, (match g with | [] => false | c :: r => !isBl c && decide (c ≠ 35) && decide (c ∉ LET) && decide (c ∉ DIG) && decide (c ≠ 39)) = true ∧ g.length ≤ 2 := by decide +kernel
    intro g hg
    obtain ⟨h1, h2⟩ := this g hg
    cases g with
    | nil => cases h1
    | cons c r =>
      simp only [Bool.and_eq_true, Bool.not_eq_true', decide_eq_true_eq] at h1
      exact ⟨⟨c, r, rfl, h1.1.1.1.1, h1.1.1.1.2, h1.1.1.2, h1.1.2, h1.2⟩, h2⟩
  obtain ⟨⟨c, r, rfl, b1, b2, b3, b4, b5⟩, hl⟩ := hh
  refine ⟨⟨c, r, rfl, b1, b2⟩, by omega, fun k hk => ?_⟩
  show tokC c (r ++ k) = _
  unfold tokC
  rw [if_neg b3, if_neg b4, if_neg b5, ← List.cons_append]
  have e : SGN.find? (fun g => g.isPrefixOf ((c :: r) ++ k)) = some (c :: r) := by
    generalize hg : c :: r = g at h
    clear hg b1 b2 b3 b4 b5 hl
    simp only [SGN, List.mem_cons, List.not_mem_nil, or_false] at h
    cases k with
    | nil => rcases h with rfl | rfl | rfl | rfl | rfl | rfl | rfl | rfl | rfl | rfl | rfl | rfl | rfl | rfl <;> decide
    | cons x y =>
      have hx := (hk x y rfl).2.2
      have hx' : (61 == x) = false := by simpa using fun z : 61 = x => hx z.symm
      rcases h with rfl | rfl | rfl | rfl | rfl | rfl | rfl | rfl | rfl | rfl | rfl | rfl | rfl | rfl <;> simp [SGN, List.isPrefixOf, hx']
  rw [e]
  dsimp only
  rw [List.drop_left]
theorem res_name : ∀ x ∈ RES, NameOk x.cps.toList := by
  have : ∀ x ∈ RES, (match x.cps.toList with | [] => false | c :: r => decide (c ∈ LET) && r.all (fun y => decide (y ∈ LET ++ DIG)) && decide ((c :: r).length ≤ 20)) = true := by decide +kernel
  intro x hx
  have h := this x hx
  cases e : x.cps.toList with
  | nil => rw [e] at h; cases h
  | cons c r =>
    rw [e] at h
    simp only [Bool.and_eq_true, decide_eq_true_eq, List.all_eq_true] at h
    exact ⟨c, r, rfl, h.1.1, h.1.2, h.2⟩
theorem num_dig (n : Nat) : ∀ x ∈ TL.numL n, x ∈ DIG := fun x hx => by
  have h := TL.numL_digits n x hx
  have : ∀ k, k < 10 → (48 + k) ∈ DIG := by decide +kernel
  have h2 := this (x - 48) (by omega)
  rwa [show 48 + (x - 48) = x by omega] at h2
def kvV : Kv → V
  | .word l => .str ⟨l.toArray⟩
  | .num n => .int n
  | .text l => .str ⟨l.toArray⟩
  | .sign l => .str ⟨l.toArray⟩
theorem val_dp {K : PySem.W.Frag} {H : Hp} (kv : Kv) : Dp K H (kvV kv) kv.val := by
  cases kv with
  | word l => exact .str _
  | num n => exact .int _
  | text l => exact .str _
  | sign l => exact .str _

/-! ### texts that go wrong at a place -/
def cd (s : String) : List Nat := (Str.ofString s).cps.toList
theorem cd_S (s : String) : Str.ofString s = ⟨(cd s).toArray⟩ := (SX.S_tl _).symm
def PT : List (List Nat) := [cd "table", cd "t (", cd "a", cd "12", cd "'it''s'", cd "<=", cd "\n", cd "# remark\n", cd ";", cd "step", cd ", "]
theorem gap32 (s : List Nat) : GapHd (32 :: s) := fun c r e => by
  cases e
  exact ⟨by decide +kernel, by decide, by decide⟩
theorem skip32 (s : List Nat) : skip (32 :: s) = skip s := by rw [skip_cons, if_pos (by decide)]
theorem tk1 {n o : Nat} {kv : Kv} {wr s : List Nat} (h : TokOk kv wr) (g : Lxe n (skip s) o) : Lxe n (skip (wr ++ 32 :: s)) o := by
  obtain ⟨⟨c, r, rfl, hb, h35⟩, _, ht⟩ := h
  have e : skip ((c :: r) ++ 32 :: s) = (c :: r) ++ 32 :: s := by
    rw [List.cons_append, skip_cons, if_neg (by rw [hb]; exact Bool.false_ne_true), if_neg h35]
  rw [e]
  refine .cons (ht _ (gap32 s)) ?_
  rw [skip32]
  exact g
theorem nameB {l : List Nat} (h : (match l with | [] => false | c :: r => decide (c ∈ LET) && r.all (fun x => decide (x ∈ LET ++ DIG)) && decide ((c :: r).length ≤ 20)) = true) : NameOk l := by
  cases l with
  | nil => cases h
  | cons c r =>
    simp only [Bool.and_eq_true, decide_eq_true_eq, List.all_eq_true] at h
    exact ⟨c, r, rfl, h.1.1, h.1.2, h.2⟩
theorem step1 {n o : Nat} {s : List Nat} (g : Lxe n (skip s) o) : ∀ p ∈ PT, Lxe n (skip (p ++ 32 :: s)) o := by
  intro p hp
  simp only [PT, List.mem_cons, List.not_mem_nil, or_false] at hp
  rcases hp with rfl | rfl | rfl | rfl | rfl | rfl | rfl | rfl | rfl | rfl | rfl
  · exact tk1 (tok_name (nameB (by decide +kernel))) g
  · exact tk1 (wr := [116]) (s := [40] ++ 32 :: s) (tok_name (nameB (by decide +kernel))) (tk1 (tok_sign (by decide)) g)
  · exact tk1 (tok_name (nameB (by decide +kernel))) g
  · exact tk1 (tok_num (n := 12) (by decide +kernel) (by decide +kernel) (by decide +kernel) (by decide +kernel)) g
  · exact tk1 (wr := 39 :: (dbl (cd "it's") ++ [39])) (tok_text (v := cd "it's") (by decide +kernel) (by decide +kernel)) g
  · exact tk1 (tok_sign (g := [60, 61]) (by decide)) g
  · show Lxe n (skip (10 :: 32 :: s)) o
    rw [skip_cons, if_pos (by decide), skip32]
    exact g
  · show Lxe n (skip (35 :: ([32, 114, 101, 109, 97, 114, 107, 10] ++ 32 :: s))) o
    rw [skip_cons, if_neg (by decide), if_pos rfl]
    show Lxe n (skip (10 :: 32 :: s)) o
    rw [skip_cons, if_pos (by decide), skip32]
    exact g
  · exact tk1 (tok_sign (g := [59]) (by decide)) g
  · exact tk1 (tok_name (nameB (by decide +kernel))) g
  · exact tk1 (wr := [44]) (s := 32 :: s) (tok_sign (by decide)) (by rw [skip32]; exact g)
/-- the chosen parts, a blank behind each -/
inductive Pts : List Nat → Nat → Prop
  | nil : Pts [] 0
  | snoc {l p : List Nat} {k : Nat} : Pts l k → p ∈ PT → Pts (l ++ (p ++ [32])) (k + 1)
theorem Pts.lx {l : List Nat} {k : Nat} (h : Pts l k) : ∀ {n o : Nat} {s : List Nat}, Lxe n (skip s) o → Lxe n (skip (l ++ s)) o := by
  induction h with
  | nil => exact fun g => g
  | snoc _ hp ih =>
    intro n o s g
    rw [List.append_assoc, List.append_assoc]
    exact ih (step1 g _ hp)
theorem PT_len : ∀ p ∈ PT, p.length ≤ 9 := by decide +kernel
theorem Pts.len {l : List Nat} {k : Nat} (h : Pts l k) : l.length ≤ 10 * k := by
  induction h with
  | nil => exact Nat.le_refl _
  | snoc _ hp ih =>
    have := PT_len _ hp
    rw [List.length_append, List.length_append, List.length_singleton]
    omega
/-- what begins no token, whatever blank is behind it (z: nothing may be behind it) -/
structure Bad (z : Bool) (f : List Nat) : Prop where
  hd : ∃ c r, f = c :: r ∧ isBl c = false ∧ c ≠ 35
  no : ∀ g, (if z = true then g = [] else g = [] ∨ ∃ s, g = 32 :: s) → tok (f ++ g) = none
  len : f.length ≤ 200
theorem Bad.lx {z : Bool} {f g l : List Nat} {k : Nat} (h : Bad z f) (hg : if z = true then g = [] else g = [] ∨ ∃ s, g = 32 :: s) (hp : Pts l k) : Lxe (l ++ (f ++ g)).length (skip (l ++ (f ++ g))) l.length := by
  refine hp.lx ?_
  have hn := h.no g hg
  obtain ⟨c, r, rfl, hb, h35⟩ := h.hd
  rw [List.cons_append, skip_cons, if_neg (by rw [hb]; exact Bool.false_ne_true), if_neg h35]
  have e : l.length = (l ++ ((c :: r) ++ g)).length - ((c :: r) ++ g).length := by
    rw [List.length_append]
    omega
  have hl := Lxe.here (n := (l ++ ((c :: r) ++ g)).length) (s := c :: (r ++ g)) (by simp) hn
  have e2 : (c :: (r ++ g)).length = ((c :: r) ++ g).length := rfl
  rw [e2, ← e] at hl
  exact hl
theorem bad_word {l : List Nat} (h : ∀ x ∈ l, x ∈ LET) (h1 : 20 < l.length) (h2 : l.length ≤ 200) : Bad false l := by
  cases l with
  | nil => exact absurd h1 (by decide)
  | cons c r =>
    have hc := h c List.mem_cons_self
    refine ⟨⟨c, r, rfl, LET_bl c hc⟩, fun g hg => ?_, h2⟩
    have hg : g = [] ∨ ∃ s, g = 32 :: s := hg
    have e : runOf (LET ++ DIG) ((c :: r) ++ g) = c :: r := run_app _ _ _ (fun z hz => List.mem_append_left _ (h z hz)) fun x y e => by
      rcases hg with rfl | ⟨s, rfl⟩
      · cases e
      · cases e
        decide +kernel
    show tokC c (r ++ g) = _
    unfold tokC
    rw [← List.cons_append, e, if_pos hc, if_neg (by omega)]
theorem bad_num {l : List Nat} (h : ∀ x ∈ l, x ∈ DIG) (h1 : 15 < l.length) (h2 : l.length ≤ 200) : Bad false l := by
  cases l with
  | nil => exact absurd h1 (by decide)
  | cons c r =>
    have hc := h c List.mem_cons_self
    refine ⟨⟨c, r, rfl, DIG_bl c hc⟩, fun g hg => ?_, h2⟩
    have hg : g = [] ∨ ∃ s, g = 32 :: s := hg
    have e : runOf DIG ((c :: r) ++ g) = c :: r := run_app _ _ _ h fun x y e => by
      rcases hg with rfl | ⟨s, rfl⟩
      · cases e
      · cases e
        decide +kernel
    show tokC c (r ++ g) = _
    unfold tokC
    rw [← List.cons_append, e, if_neg (DIG_LET c hc), if_pos hc, if_neg (by omega)]
theorem dbl_x : ∀ m : Nat, dbl (List.replicate m 120) = List.replicate m 120
  | 0 => rfl
  | m + 1 => by
    rw [List.replicate_succ]
    unfold dbl
    rw [if_neg (by decide), dbl_x m]
theorem bad_text {m : Nat} (h1 : 100 < m) (h2 : m ≤ 190) : Bad false (39 :: (List.replicate m 120 ++ [39])) := by
  refine ⟨⟨39, _, rfl, rfl, by decide⟩, fun g hg => ?_, by simp only [List.length_cons, List.length_append, List.length_nil, List.length_replicate]; omega⟩
  have hg : g = [] ∨ ∃ s, g = 32 :: s := hg
  have et : te (dbl (List.replicate m 120) ++ (39 :: g)) = some g := te_app (List.replicate m 120) g (fun z hz => by rw [(List.mem_replicate.mp hz).2]; decide) fun x y e => by
    rcases hg with rfl | ⟨s, rfl⟩
    · cases e
    · cases e
      decide
  have e0 : 39 :: (List.replicate m 120 ++ [39]) ++ g = 39 :: (dbl (List.replicate m 120) ++ (39 :: g)) := by rw [dbl_x]; simp
  rw [e0]
  show tokC 39 (dbl (List.replicate m 120) ++ (39 :: g)) = _
  unfold tokC
  rw [if_neg (by decide +kernel), if_neg (by decide +kernel), if_pos rfl, et]
  have er : (dbl (List.replicate m 120) ++ (39 :: g)).take ((dbl (List.replicate m 120) ++ (39 :: g)).length - g.length - 1) = dbl (List.replicate m 120) := by
    have : (dbl (List.replicate m 120) ++ (39 :: g)).length - g.length - 1 = (dbl (List.replicate m 120)).length := by
      simp only [List.length_append, List.length_cons]
      omega
    rw [this, List.take_left]
  dsimp only
  rw [er, und_dbl', if_neg (by rw [List.length_replicate]; omega)]
theorem bad_open : Bad true (cd "'not closed") := ⟨⟨39, _, rfl, rfl, by decide⟩, fun g hg => by
  have hg : g = [] := hg
  subst hg
  show tokC 39 [110, 111, 116, 32, 99, 108, 111, 115, 101, 100] = none
  unfold tokC
  rw [if_neg (by decide +kernel), if_neg (by decide +kernel), if_pos rfl]
  simp [te], by decide +kernel⟩
theorem bad_line : Bad false (cd "'not\nclosed'") := ⟨⟨39, _, rfl, rfl, by decide⟩, fun g hg => by
  show tokC 39 (110 :: 111 :: 116 :: 10 :: ([99, 108, 111, 115, 101, 100, 39] ++ g)) = none
  unfold tokC
  rw [if_neg (by decide +kernel), if_neg (by decide +kernel), if_pos rfl]
  simp [te], by decide +kernel⟩
def STR : List Nat := [36, 38, 33, 47, 64, 91, 126, 34, 96, 63, 58]
theorem bad_sign : ∀ c ∈ STR, Bad false [c, 32, 98] := by
  intro c hc
  simp only [STR, List.mem_cons, List.not_mem_nil, or_false] at hc
  rcases hc with rfl | rfl | rfl | rfl | rfl | rfl | rfl | rfl | rfl | rfl | rfl
  all_goals
    refine ⟨⟨_, _, rfl, by decide, by decide⟩, fun g _ => ?_, by decide⟩
    show tokC _ (32 :: 98 :: g) = none
    unfold tokC
    rw [if_neg (by decide +kernel), if_neg (by decide +kernel), if_neg (by decide)]
    rfl

/-- a text times a number -/
def rRepS : R2 := fun x y H Q => ∃ (z : Str) (k : Int), x = .str z ∧ y = .int k ∧ MulOk z k ∧ Q (.str (Txt.mul z k)) H
theorem op_repS {X : Cx} : OpR X (binaryOp .Mult) rRepS := by
  intro pins s σ H x y v u Q I rx ry h
  obtain ⟨z, k, rfl, rfl, ok, q⟩ := h
  obtain ⟨t, rfl⟩ := rx
  obtain ⟨t', rfl⟩ := ry
  exact SB.mul ok fun t2 k2 => ⟨.str _, H, I.tok _, ⟨_, rfl⟩, q⟩
def sp_fault : Sp := fun vs H Q _ => ∃ (d c : Addr), vs = [.ref d] ∧ Dr H d c ∧ ∀ H' (f i : List Nat) (x : Nat), Fd d H H' → Dr H' d c → Bad (decide (x = 100)) f → f = i ++ [x] → Q (.str ⟨f.toArray⟩) H'
section
variable {P : Program} {w : World} {K : PySem.W.Frag} {mg : Str → Option Value} {base : Heap} {C : Addr}
theorem ok_fault {f : Addr} {fd : FuncData} (F : Fun K "_law_fault" "_law_fault" s__law_fault f fd) (M : Mg mg) (c__law_next : Cl P w K mg base 1 "_law_next" sp_next) : FnOk P w K mg base CX0 2 f fd ["draw"] sp_fault := by
  refine F.ok sc__law_fault (fun vs H Q E h => ?_) (fun cdv A outer s H vs Q E hr h => ?_)
  · obtain ⟨d, c, rfl, _⟩ := h
    rfl
  · obtain ⟨d, c, rfl, dr, q⟩ := h
    refine ⟨_, (pss_cons (ps_set (i := 1) sc__law_fault.nd rfl (.inl rfl) (pe_u c__law_next hr (by first | decide | omega) (by rfl) (pa_cons (pv 0) (pa_cons pe_int pa_nil))))
      (pss_cons (ps_if (pt_cmpR op_eq (pv 1) pe_int (nomark _)) (pss_one (ps_ret (pe_op op_add_str (pe_ix (ix_listK K) (pe_lst (pa_cons pe_str (pa_cons pe_str (pa_cons pe_str (pa_cons pe_str (pa_cons pe_str (pa_cons pe_str (pa_cons pe_str (pa_cons pe_str (pa_cons pe_str (pa_cons pe_str (pa_cons pe_str pa_nil)))))))))))) (pe_u c__law_next hr (by first | decide | omega) (by rfl) (pa_cons (pv 0) (pa_cons pe_int pa_nil))) (fun _ _ => rfl)) pe_str))) pss_nil)
      (pss_cons (ps_if (pt_cmpR op_eq (pv 1) pe_int (nomark _)) (pss_one (ps_ret (pe_op op_add_str (pe_op op_repS pe_str pe_int) (pe_slice sl_str pe_str po_none (po_some (pe_op op_add pe_int (pe_u c__law_next hr (by first | decide | omega) (by rfl) (pa_cons (pv 0) (pa_cons pe_int pa_nil))))))))) pss_nil)
      (pss_cons (ps_if (pt_cmpR op_eq (pv 1) pe_int (nomark _)) (pss_one (ps_ret (pe_op op_add_str pe_str (pe_op op_repS pe_str (pe_u c__law_next hr (by first | decide | omega) (by rfl) (pa_cons (pv 0) (pa_cons pe_int pa_nil))))))) pss_nil)
      (pss_cons (ps_if (pt_cmpR op_eq (pv 1) pe_int (nomark _)) (pss_one (ps_ret (pe_op op_add_str (pe_op op_add_str pe_str (pe_op op_repS pe_str (pe_op op_add pe_int (pe_u c__law_next hr (by first | decide | omega) (by rfl) (pa_cons (pv 0) (pa_cons pe_int pa_nil)))))) pe_str))) pss_nil)
      (pss_cons (ps_if (pt_cmpR op_eq (pv 1) pe_int (nomark _)) (pss_one (ps_ret pe_str)) pss_nil)
      (pss_one (ps_ret pe_str)))))))), ?_⟩
    refine ⟨_, rfl, d, c, 6, rfl, dr, by decide, by decide, fun H1 r f1 _ dr1 r0 r1 => ?_⟩
    refine ⟨_, rfl, rfl, _, rfl, ite2 (fun _ => ?_) (fun _ => ?_)⟩
    · refine ⟨by show 11 ≤ sizeLine; decide, fun D nD => ⟨_, rfl, d, c, 11, rfl, dr1.ext (same_upd nD), by decide, by decide, fun H2 r2 f2 _ dr2 r20 r21 => ?_⟩⟩
      have eD2 := f2 _ _ (dr1.nd nD) (upd_same (H := H1) (a := D))
      obtain ⟨k, rfl⟩ := Int.eq_ofNat_of_zero_le r20
      have fin : ∀ x ∈ STR, Q (.str ⟨[x, 32, 98].toArray⟩) H2 := fun x hx => q H2 _ [x, 32] 98 ((f1.trans (Fd.new nD)).trans f2) dr2 (bad_sign x hx) rfl
      have hk : k = 0 ∨ k = 1 ∨ k = 2 ∨ k = 3 ∨ k = 4 ∨ k = 5 ∨ k = 6 ∨ k = 7 ∨ k = 8 ∨ k = 9 ∨ k = 10 := by omega
      rcases hk with rfl | rfl | rfl | rfl | rfl | rfl | rfl | rfl | rfl | rfl | rfl
      · exact ⟨D, _, _, _, rfl, rfl, .of eD2, atI_nat (j := 0) rfl, _, _, rfl, rfl, by decide +kernel, fin 36 (by decide)⟩
      · exact ⟨D, _, _, _, rfl, rfl, .of eD2, atI_nat (j := 1) rfl, _, _, rfl, rfl, by decide +kernel, fin 38 (by decide)⟩
      · exact ⟨D, _, _, _, rfl, rfl, .of eD2, atI_nat (j := 2) rfl, _, _, rfl, rfl, by decide +kernel, fin 33 (by decide)⟩
      · exact ⟨D, _, _, _, rfl, rfl, .of eD2, atI_nat (j := 3) rfl, _, _, rfl, rfl, by decide +kernel, fin 47 (by decide)⟩
      · exact ⟨D, _, _, _, rfl, rfl, .of eD2, atI_nat (j := 4) rfl, _, _, rfl, rfl, by decide +kernel, fin 64 (by decide)⟩
      · exact ⟨D, _, _, _, rfl, rfl, .of eD2, atI_nat (j := 5) rfl, _, _, rfl, rfl, by decide +kernel, fin 91 (by decide)⟩
      · exact ⟨D, _, _, _, rfl, rfl, .of eD2, atI_nat (j := 6) rfl, _, _, rfl, rfl, by decide +kernel, fin 126 (by decide)⟩
      · exact ⟨D, _, _, _, rfl, rfl, .of eD2, atI_nat (j := 7) rfl, _, _, rfl, rfl, by decide +kernel, fin 34 (by decide)⟩
      · exact ⟨D, _, _, _, rfl, rfl, .of eD2, atI_nat (j := 8) rfl, _, _, rfl, rfl, by decide +kernel, fin 96 (by decide)⟩
      · exact ⟨D, _, _, _, rfl, rfl, .of eD2, atI_nat (j := 9) rfl, _, _, rfl, rfl, by decide +kernel, fin 63 (by decide)⟩
      · exact ⟨D, _, _, _, rfl, rfl, .of eD2, atI_nat (j := 10) rfl, _, _, rfl, rfl, by decide +kernel, fin 58 (by decide)⟩
    refine ⟨_, rfl, rfl, _, rfl, ite2 (fun _ => ?_) (fun _ => ?_)⟩
    · have hk : ∀ r2 : Int, 0 ≤ r2 → r2 < 3 → r2 = 0 ∨ r2 = 1 ∨ r2 = 2 := fun r2 _ _ => by omega
      refine ⟨_, _, rfl, rfl, ⟨by decide +kernel, by decide +kernel, by decide +kernel⟩, _, rfl, d, c, 3, rfl, dr1, by decide, by decide, fun H2 r2 f2 _ dr2 r20 r21 => ?_⟩
      rcases hk r2 r20 r21 with rfl | rfl | rfl
      · exact ⟨_, _, rfl, rfl, _, rfl, _, rfl, by decide +kernel, _, _, rfl, rfl, by decide +kernel, q H2 (cd "abcdefghijabcdefghija") (cd "abcdefghijabcdefghij") 97 (f1.trans f2) dr2 (bad_word (by decide +kernel) (by decide +kernel) (by decide +kernel)) (by decide +kernel)⟩
      · exact ⟨_, _, rfl, rfl, _, rfl, _, rfl, by decide +kernel, _, _, rfl, rfl, by decide +kernel, q H2 (cd "abcdefghijabcdefghijab") (cd "abcdefghijabcdefghija") 98 (f1.trans f2) dr2 (bad_word (by decide +kernel) (by decide +kernel) (by decide +kernel)) (by decide +kernel)⟩
      · exact ⟨_, _, rfl, rfl, _, rfl, _, rfl, by decide +kernel, _, _, rfl, rfl, by decide +kernel, q H2 (cd "abcdefghijabcdefghijabc") (cd "abcdefghijabcdefghijab") 99 (f1.trans f2) dr2 (bad_word (by decide +kernel) (by decide +kernel) (by decide +kernel)) (by decide +kernel)⟩
    refine ⟨_, rfl, rfl, _, rfl, ite2 (fun _ => ?_) (fun _ => ?_)⟩
    · refine ⟨_, rfl, d, c, 4, rfl, dr1, by decide, by decide, fun H2 r2 f2 _ dr2 r20 r21 => ?_⟩
      have hk : r2 = 0 ∨ r2 = 1 ∨ r2 = 2 ∨ r2 = 3 := by omega
      rcases hk with rfl | rfl | rfl | rfl
      · exact ⟨_, _, rfl, rfl, ⟨by decide +kernel, by decide +kernel, by decide +kernel⟩, _, _, rfl, rfl, by decide +kernel, q H2 (cd "1234567890123456") (cd "123456789012345") 54 (f1.trans f2) dr2 (bad_num (by decide +kernel) (by decide +kernel) (by decide +kernel)) (by decide +kernel)⟩
      · exact ⟨_, _, rfl, rfl, ⟨by decide +kernel, by decide +kernel, by decide +kernel⟩, _, _, rfl, rfl, by decide +kernel, q H2 (cd "12345678901234567") (cd "1234567890123456") 55 (f1.trans f2) dr2 (bad_num (by decide +kernel) (by decide +kernel) (by decide +kernel)) (by decide +kernel)⟩
      · exact ⟨_, _, rfl, rfl, ⟨by decide +kernel, by decide +kernel, by decide +kernel⟩, _, _, rfl, rfl, by decide +kernel, q H2 (cd "123456789012345677") (cd "12345678901234567") 55 (f1.trans f2) dr2 (bad_num (by decide +kernel) (by decide +kernel) (by decide +kernel)) (by decide +kernel)⟩
      · exact ⟨_, _, rfl, rfl, ⟨by decide +kernel, by decide +kernel, by decide +kernel⟩, _, _, rfl, rfl, by decide +kernel, q H2 (cd "1234567890123456777") (cd "123456789012345677") 55 (f1.trans f2) dr2 (bad_num (by decide +kernel) (by decide +kernel) (by decide +kernel)) (by decide +kernel)⟩
    refine ⟨_, rfl, rfl, _, rfl, ite2 (fun _ => ?_) (fun _ => ?_)⟩
    · refine ⟨_, rfl, d, c, 4, rfl, dr1, by decide, by decide, fun H2 r2 f2 _ dr2 r20 r21 => ?_⟩
      have hk : r2 = 0 ∨ r2 = 1 ∨ r2 = 2 ∨ r2 = 3 := by omega
      rcases hk with rfl | rfl | rfl | rfl
      · exact ⟨_, _, rfl, rfl, _, _, rfl, rfl, ⟨by decide +kernel, by decide +kernel, by decide +kernel⟩, _, _, rfl, rfl, by decide +kernel, _, _, rfl, rfl, by decide +kernel, q H2 (39 :: (List.replicate 101 120 ++ [39])) (39 :: List.replicate 101 120) 39 (f1.trans f2) dr2 (bad_text (by decide) (by decide)) rfl⟩
      · exact ⟨_, _, rfl, rfl, _, _, rfl, rfl, ⟨by decide +kernel, by decide +kernel, by decide +kernel⟩, _, _, rfl, rfl, by decide +kernel, _, _, rfl, rfl, by decide +kernel, q H2 (39 :: (List.replicate 102 120 ++ [39])) (39 :: List.replicate 102 120) 39 (f1.trans f2) dr2 (bad_text (by decide) (by decide)) rfl⟩
      · exact ⟨_, _, rfl, rfl, _, _, rfl, rfl, ⟨by decide +kernel, by decide +kernel, by decide +kernel⟩, _, _, rfl, rfl, by decide +kernel, _, _, rfl, rfl, by decide +kernel, q H2 (39 :: (List.replicate 103 120 ++ [39])) (39 :: List.replicate 103 120) 39 (f1.trans f2) dr2 (bad_text (by decide) (by decide)) rfl⟩
      · exact ⟨_, _, rfl, rfl, _, _, rfl, rfl, ⟨by decide +kernel, by decide +kernel, by decide +kernel⟩, _, _, rfl, rfl, by decide +kernel, _, _, rfl, rfl, by decide +kernel, q H2 (39 :: (List.replicate 104 120 ++ [39])) (39 :: List.replicate 104 120) 39 (f1.trans f2) dr2 (bad_text (by decide) (by decide)) rfl⟩
    refine ⟨_, rfl, rfl, _, rfl, ite2 (fun _ => ?_) (fun _ => ?_)⟩
    · exact q H1 (cd "'not closed") (cd "'not close") 100 f1 dr1 bad_open (by decide +kernel)
    · exact q H1 (cd "'not\nclosed'") (cd "'not\nclosed") 39 f1 dr1 bad_line (by decide +kernel)
end
theorem due_shaped (i j : Int) : SeqAt.shaped (.tuple [.int i, .int j, .str "unknown character"]) = true := by
  have hs : PyData.canLay0 (.str "unknown character") = true := by decide +kernel
  unfold SeqAt.shaped
  rw [Bool.and_eq_true]
  refine ⟨?_, decide_eq_true (by show (PyData.depth (.tuple _)) ≤ _; simp [PyData.depth, PyData.depthAll])⟩
  simp only [PyData.canLay0, PyData.canLayAll0, Bool.and_eq_true] at hs ⊢
  exact ⟨trivial, trivial, hs, trivial⟩
def sp_law (K : PySem.W.Frag) : Sp := fun vs H Q _ => ∃ (a : Addr) (ns : List Int), vs = [.ref a] ∧ SqL K H a (ns.map V.int) ∧ ns.length ≤ 63 ∧ ∀ H', Q (.bl true) H'
def PTV : List V := PT.map fun p => V.str ⟨p.toArray⟩
section
variable {P : Program} {w : World} {K : PySem.W.Frag} {mg : Str → Option Value} {base : Heap} {C : Addr}
theorem ok_law {f : Addr} {fd : FuncData} (F : Fun K "law" "law" s_law f fd) (M : Mg mg) (c__law_draw : Cl P w K mg base 1 "_law_draw" (sp_draw K)) (c__law_next : Cl P w K mg base 1 "_law_next" sp_next) (c__law_fault : Cl P w K mg base 2 "_law_fault" sp_fault) (c__law_error : Cl P w K mg base 10 "_law_error" (sp_lerr C)) : FnOk P w K mg base CX0 11 f fd ["script"] (sp_law K) := by
  refine F.ok sc_law (fun vs H Q E h => ?_) (fun cdv A outer s H vs Q E hr h => ?_)
  · obtain ⟨a, ns, rfl, _⟩ := h
    rfl
  · obtain ⟨a, ns, rfl, hS, _, q⟩ := h
    refine ⟨_, (pss_cons (ps_set (i := 1) sc_law.nd rfl (.inl rfl) (pe_u c__law_draw hr (by first | decide | omega) (by rfl) (pa_cons (pv 0) pa_nil)))
      (pss_cons (ps_set (i := 2) sc_law.nd rfl (.inl rfl) (pe_lst (pa_cons pe_str (pa_cons pe_str (pa_cons pe_str (pa_cons pe_str (pa_cons pe_str (pa_cons pe_str (pa_cons pe_str (pa_cons pe_str (pa_cons pe_str (pa_cons pe_str (pa_cons pe_str pa_nil)))))))))))))
      (pss_cons (ps_set (i := 3) sc_law.nd rfl (.inl rfl) pe_str)
      (pss_cons (ps_for PassesOwn.never rfl (pi_range1 (by rfl) M.range (pa_cons (pe_u c__law_next hr (by first | decide | omega) (by rfl) (pa_cons (pv 1) (pa_cons pe_int pa_nil))) pa_nil)) (pg_name (i := 4) sc_law.nd rfl (.inl rfl)) (pss_one (ps_set (i := 3) sc_law.nd rfl (.inl rfl) (pe_op op_add_str (pe_op op_add_str (pv 3) (pe_ix (ix_listK K) (pv 2) (pe_u c__law_next hr (by first | decide | omega) (by rfl) (pa_cons (pv 1) (pa_cons pe_int pa_nil))) (fun _ _ => rfl))) pe_str))))
      (pss_cons (ps_set (i := 5) sc_law.nd rfl (.inl rfl) pe_int)
      (pss_cons (ps_set (i := 6) sc_law.nd rfl (.inl rfl) pe_int)
      (pss_cons (ps_for PassesOwn.never rfl (pi_str (pv 3)) (pg_name (i := 7) sc_law.nd rfl (.inl rfl)) (pss_cons (ps_set (i := 6) sc_law.nd rfl (.inl rfl) (pe_op op_add (pv 6) pe_int))
      (pss_one (ps_if (pt_cmpR op_eq (pv 7) pe_str (nomark _)) (pss_cons (ps_set (i := 5) sc_law.nd rfl (.inl rfl) (pe_op op_add (pv 5) pe_int))
      (pss_one (ps_set (i := 6) sc_law.nd rfl (.inl rfl) pe_int))) pss_nil))))
      (pss_cons (ps_set (i := 8) sc_law.nd rfl (.inl rfl) (pe_tup (pa_cons (pv 5) (pa_cons (pv 6) (pa_cons pe_str pa_nil)))))
      (pss_cons (ps_set (i := 3) sc_law.nd rfl (.inl rfl) (pe_op op_add_str (pv 3) (pe_u c__law_fault hr (by first | decide | omega) (by rfl) (pa_cons (pv 1) pa_nil))))
      (pss_cons (ps_if (pt_cmpR op_ne (pe_ix ix_str (pv 3) (pe_un un_neg pe_int) (fun _ _ => rfl)) pe_str (nomark _)) (pss_one (ps_set (i := 3) sc_law.nd rfl (.inl rfl) (pe_op op_add_str (pe_op op_add_str (pv 3) pe_str) (pe_ix (ix_listK K) (pv 2) (pe_u c__law_next hr (by first | decide | omega) (by rfl) (pa_cons (pv 1) (pa_cons pe_int pa_nil))) (fun _ _ => rfl))))) pss_nil)
      (pss_one (ps_ret (pe_and (pe_cmpR (eqDK K hr.units) (pe_u c__law_error hr (by first | decide | omega) (by rfl) (pa_cons (pv 3) (pa_cons pe_bl pa_nil))) (pv 8) (nomark _)) (pe_one (pe_cmpR (eqDK K hr.units) (pe_u c__law_error hr (by first | decide | omega) (by rfl) (pa_cons (pv 3) (pa_cons pe_bl pa_nil))) (pv 8) (nomark _)))))))))))))))), ?_⟩
    refine ⟨_, rfl, a, ns, rfl, hS, fun H1 d c s1 nd dr => ?_⟩
    refine ⟨by show 11 ≤ sizeLine; decide, fun D nD => ?_⟩
    have nDd := dr.nd nD
    have dr2 := dr.ext (same_upd nD (o := .lst PTV))
    have eD : (upd H1 D (.lst PTV)) D = some (.lst PTV) := upd_same
    have ePT : [V.str "table", V.str "t (", V.str "a", V.str "12", V.str "'it''s'", V.str "<=", V.str "\n", V.str "# remark\n", V.str ";", V.str "step", V.str ", "] = PTV := by simp only [PTV, PT, List.map_cons, List.map_nil, ← cd_S]
    rw [show ([V.str (Str.ofString "table"), V.str (Str.ofString "t ("), V.str (Str.ofString "a"), V.str (Str.ofString "12"), V.str (Str.ofString "'it''s'"), V.str (Str.ofString "<="), V.str (Str.ofString "\n"), V.str (Str.ofString "# remark\n"), V.str (Str.ofString ";"), V.str (Str.ofString "step"), V.str (Str.ofString ", ")] : List V) = PTV from ePT]
    generalize upd H1 D (.lst PTV) = H2 at dr2 eD ⊢
    refine ⟨_, rfl, d, c, 9, rfl, dr2, by decide, by decide, fun H3 n3 f3 _ dr3 n0 n1 => ?_⟩
    have eD3 := f3 _ _ nDd eD
    obtain ⟨m3, rfl⟩ := Int.eq_ofNat_of_zero_le n0
    refine ⟨_, rfl, by omega, by omega, ?_⟩
    refine for_range (lo := 0) (n := ((m3 : Nat) : Int).toNat) (fun j σ Hj => Dr Hj d c ∧ Hj D = some (.lst PTV) ∧ ∃ l z4, Pts l j ∧ σ = [some (.ref a), some (.ref d), some (.ref D), some (.str ⟨l.toArray⟩), z4, none, none, none, none]) ⟨dr3, eD3, [], none, .nil, rfl⟩ (fun j σ Hj hj hp => ?_) (fun σ Hj hp => ?_)
    · obtain ⟨drj, eDj, l, z4, hl, rfl⟩ := hp
      have hll := hl.len
      refine ⟨_, rfl, _, rfl, _, rfl, d, c, 11, rfl, drj, by decide, by decide, fun H4 r4 f4 _ dr4 r40 r41 => ?_⟩
      obtain ⟨k, rfl⟩ := Int.eq_ofNat_of_zero_le r40
      have eD4 := f4 _ _ nDd eDj
      have hk : k < PT.length := by show k < 11; omega
      have hx : PTV[k]? = some (V.str ⟨(PT[k]).toArray⟩) := by
        unfold PTV
        rw [List.getElem?_map, List.getElem?_eq_getElem hk]
        rfl
      have hm : PT[k] ∈ PT := List.getElem_mem hk
      generalize PT[k] = p at hx hm
      have hpl := PT_len p hm
      refine ⟨D, _, _, _, rfl, rfl, .of eD4, atI_nat hx, _, _, rfl, rfl, ?_, _, _, rfl, rfl, ?_, dr4, eD4, l ++ (p ++ [32]), some (.int ((0 : Int) + (j : Nat))), hl.snoc hm, ?_⟩
      · rw [S_len', S_len']
        exact Nat.le_trans (m := 1000) (by omega) (by decide)
      · rw [strLen_append, S_len', S_len']
        exact Nat.le_trans (m := 1000) (by show _ + _ + 1 ≤ _; omega) (by decide)
      · have e1 : (⟨l.toArray⟩ : Str) ++ ⟨p.toArray⟩ ++ Str.ofString " " = ⟨(l ++ (p ++ [32])).toArray⟩ := by
          rw [show (⟨l.toArray⟩ : Str) ++ ⟨p.toArray⟩ = ⟨(l ++ p).toArray⟩ from SX.S_cat l p, show Str.ofString " " = (⟨[32].toArray⟩ : Str) from rfl, show (⟨(l ++ p).toArray⟩ : Str) ++ ⟨[32].toArray⟩ = ⟨((l ++ p) ++ [32]).toArray⟩ from SX.S_cat (l ++ p) [32], List.append_assoc]
        rw [e1]
        rfl
    · obtain ⟨drj, eDj, l, z4, hl, rfl⟩ := hp
      have hll := hl.len
      have zl : (⟨l.toArray⟩ : Str).length ≤ sizeLine := by rw [S_len']; exact Nat.le_trans (m := 1000) (by omega) (by decide)
      refine ⟨_, rfl, ⟨l.toArray⟩, rfl, ?_⟩
      refine for_strs (fun i σ Hi => Hi = Hj ∧ ∃ ch7, σ = [some (.ref a), some (.ref d), some (.ref D), some (.str ⟨l.toArray⟩), z4, some (.int (linOf (l.take i))), some (.int (colOf (l.take i))), ch7, none]) ⟨rfl, none, rfl⟩ (fun i x σ Hi hx hp => ?_) (fun σ Hn hp => ?_)
      · obtain ⟨rfl, ch7, rfl⟩ := hp
        have hx' : l[i]? = some x := hx
        have hil : i < l.length := (List.getElem?_eq_some_iff.mp hx').1
        have hxi : l[i] = x := by
          rw [List.getElem?_eq_getElem hil] at hx'
          exact Option.some.inj hx'
        have e1 : linOf (l.take (i + 1)) = if x = 10 then linOf (l.take i) + 1 else linOf (l.take i) := by rw [take_more hil, linOf_add, hxi]
        have e2 : colOf (l.take (i + 1)) = if x = 10 then 1 else colOf (l.take i) + 1 := by rw [take_more hil, colOf_add, hxi]
        refine ⟨_, rfl, _, _, rfl, rfl, ?_⟩
        refine ⟨_, rfl, rfl, _, rfl, ?_⟩
        have es : decide (V.str ⟨#[x]⟩ = V.str (Str.ofString "\n")) = decide (x = 10) := str1 x 10
        refine ite2 (fun e => ?_) (fun e => ?_)
        · rw [es] at e
          have e3 : x = 10 := of_decide_eq_true e
          rw [if_pos e3] at e1 e2
          refine ⟨_, rfl, _, _, rfl, rfl, ?_⟩
          refine ⟨rfl, some (.str ⟨#[x]⟩), ?_⟩
          rw [e1, e2]
          rfl
        · rw [es] at e
          have e3 : ¬ x = 10 := fun z => e (decide_eq_true z)
          rw [if_neg e3] at e1 e2
          refine ⟨rfl, some (.str ⟨#[x]⟩), ?_⟩
          rw [e1, e2]
          rfl
      · obtain ⟨rfl, ch7, rfl⟩ := hp
        have el : l.take (⟨l.toArray⟩ : Str).cps.toList.length = l := List.take_of_length_le (Nat.le_refl _)
        rw [el]
        refine ⟨_, rfl, _, rfl, by show 3 ≤ sizeLine; decide, fun T nT => ?_⟩
        have sT := same_upd nT (o := .tup [.int (linOf l), .int (colOf l), .str "unknown character"])
        have nTd := drj.nd nT
        have dr5 := drj.ext sT
        have eD5 := sT _ _ eDj
        have eT5 : (upd Hn T (.tup [.int (linOf l), .int (colOf l), .str "unknown character"])) T = some (.tup [.int (linOf l), .int (colOf l), .str "unknown character"]) := upd_same
        generalize upd Hn T (.tup [.int (linOf l), .int (colOf l), .str "unknown character"]) = H5 at dr5 eD5 eT5 ⊢
        refine ⟨_, rfl, _, rfl, d, c, rfl, dr5, fun H6 ff ii x f6 dr6 bad ef => ?_⟩
        have eD6 := f6 _ _ nDd eD5
        have eT6 := f6 _ _ nTd eT5
        have hfl := bad.len
        have zlf : (⟨(l ++ ff).toArray⟩ : Str).length ≤ 300 := by rw [S_len', List.length_append]; omega
        have hsl : (1000 : Nat) ≤ sizeLine := by decide
        refine ⟨_, _, rfl, rfl, by rw [S_len', S_len']; omega, ?_⟩
        rw [show (⟨l.toArray⟩ : Str) ++ ⟨ff.toArray⟩ = ⟨(l ++ ff).toArray⟩ from SX.S_cat l ff]
        have hat : atI (⟨(l ++ ff).toArray⟩ : Str).cps.toList (-1) = some x := by
          have := atI_last (l ++ ii) x
          rw [List.append_assoc, ← ef] at this
          exact this
        refine ⟨_, rfl, _, rfl, _, _, _, rfl, rfl, by omega, hat, ?_⟩
        have es : decide (V.str ⟨#[x]⟩ = V.str (Str.ofString "d")) = decide (x = 100) := str1 x 100
        have dat : ∀ (Hq : Hp) (p : Addr), Hq p = some (.tup [.int (linOf l), .int (colOf l), .str "unknown character"]) → Dp K Hq (.ref p) (.tuple [.int (linOf l), .int (colOf l), .str "unknown character"]) := fun Hq p e => .tup (.of e) (.cons (.int _) (.cons (.int _) (.cons (.str _) .nil)))
        have shp : SeqAt.shaped (PyData.tuple [.int (linOf l), .int (colOf l), .str "unknown character"]) = true := due_shaped _ _
        have eqv : PyData.eqv (PyData.tuple [.int (linOf l), .int (colOf l), .str "unknown character"]) (.tuple [.int (linOf l), .int (colOf l), .str "unknown character"]) = true := SeqAt.eqv_refl _ (SeqAt.canLay_of_shaped shp)
        have lxg : ∀ g : List Nat, (if decide (x = 100) = true then g = [] else g = [] ∨ ∃ s, g = 32 :: s) → Lxe (l ++ (ff ++ g)).length (skip (l ++ (ff ++ g))) l.length := fun g hg => bad.lx hg hl
        have tkl : ∀ g : List Nat, (l ++ (ff ++ g)).take l.length = l := fun g => List.take_left
        refine ⟨rfl, _, rfl, ?_⟩
        rw [es]
        refine ite2 (fun e => ?_) (fun e => ?_)
        · have hx : ¬ x = 100 := fun z => by
            subst z
            exact absurd e (by decide)
          refine ⟨_, rfl, _, _, rfl, rfl, Nat.le_trans (m := 1000) (by show _ + 1 ≤ _; omega) hsl, _, rfl, _, rfl, d, c, 4, rfl, dr6, by decide, by decide, fun H7 r7 f7 _ dr7 r70 r71 => ?_⟩
          obtain ⟨k, rfl⟩ := Int.eq_ofNat_of_zero_le r70
          have eD7 := f7 _ _ nDd eD6
          have eT7 := f7 _ _ nTd eT6
          have hk : k < PT.length := by show k < 11; omega
          have hpx : PTV[k]? = some (V.str ⟨(PT[k]).toArray⟩) := by
            unfold PTV
            rw [List.getElem?_map, List.getElem?_eq_getElem hk]
            rfl
          have hm : PT[k] ∈ PT := List.getElem_mem hk
          generalize PT[k] = p at hpx hm
          have hpl := PT_len p hm
          have e1 : (⟨(l ++ ff).toArray⟩ : Str) ++ Str.ofString " " ++ ⟨p.toArray⟩ = ⟨(l ++ (ff ++ (32 :: p))).toArray⟩ := by
            rw [show Str.ofString " " = (⟨[32].toArray⟩ : Str) from rfl, show (⟨(l ++ ff).toArray⟩ : Str) ++ ⟨[32].toArray⟩ = ⟨((l ++ ff) ++ [32]).toArray⟩ from SX.S_cat (l ++ ff) [32]]
            refine (SX.S_cat ((l ++ ff) ++ [32]) p).trans ?_
            rw [List.append_assoc, List.append_assoc]
            rfl
          refine ⟨D, _, _, _, rfl, rfl, .of eD7, atI_nat hpx, _, _, rfl, rfl, ?_, ?_⟩
          · rw [strLen_append, S_len' p]
            exact Nat.le_trans (m := 1000) (by show _ + 1 + _ ≤ _; omega) hsl
          · rw [e1]
            have hg : (if decide (x = 100) = true then 32 :: p = [] else 32 :: p = [] ∨ ∃ s, 32 :: p = 32 :: s) := by rw [if_neg (by rw [decide_eq_false hx]; decide)]; exact .inr ⟨_, rfl⟩
            have len : (l ++ (ff ++ (32 :: p))).length ≤ 100000 := by rw [List.length_append, List.length_append]; exact Nat.le_trans (m := 1000) (by simp only [List.length_cons, List.length_nil]; omega) (by decide)
            refine ⟨_, rfl, l ++ (ff ++ (32 :: p)), l.length, true, rfl, len, lxg _ hg, fun H8 p8 s8 e8 => ?_⟩
            rw [tkl] at e8
            refine ⟨_, rfl, _, _, dat H8 p8 e8, dat H8 T (s8 _ _ eT7), shp, shp, ?_⟩
            rw [eqv]
            refine ⟨_, rfl, iteT ?_⟩
            refine ⟨_, rfl, l ++ (ff ++ (32 :: p)), l.length, false, rfl, len, lxg _ hg, fun H9 p9 s9 e9 => ?_⟩
            rw [tkl] at e9
            refine ⟨_, rfl, _, _, dat H9 p9 e9, dat H9 T (s9 _ _ (s8 _ _ eT7)), shp, shp, ?_⟩
            rw [eqv]
            exact q _
        · have hx : x = 100 := by
            cases z : decide (x = 100) with
            | false => rw [z] at e; exact absurd rfl e
            | true => exact of_decide_eq_true z
          rw [show l ++ ff = l ++ (ff ++ []) by rw [List.append_nil]]
          have hg : (if decide (x = 100) = true then ([] : List Nat) = [] else ([] : List Nat) = [] ∨ ∃ s, ([] : List Nat) = 32 :: s) := by rw [if_pos (decide_eq_true hx)]
          have len : (l ++ (ff ++ ([]))).length ≤ 100000 := by rw [List.length_append, List.length_append]; exact Nat.le_trans (m := 1000) (by simp only [List.length_cons, List.length_nil]; omega) (by decide)
          refine ⟨_, rfl, l ++ (ff ++ ([])), l.length, true, rfl, len, lxg _ hg, fun H8 p8 s8 e8 => ?_⟩
          rw [tkl] at e8
          refine ⟨_, rfl, _, _, dat H8 p8 e8, dat H8 T (s8 _ _ eT6), shp, shp, ?_⟩
          rw [eqv]
          refine ⟨_, rfl, iteT ?_⟩
          refine ⟨_, rfl, l ++ (ff ++ ([])), l.length, false, rfl, len, lxg _ hg, fun H9 p9 s9 e9 => ?_⟩
          rw [tkl] at e9
          refine ⟨_, rfl, _, _, dat H9 p9 e9, dat H9 T (s9 _ _ (s8 _ _ eT6)), shp, shp, ?_⟩
          rw [eqv]
          exact q _
end

/-- an error of the class at S is what «except S» names -/
theorem exm_self {K : PySem.W.Frag} {S : Addr} (h1 : PySem.W.subIn K (.ref S) (.type "BaseException") = some true) (h2 : PySem.W.isClsIn K S = true) (h3 : PySem.W.typeIn K (.ref S) = some (.type "type")) (h4 : PySem.W.subIn K (.ref S) (.ref S) = some true) : PySem.W.exmOne K (.ref S) (.ref S) = some true := by
  unfold PySem.W.isClsIn at h2
  unfold PySem.W.exmOne PySem.W.kitCls
  simp only [h1, h2, h3, h4, beq_self_eq_true, Bool.and_self, if_true]
set_option maxHeartbeats 0 in
theorem all_mk {l : PySem.W.OpenLaw} {w : World} {K : PySem.W.Frag} {h : Heap} {mg : Str → Option Value} {fa : Addr} (X : K.In h) (G : h.Ns mainGlobals mg) (hfa : mg "law" = some (.ref fa))
    {od0 an0 : Option Addr} {sl0 : Array (Option Value)} {oc0 kV0 dc0 pm0 cd0 ct0 : Value} {f0 : Addr}
    {od1 an1 : Option Addr} {sl1 : Array (Option Value)} {oc1 kV1 dc1 pm1 cd1 ct1 : Value} {f1 : Addr}
    {od2 an2 : Option Addr} {sl2 : Array (Option Value)} {oc2 kV2 dc2 pm2 cd2 ct2 : Value} {f2 : Addr}
    {od3 an3 : Option Addr} {sl3 : Array (Option Value)} {oc3 kV3 dc3 pm3 cd3 ct3 : Value} {f3 : Addr}
    {od4 an4 : Option Addr} {sl4 : Array (Option Value)} {oc4 kV4 dc4 pm4 cd4 ct4 : Value} {f4 : Addr}
    {od5 an5 : Option Addr} {sl5 : Array (Option Value)} {oc5 kV5 dc5 pm5 cd5 ct5 : Value} {f5 : Addr}
    {od6 an6 : Option Addr} {sl6 : Array (Option Value)} {oc6 kV6 dc6 pm6 cd6 ct6 : Value} {f6 : Addr}
    {od7 an7 : Option Addr} {sl7 : Array (Option Value)} {oc7 kV7 dc7 pm7 cd7 ct7 : Value} {f7 : Addr}
    {od8 an8 : Option Addr} {sl8 : Array (Option Value)} {oc8 kV8 dc8 pm8 cd8 ct8 : Value} {f8 : Addr}
    {od9 an9 : Option Addr} {sl9 : Array (Option Value)} {oc9 kV9 dc9 pm9 cd9 ct9 : Value} {f9 : Addr}
    {od10 an10 : Option Addr} {sl10 : Array (Option Value)} {oc10 kV10 dc10 pm10 cd10 ct10 : Value} {f10 : Addr}
    {od11 an11 : Option Addr} {sl11 : Array (Option Value)} {oc11 kV11 dc11 pm11 cd11 ct11 : Value} {f11 : Addr}
    {od12 an12 : Option Addr} {sl12 : Array (Option Value)} {oc12 kV12 dc12 pm12 cd12 ct12 : Value} {f12 : Addr}
    {od13 an13 : Option Addr} {sl13 : Array (Option Value)} {oc13 kV13 dc13 pm13 cd13 ct13 : Value} {f13 : Addr}
    {od14 an14 : Option Addr} {sl14 : Array (Option Value)} {oc14 kV14 dc14 pm14 cd14 ct14 : Value} {f14 : Addr}
    {od15 an15 : Option Addr} {sl15 : Array (Option Value)} {oc15 kV15 dc15 pm15 cd15 ct15 : Value} {f15 : Addr}
    {od16 an16 : Option Addr} {sl16 : Array (Option Value)} {oc16 kV16 dc16 pm16 cd16 ct16 : Value} {f16 : Addr}
    {od17 an17 : Option Addr} {sl17 : Array (Option Value)} {oc17 kV17 dc17 pm17 cd17 ct17 : Value} {f17 : Addr}
    {od18 an18 : Option Addr} {sl18 : Array (Option Value)} {oc18 kV18 dc18 pm18 cd18 ct18 : Value} {f18 : Addr}
    {C_Reader : Addr}
    {C_SourceError N_SourceError fI_SourceError cc_SourceError cd_SourceError : Addr} {nm_SourceError q_SourceError file_SourceError : Str} {bs_SourceError bm_SourceError sub_SourceError : List Value} {sn_SourceError : List Str} {ab_SourceError : Bool} {col_SourceError : Option Bool} {dd_SourceError od_SourceError odc_SourceError odl_SourceError : Option Addr} {m0_SourceError m1_SourceError m2_SourceError m3_SourceError m5_SourceError : Option Value} {oc_SourceError dc_SourceError pm_SourceError ct_SourceError occ_SourceError ocl_SourceError : Value} {sl_SourceError slc_SourceError sll_SourceError : Array (Option Value)} {vs_SourceError : Array Value} {tf_SourceError : Tok}
    (a0 : PySem.W.nsIn K mainGlobals "tokens" = some (some (.ref f0))) (l0 : K.lookup f0 = some ⟨oc0, od0, .func (PySem.W.fnOf "tokens" "tokens" (defArgs s_tokens) (defBody s_tokens) (defScope s_tokens) .none kV0 dc0 pm0 an0 cd0 ct0), sl0⟩) (c0 : PySem.W.codeIn K cd0 "tokens" = true) (k0 : PySem.W.keepIn K (.ref f0) = true)
    (a1 : PySem.W.nsIn K mainGlobals "place" = some (some (.ref f1))) (l1 : K.lookup f1 = some ⟨oc1, od1, .func (PySem.W.fnOf "place" "place" (defArgs s_place) (defBody s_place) (defScope s_place) .none kV1 dc1 pm1 an1 cd1 ct1), sl1⟩) (c1 : PySem.W.codeIn K cd1 "place" = true) (k1 : PySem.W.keepIn K (.ref f1) = true)
    (a2 : PySem.W.nsIn K mainGlobals "behind_gap" = some (some (.ref f2))) (l2 : K.lookup f2 = some ⟨oc2, od2, .func (PySem.W.fnOf "behind_gap" "behind_gap" (defArgs s_behind_gap) (defBody s_behind_gap) (defScope s_behind_gap) .none kV2 dc2 pm2 an2 cd2 ct2), sl2⟩) (c2 : PySem.W.codeIn K cd2 "behind_gap" = true) (k2 : PySem.W.keepIn K (.ref f2) = true)
    (a3 : PySem.W.nsIn K mainGlobals "behind_comment" = some (some (.ref f3))) (l3 : K.lookup f3 = some ⟨oc3, od3, .func (PySem.W.fnOf "behind_comment" "behind_comment" (defArgs s_behind_comment) (defBody s_behind_comment) (defScope s_behind_comment) .none kV3 dc3 pm3 an3 cd3 ct3), sl3⟩) (c3 : PySem.W.codeIn K cd3 "behind_comment" = true) (k3 : PySem.W.keepIn K (.ref f3) = true)
    (a4 : PySem.W.nsIn K mainGlobals "read_token" = some (some (.ref f4))) (l4 : K.lookup f4 = some ⟨oc4, od4, .func (PySem.W.fnOf "read_token" "read_token" (defArgs s_read_token) (defBody s_read_token) (defScope s_read_token) .none kV4 dc4 pm4 an4 cd4 ct4), sl4⟩) (c4 : PySem.W.codeIn K cd4 "read_token" = true) (k4 : PySem.W.keepIn K (.ref f4) = true)
    (a5 : PySem.W.nsIn K mainGlobals "read_word" = some (some (.ref f5))) (l5 : K.lookup f5 = some ⟨oc5, od5, .func (PySem.W.fnOf "read_word" "read_word" (defArgs s_read_word) (defBody s_read_word) (defScope s_read_word) .none kV5 dc5 pm5 an5 cd5 ct5), sl5⟩) (c5 : PySem.W.codeIn K cd5 "read_word" = true) (k5 : PySem.W.keepIn K (.ref f5) = true)
    (a6 : PySem.W.nsIn K mainGlobals "read_number" = some (some (.ref f6))) (l6 : K.lookup f6 = some ⟨oc6, od6, .func (PySem.W.fnOf "read_number" "read_number" (defArgs s_read_number) (defBody s_read_number) (defScope s_read_number) .none kV6 dc6 pm6 an6 cd6 ct6), sl6⟩) (c6 : PySem.W.codeIn K cd6 "read_number" = true) (k6 : PySem.W.keepIn K (.ref f6) = true)
    (a7 : PySem.W.nsIn K mainGlobals "read_text" = some (some (.ref f7))) (l7 : K.lookup f7 = some ⟨oc7, od7, .func (PySem.W.fnOf "read_text" "read_text" (defArgs s_read_text) (defBody s_read_text) (defScope s_read_text) .none kV7 dc7 pm7 an7 cd7 ct7), sl7⟩) (c7 : PySem.W.codeIn K cd7 "read_text" = true) (k7 : PySem.W.keepIn K (.ref f7) = true)
    (a8 : PySem.W.nsIn K mainGlobals "read_sign" = some (some (.ref f8))) (l8 : K.lookup f8 = some ⟨oc8, od8, .func (PySem.W.fnOf "read_sign" "read_sign" (defArgs s_read_sign) (defBody s_read_sign) (defScope s_read_sign) .none kV8 dc8 pm8 an8 cd8 ct8), sl8⟩) (c8 : PySem.W.codeIn K cd8 "read_sign" = true) (k8 : PySem.W.keepIn K (.ref f8) = true)
    (a9 : PySem.W.nsIn K mainGlobals "behind_run" = some (some (.ref f9))) (l9 : K.lookup f9 = some ⟨oc9, od9, .func (PySem.W.fnOf "behind_run" "behind_run" (defArgs s_behind_run) (defBody s_behind_run) (defScope s_behind_run) .none kV9 dc9 pm9 an9 cd9 ct9), sl9⟩) (c9 : PySem.W.codeIn K cd9 "behind_run" = true) (k9 : PySem.W.keepIn K (.ref f9) = true)
    (a10 : PySem.W.nsIn K mainGlobals "behind_text" = some (some (.ref f10))) (l10 : K.lookup f10 = some ⟨oc10, od10, .func (PySem.W.fnOf "behind_text" "behind_text" (defArgs s_behind_text) (defBody s_behind_text) (defScope s_behind_text) .none kV10 dc10 pm10 an10 cd10 ct10), sl10⟩) (c10 : PySem.W.codeIn K cd10 "behind_text" = true) (k10 : PySem.W.keepIn K (.ref f10) = true)
    (a11 : PySem.W.nsIn K mainGlobals "refuse" = some (some (.ref f11))) (l11 : K.lookup f11 = some ⟨oc11, od11, .func (PySem.W.fnOf "refuse" "refuse" (defArgs s_refuse) (defBody s_refuse) (defScope s_refuse) .none kV11 dc11 pm11 an11 cd11 ct11), sl11⟩) (c11 : PySem.W.codeIn K cd11 "refuse" = true) (k11 : PySem.W.keepIn K (.ref f11) = true)
    (a12 : PySem.W.findIn K (.ref C_Reader) "__init__" = some (some (.ref f12))) (i12 : PySem.W.isFn K (.ref f12) = true) (l12 : K.lookup f12 = some ⟨oc12, od12, .func (PySem.W.fnOf "__init__" "Reader.__init__" (defArgs s_Reader___init__) (defBody s_Reader___init__) (defScope s_Reader___init__) .none kV12 dc12 pm12 an12 cd12 ct12), sl12⟩) (c12 : PySem.W.codeIn K cd12 "Reader.__init__" = true) (k12 : PySem.W.keepIn K (.ref f12) = true)
    (a13 : PySem.W.nsIn K mainGlobals "parse_source" = some (some (.ref f13))) (l13 : K.lookup f13 = some ⟨oc13, od13, .func (PySem.W.fnOf "parse_source" "parse_source" (defArgs s_parse_source) (defBody s_parse_source) (defScope s_parse_source) .none kV13 dc13 pm13 an13 cd13 ct13), sl13⟩) (c13 : PySem.W.codeIn K cd13 "parse_source" = true) (k13 : PySem.W.keepIn K (.ref f13) = true)
    (a14 : PySem.W.nsIn K mainGlobals "_law_draw" = some (some (.ref f14))) (l14 : K.lookup f14 = some ⟨oc14, od14, .func (PySem.W.fnOf "_law_draw" "_law_draw" (defArgs s__law_draw) (defBody s__law_draw) (defScope s__law_draw) .none kV14 dc14 pm14 an14 cd14 ct14), sl14⟩) (c14 : PySem.W.codeIn K cd14 "_law_draw" = true) (k14 : PySem.W.keepIn K (.ref f14) = true)
    (a15 : PySem.W.nsIn K mainGlobals "_law_next" = some (some (.ref f15))) (l15 : K.lookup f15 = some ⟨oc15, od15, .func (PySem.W.fnOf "_law_next" "_law_next" (defArgs s__law_next) (defBody s__law_next) (defScope s__law_next) .none kV15 dc15 pm15 an15 cd15 ct15), sl15⟩) (c15 : PySem.W.codeIn K cd15 "_law_next" = true) (k15 : PySem.W.keepIn K (.ref f15) = true)
    (a16 : PySem.W.nsIn K mainGlobals "_law_fault" = some (some (.ref f16))) (l16 : K.lookup f16 = some ⟨oc16, od16, .func (PySem.W.fnOf "_law_fault" "_law_fault" (defArgs s__law_fault) (defBody s__law_fault) (defScope s__law_fault) .none kV16 dc16 pm16 an16 cd16 ct16), sl16⟩) (c16 : PySem.W.codeIn K cd16 "_law_fault" = true) (k16 : PySem.W.keepIn K (.ref f16) = true)
    (a17 : PySem.W.nsIn K mainGlobals "_law_error" = some (some (.ref f17))) (l17 : K.lookup f17 = some ⟨oc17, od17, .func (PySem.W.fnOf "_law_error" "_law_error" (defArgs s__law_error) (defBody s__law_error) (defScope s__law_error) .none kV17 dc17 pm17 an17 cd17 ct17), sl17⟩) (c17 : PySem.W.codeIn K cd17 "_law_error" = true) (k17 : PySem.W.keepIn K (.ref f17) = true)
    (a18 : PySem.W.nsIn K mainGlobals "law" = some (some (.ref f18))) (l18 : K.lookup f18 = some ⟨oc18, od18, .func (PySem.W.fnOf "law" "law" (defArgs s_law) (defBody s_law) (defScope s_law) .none kV18 dc18 pm18 an18 cd18 ct18), sl18⟩) (c18 : PySem.W.codeIn K cd18 "law" = true) (k18 : PySem.W.keepIn K (.ref f18) = true)
    {a_BLANKS : Addr} {dd_BLANKS : Option Addr} {n_BLANKS : Nat} {sl_BLANKS : Array (Option Value)} {tk_BLANKS_0 tk_BLANKS_1 tk_BLANKS_2 : Tok} (w_BLANKS : PySem.W.nsIn K mainGlobals "BLANKS" = some (some (.ref a_BLANKS))) (v_BLANKS : K.lookup a_BLANKS = some ⟨.type "tuple", dd_BLANKS, .seq #[.str (PySem.Str.ofString " ") tk_BLANKS_0, .str (PySem.Str.ofString "\t") tk_BLANKS_1, .str (PySem.Str.ofString "\n") tk_BLANKS_2] n_BLANKS, sl_BLANKS⟩) {a_SIGNS : Addr} {dd_SIGNS : Option Addr} {n_SIGNS : Nat} {sl_SIGNS : Array (Option Value)} {tk_SIGNS_0 tk_SIGNS_1 tk_SIGNS_2 tk_SIGNS_3 tk_SIGNS_4 tk_SIGNS_5 tk_SIGNS_6 tk_SIGNS_7 tk_SIGNS_8 tk_SIGNS_9 tk_SIGNS_10 tk_SIGNS_11 tk_SIGNS_12 tk_SIGNS_13 : Tok} (w_SIGNS : PySem.W.nsIn K mainGlobals "SIGNS" = some (some (.ref a_SIGNS))) (v_SIGNS : K.lookup a_SIGNS = some ⟨.type "tuple", dd_SIGNS, .seq #[.str (PySem.Str.ofString "<=") tk_SIGNS_0, .str (PySem.Str.ofString ">=") tk_SIGNS_1, .str (PySem.Str.ofString "!=") tk_SIGNS_2, .str (PySem.Str.ofString "(") tk_SIGNS_3, .str (PySem.Str.ofString ")") tk_SIGNS_4, .str (PySem.Str.ofString ";") tk_SIGNS_5, .str (PySem.Str.ofString ",") tk_SIGNS_6, .str (PySem.Str.ofString ".") tk_SIGNS_7, .str (PySem.Str.ofString "<") tk_SIGNS_8, .str (PySem.Str.ofString ">") tk_SIGNS_9, .str (PySem.Str.ofString "=") tk_SIGNS_10, .str (PySem.Str.ofString "+") tk_SIGNS_11, .str (PySem.Str.ofString "-") tk_SIGNS_12, .str (PySem.Str.ofString "*") tk_SIGNS_13] n_SIGNS, sl_SIGNS⟩) {tk_DIGITS : Tok} (w_DIGITS : PySem.W.nsIn K mainGlobals "DIGITS" = some (some (.str (PySem.Str.ofString "0123456789") tk_DIGITS))) {tk_LETTERS : Tok} (w_LETTERS : PySem.W.nsIn K mainGlobals "LETTERS" = some (some (.str (PySem.Str.ofString "abcdefghijklmnopqrstuvwxyz_ABCDEFGHIJKLMNOPQRSTUVWXYZ") tk_LETTERS))) {tk_MOST_WORD : Tok} (w_MOST_WORD : PySem.W.nsIn K mainGlobals "MOST_WORD" = some (some (.int 20 tk_MOST_WORD))) {tk_MOST_NUMBER : Tok} (w_MOST_NUMBER : PySem.W.nsIn K mainGlobals "MOST_NUMBER" = some (some (.int 15 tk_MOST_NUMBER))) {tk_MOST_TEXT : Tok} (w_MOST_TEXT : PySem.W.nsIn K mainGlobals "MOST_TEXT" = some (some (.int 100 tk_MOST_TEXT))) (aC_Reader : PySem.W.nsIn K mainGlobals "Reader" = some (some (.ref C_Reader))) (pg_Reader : PySem.W.plainGet K C_Reader Str.empty = true) (hd_Reader : PySem.W.hasDictIn K C_Reader = true) (po_Reader : PySem.W.plainOver K C_Reader = true) (sa_Reader : PySem.W.findIn K (.ref C_Reader) "__setattr__" = some (some (.builtin "object.__setattr__"))) (mk_Reader : PySem.W.makesIn K C_Reader = true) (kc_Reader : PySem.W.keepIn K (.ref C_Reader) = true) (nf_Reader_at : PySem.W.findIn K (.ref C_Reader) "at" = some none) (nf_Reader_found : PySem.W.findIn K (.ref C_Reader) "found" = some none) (nf_Reader_source : PySem.W.findIn K (.ref C_Reader) "source" = some none) (z_abs : PySem.W.nsIn K mainGlobals "abs" = some none) (z_int : PySem.W.nsIn K mainGlobals "int" = some none) (z_len : PySem.W.nsIn K mainGlobals "len" = some none) (z_list : PySem.W.nsIn K mainGlobals "list" = some none) (z_range : PySem.W.nsIn K mainGlobals "range" = some none) (ea_SourceError : PySem.W.nsIn K mainGlobals "SourceError" = some (some (.ref C_SourceError))) (ex_SourceError : K.lookup C_SourceError = some (excClassObj nm_SourceError q_SourceError C_SourceError N_SourceError bs_SourceError bm_SourceError true sn_SourceError sub_SourceError ab_SourceError col_SourceError dd_SourceError m0_SourceError m1_SourceError m2_SourceError m3_SourceError m5_SourceError "ValueError.__new__")) (erv_SourceError : PySem.HandSPX.refsVE bm_SourceError = true) (esa_SourceError : PySem.W.findIn K (.ref C_SourceError) "__setattr__" = some (some (.builtin "object.__setattr__"))) (ega_SourceError : PySem.W.findIn K (.ref C_SourceError) "__getattribute__" = some (some (.builtin "BaseException.__getattribute__"))) (egg_SourceError : PySem.W.findIn K (.ref C_SourceError) "__getattr__" = some none) (en_line_SourceError : PySem.W.findIn K (.ref C_SourceError) "line" = some none) (en_column_SourceError : PySem.W.findIn K (.ref C_SourceError) "column" = some none) (en_message_SourceError : PySem.W.findIn K (.ref C_SourceError) "message" = some none) (ei_SourceError : PySem.W.findIn K (.ref C_SourceError) "__init__" = some (some (.ref fI_SourceError))) (eti_SourceError : PySem.W.typeIn K (.ref fI_SourceError) = some (.type "function")) (el_SourceError : K.lookup fI_SourceError = some ⟨oc_SourceError, od_SourceError, .func (PySem.W.fnX "__init__" "SourceError.__init__" (defArgs s_SourceError___init__) (defBody s_SourceError___init__) (defScope s_SourceError___init__) [("__class__", cc_SourceError)] .none .none dc_SourceError pm_SourceError none (.ref cd_SourceError) ct_SourceError), sl_SourceError⟩) (ec_SourceError : PySem.W.codeIn K (.ref cd_SourceError) "SourceError.__init__" = true) (eo_SourceError : K.lookup cd_SourceError = some ⟨occ_SourceError, odc_SourceError, .fields vs_SourceError, slc_SourceError⟩) (ev2_SourceError : vs_SourceError[2]? = some (.str file_SourceError tf_SourceError)) (efl_SourceError : ((l.prog.main.file : Str) == file_SourceError) = true) (exc_SourceError : K.lookup cc_SourceError = some ⟨ocl_SourceError, odl_SourceError, .cell (some (.ref C_SourceError)), sll_SourceError⟩) (eic_SourceError : PySem.W.isClsIn K C_SourceError = true) (emr_SourceError : PySem.W.mroIn K C_SourceError (.ref C_SourceError) = some true) (ezs_SourceError : PySem.W.nsIn K mainGlobals "super" = some none) (etp_SourceError : (l.prog.main.scope.names.lookup ("super" : Str)).isSome = false) (eoq_SourceError : PySem.W.nsIn K cStatics "thirdparty.any" = some none) (esi_SourceError : PySem.W.ks_superIn K C_SourceError C_SourceError "__init__" = some (some (.builtin "ValueError.__init__"))) (esv_SourceError : PySem.W.subIn K (.ref C_SourceError) (.type "ValueError") = some true) (ee_SourceError : PySem.W.subIn K (.ref C_SourceError) (.type "BaseException") = some true) (et_SourceError : PySem.W.typeIn K (.ref C_SourceError) = some (.type "type")) (ek_SourceError : PySem.W.keepIn K (.ref C_SourceError) = true) (eh_SourceError : PySem.W.hasDictIn K C_SourceError = true) (ess_SourceError : PySem.W.subIn K (.ref C_SourceError) (.ref C_SourceError) = some true) :
    ∃ fd : FuncData, (∀ (s : Shared) (v : Value), BindsTo s fd ⟨[v], []⟩ [("script", v)]) ∧ ∀ base : Heap, K.In base → base.Ns mainGlobals mg → FnOk l.prog w K mg base CX0 11 fa fd ["script"] (sp_law K) := by
  have e := hfa.symm.trans (PySem.W.mg_of X G a18)
  cases e
  have F_tokens := fun_mk (st := s_tokens) l0 c0 k0
  have b_tokens := F_tokens.binds (ps := ["source"]) fun _ _ _ _ _ _ us hl => match us, hl with | [_], _ => rfl
  have g_tokens := PySem.W.mg_of X G a0
  have F_place := fun_mk (st := s_place) l1 c1 k1
  have b_place := F_place.binds (ps := ["source", "offset"]) fun _ _ _ _ _ _ us hl => match us, hl with | [_, _], _ => rfl
  have g_place := PySem.W.mg_of X G a1
  have F_behind_gap := fun_mk (st := s_behind_gap) l2 c2 k2
  have b_behind_gap := F_behind_gap.binds (ps := ["source", "start"]) fun _ _ _ _ _ _ us hl => match us, hl with | [_, _], _ => rfl
  have g_behind_gap := PySem.W.mg_of X G a2
  have F_behind_comment := fun_mk (st := s_behind_comment) l3 c3 k3
  have b_behind_comment := F_behind_comment.binds (ps := ["source", "start"]) fun _ _ _ _ _ _ us hl => match us, hl with | [_, _], _ => rfl
  have g_behind_comment := PySem.W.mg_of X G a3
  have F_read_token := fun_mk (st := s_read_token) l4 c4 k4
  have b_read_token := F_read_token.binds (ps := ["source", "start"]) fun _ _ _ _ _ _ us hl => match us, hl with | [_, _], _ => rfl
  have g_read_token := PySem.W.mg_of X G a4
  have F_read_word := fun_mk (st := s_read_word) l5 c5 k5
  have b_read_word := F_read_word.binds (ps := ["source", "start"]) fun _ _ _ _ _ _ us hl => match us, hl with | [_, _], _ => rfl
  have g_read_word := PySem.W.mg_of X G a5
  have F_read_number := fun_mk (st := s_read_number) l6 c6 k6
  have b_read_number := F_read_number.binds (ps := ["source", "start"]) fun _ _ _ _ _ _ us hl => match us, hl with | [_, _], _ => rfl
  have g_read_number := PySem.W.mg_of X G a6
  have F_read_text := fun_mk (st := s_read_text) l7 c7 k7
  have b_read_text := F_read_text.binds (ps := ["source", "start"]) fun _ _ _ _ _ _ us hl => match us, hl with | [_, _], _ => rfl
  have g_read_text := PySem.W.mg_of X G a7
  have F_read_sign := fun_mk (st := s_read_sign) l8 c8 k8
  have b_read_sign := F_read_sign.binds (ps := ["source", "start"]) fun _ _ _ _ _ _ us hl => match us, hl with | [_, _], _ => rfl
  have g_read_sign := PySem.W.mg_of X G a8
  have F_behind_run := fun_mk (st := s_behind_run) l9 c9 k9
  have b_behind_run := F_behind_run.binds (ps := ["source", "start", "members"]) fun _ _ _ _ _ _ us hl => match us, hl with | [_, _, _], _ => rfl
  have g_behind_run := PySem.W.mg_of X G a9
  have F_behind_text := fun_mk (st := s_behind_text) l10 c10 k10
  have b_behind_text := F_behind_text.binds (ps := ["source", "start"]) fun _ _ _ _ _ _ us hl => match us, hl with | [_, _], _ => rfl
  have g_behind_text := PySem.W.mg_of X G a10
  have F_refuse := fun_mk (st := s_refuse) l11 c11 k11
  have b_refuse := F_refuse.binds (ps := ["source", "offset"]) fun _ _ _ _ _ _ us hl => match us, hl with | [_, _], _ => rfl
  have g_refuse := PySem.W.mg_of X G a11
  have F_Reader___init__ := fun_mk (st := s_Reader___init__) l12 c12 k12
  have b_Reader___init__ := F_Reader___init__.binds (ps := ["self", "source"]) fun _ _ _ _ _ _ us hl => match us, hl with | [_, _], _ => rfl
  have mk0_Reader : Mk K C_Reader f12 := ⟨mk_Reader, a12, i12, kc_Reader⟩
  have F_parse_source := fun_mk (st := s_parse_source) l13 c13 k13
  have b_parse_source := F_parse_source.binds (ps := ["source"]) fun _ _ _ _ _ _ us hl => match us, hl with | [_], _ => rfl
  have g_parse_source := PySem.W.mg_of X G a13
  have F__law_draw := fun_mk (st := s__law_draw) l14 c14 k14
  have b__law_draw := F__law_draw.binds (ps := ["script"]) fun _ _ _ _ _ _ us hl => match us, hl with | [_], _ => rfl
  have g__law_draw := PySem.W.mg_of X G a14
  have F__law_next := fun_mk (st := s__law_next) l15 c15 k15
  have b__law_next := F__law_next.binds (ps := ["draw", "many"]) fun _ _ _ _ _ _ us hl => match us, hl with | [_, _], _ => rfl
  have g__law_next := PySem.W.mg_of X G a15
  have F__law_fault := fun_mk (st := s__law_fault) l16 c16 k16
  have b__law_fault := F__law_fault.binds (ps := ["draw"]) fun _ _ _ _ _ _ us hl => match us, hl with | [_], _ => rfl
  have g__law_fault := PySem.W.mg_of X G a16
  have F__law_error := fun_mk (st := s__law_error) l17 c17 k17
  have b__law_error := F__law_error.binds (ps := ["script", "first"]) fun _ _ _ _ _ _ us hl => match us, hl with | [_, _], _ => rfl
  have g__law_error := PySem.W.mg_of X G a17
  have F_law := fun_mk (st := s_law) l18 c18 k18
  have cl_Reader : Cls K C_Reader := ⟨pg_Reader, hd_Reader, po_Reader, sa_Reader⟩
  have g_Reader := PySem.W.mg_of X G aC_Reader
  have M : Mg mg := ⟨PySem.W.mg_none_of X G z_abs, PySem.W.mg_none_of X G z_int, PySem.W.mg_none_of X G z_len, PySem.W.mg_none_of X G z_list, PySem.W.mg_none_of X G z_range⟩
  exact ⟨PySem.W.fnOf "law" "law" (defArgs s_law) (defBody s_law) (defScope s_law) .none kV18 dc18 pm18 an18 cd18 ct18, fun s v => .of_eq rfl, fun base _ _ => by
  have GG : Gl K mg a_BLANKS a_SIGNS := ⟨⟨_, PySem.W.mg_of X G w_BLANKS, rfl⟩, ⟨_, PySem.W.mg_of X G w_SIGNS, rfl⟩, ⟨_, PySem.W.mg_of X G w_DIGITS, _, rfl⟩, ⟨_, PySem.W.mg_of X G w_LETTERS, _, rfl⟩, ⟨_, PySem.W.mg_of X G w_MOST_WORD, _, rfl⟩, ⟨_, PySem.W.mg_of X G w_MOST_NUMBER, _, rfl⟩, ⟨_, PySem.W.mg_of X G w_MOST_TEXT, _, rfl⟩,
    fun H => .inr ⟨_, _, _, v_BLANKS, rfl, rfl, by show 3 ≤ sizeLine; decide, .cons ⟨_, rfl⟩ (.cons ⟨_, rfl⟩ (.cons ⟨_, rfl⟩ .nil))⟩,
    fun H => .inr ⟨_, _, _, v_SIGNS, rfl, rfl, by show 14 ≤ sizeLine; decide, .cons ⟨_, rfl⟩ (.cons ⟨_, rfl⟩ (.cons ⟨_, rfl⟩ (.cons ⟨_, rfl⟩ (.cons ⟨_, rfl⟩ (.cons ⟨_, rfl⟩ (.cons ⟨_, rfl⟩ (.cons ⟨_, rfl⟩ (.cons ⟨_, rfl⟩ (.cons ⟨_, rfl⟩ (.cons ⟨_, rfl⟩ (.cons ⟨_, rfl⟩ (.cons ⟨_, rfl⟩ (.cons ⟨_, rfl⟩ .nil)))))))))))))⟩⟩
  have RU := FnOk.cl (P := l.prog) (w := w) (base := base) (ok_run F_behind_run M) F_behind_run g_behind_run b_behind_run
  have CM := FnOk.cl (P := l.prog) (w := w) (base := base) (ok_cmt F_behind_comment M) F_behind_comment g_behind_comment b_behind_comment
  have GA := FnOk.cl (ok_gap F_behind_gap M GG CM) F_behind_gap g_behind_gap b_behind_gap
  have T_SE : OexC K C_SourceError := ⟨⟨_, _, _, _, _, _, _, _, _, _, _, _, _, _, _, ex_SourceError, erv_SourceError⟩, esa_SourceError, ee_SourceError, et_SourceError, ek_SourceError⟩
  have xf_SE : XfC K C_SourceError := ⟨ega_SourceError, egg_SourceError, ee_SourceError, eh_SourceError⟩
  have te_SE := exm_self ee_SourceError eic_SourceError et_SourceError ess_SourceError
  have U_SE : SupC l.prog K mg C_SourceError fI_SourceError (sF cc_SourceError cd_SourceError) _ := ⟨⟨_, _, _, _, _, _, el_SourceError, rfl⟩, ec_SourceError, ⟨_, _, _, _, _, _, eo_SourceError, ev2_SourceError, efl_SourceError⟩, ⟨_, _, _, _, rfl, exc_SourceError⟩, Option.isSome_iff_exists.mp eic_SourceError, emr_SourceError, PySem.W.mg_none_of X G ezs_SourceError, etp_SourceError, eoq_SourceError, esi_SourceError, esv_SourceError, T_SE, (show (defScope s_SourceError___init__).names.lookup ("super" : Str) = some .globalImplicit from by decide +kernel), (show (defScope s_SourceError___init__).names.lookup ("__class__" : Str) = some .free from by decide +kernel), (show (defScope s_SourceError___init__).names.lookup ("self" : Str) = some .local from by decide +kernel), ⟨_, rfl, rfl⟩⟩
  have SE : SrcE l.prog w K mg base C_SourceError := ⟨T_SE, PySem.W.mg_of X G ea_SourceError, _, _, ei_SourceError, eti_SourceError, ok_sinit U_SE en_line_SourceError en_column_SourceError en_message_SourceError, .all fun us hl => match us, hl with | [_, _, _, _], _ => rfl⟩

  have PL := FnOk.cl (P := l.prog) (w := w) (base := base) (mg := mg) (ok_place F_place) F_place g_place b_place
  have BT := FnOk.cl (P := l.prog) (w := w) (base := base) (ok_btn F_behind_text M) F_behind_text g_behind_text b_behind_text
  have RF := FnOk.clx (ok_refuse SE F_refuse M PL) F_refuse g_refuse b_refuse
  have RW := FnOk.clx (ok_rwx SE RF F_read_word M GG RU) F_read_word g_read_word b_read_word
  have RN := FnOk.clx (ok_rnx SE RF F_read_number M GG RU) F_read_number g_read_number b_read_number
  have RT := FnOk.clx (ok_rtx SE RF F_read_text M GG BT) F_read_text g_read_text b_read_text
  have RS := FnOk.clx (ok_rsx SE RF F_read_sign M GG) F_read_sign g_read_sign b_read_sign
  have RK := FnOk.clx (ok_rtokx F_read_token M GG RW RN RT RS) F_read_token g_read_token b_read_token
  have TK := FnOk.clx (ok_tokx F_tokens M GA RK) F_tokens g_tokens b_tokens
  have INI : ClCX l.prog w K mg base 7 "Reader" C_Reader (sp_initx C_Reader C_SourceError) := ⟨_, _, _, ok_initx F_Reader___init__ M ⟨cl_Reader, nf_Reader_source⟩ TK, mk0_Reader, g_Reader, b_Reader___init__⟩
  have PS := FnOk.clx (ok_psx F_parse_source M INI) F_parse_source g_parse_source b_parse_source
  have LE := FnOk.cl (ok_lerr F__law_error M SE xf_SE en_line_SourceError en_column_SourceError en_message_SourceError te_SE TK PS) F__law_error g__law_error b__law_error
  have N := FnOk.cl (P := l.prog) (w := w) (base := base) (ok_next F__law_next M) F__law_next g__law_next b__law_next
  have LF := FnOk.cl (ok_fault F__law_fault M N) F__law_fault g__law_fault b__law_fault
  exact ok_law F_law M (FnOk.cl (ok_draw F__law_draw M) F__law_draw g__law_draw b__law_draw) N LF LE⟩
end Lw
open PySem PySem.W PyProof.Rows
set_option maxHeartbeats 0 in
theorem PySem.Challenge.cw_lineworks_k03_unknown_characters_holds : PySem.Challenge.rw_lineworks_k03_unknown_characters.Holds := by
  w_on; o_law; k_head; (case hw => w_witness2)
  k_fill
  refine L2.walk_of (l := PySem.Challenge.rw_lineworks_k03_unknown_characters) (n := 63) (k := 11) (x := "script") (CX := fun _ => L2.CX0) (sp := fun w => Lw.sp_law _) rfl (by decide) rfl ⟨rfl, by decide, by decide⟩ (fun w h Y => PySem.W.kIn_of Y) ?F (fun _ _ a ns hl _ hS => ⟨a, ns, rfl, hS, hl, fun _ => rfl⟩) (fun _ _ _ _ _ h => h)
  case F =>
    intro w mg fa h KX G hmg
    refine' Lw.all_mk KX G hmg ?a0 ?l0 ?c0 ?k0 ?a1 ?l1 ?c1 ?k1 ?a2 ?l2 ?c2 ?k2 ?a3 ?l3 ?c3 ?k3 ?a4 ?l4 ?c4 ?k4 ?a5 ?l5 ?c5 ?k5 ?a6 ?l6 ?c6 ?k6 ?a7 ?l7 ?c7 ?k7 ?a8 ?l8 ?c8 ?k8 ?a9 ?l9 ?c9 ?k9 ?a10 ?l10 ?c10 ?k10 ?a11 ?l11 ?c11 ?k11 ?a12 ?i12 ?l12 ?c12 ?k12 ?a13 ?l13 ?c13 ?k13 ?a14 ?l14 ?c14 ?k14 ?a15 ?l15 ?c15 ?k15 ?a16 ?l16 ?c16 ?k16 ?a17 ?l17 ?c17 ?k17 ?a18 ?l18 ?c18 ?k18 ?w_BLANKS ?v_BLANKS ?w_SIGNS ?v_SIGNS ?w_DIGITS ?w_LETTERS ?w_MOST_WORD ?w_MOST_NUMBER ?w_MOST_TEXT ?aC_Reader ?pg_Reader ?hd_Reader ?po_Reader ?sa_Reader ?mk_Reader ?kc_Reader ?nf_Reader_at ?nf_Reader_found ?nf_Reader_source ?z_abs ?z_int ?z_len ?z_list ?z_range ?ea_SourceError ?ex_SourceError ?erv_SourceError ?esa_SourceError ?ega_SourceError ?egg_SourceError ?en_line_SourceError ?en_column_SourceError ?en_message_SourceError ?ei_SourceError ?eti_SourceError ?el_SourceError ?ec_SourceError ?eo_SourceError ?ev2_SourceError ?efl_SourceError ?exc_SourceError ?eic_SourceError ?emr_SourceError ?ezs_SourceError ?etp_SourceError ?eoq_SourceError ?esi_SourceError ?esv_SourceError ?ee_SourceError ?et_SourceError ?ek_SourceError ?eh_SourceError ?ess_SourceError
    (case aC_Reader => k_is)
    (case pg_Reader => k_is)
    (case hd_Reader => k_is)
    (case po_Reader => k_is)
    (case sa_Reader => k_is)
    (case mk_Reader => k_is)
    (case kc_Reader => k_is)
    (case nf_Reader_at => k_is)
    (case nf_Reader_found => k_is)
    (case nf_Reader_source => k_is)
    (case a0 => k_is); (case l0 => k_is); (case c0 => k_is); (case k0 => k_is)
    (case a1 => k_is); (case l1 => k_is); (case c1 => k_is); (case k1 => k_is)
    (case a2 => k_is); (case l2 => k_is); (case c2 => k_is); (case k2 => k_is)
    (case a3 => k_is); (case l3 => k_is); (case c3 => k_is); (case k3 => k_is)
    (case a4 => k_is); (case l4 => k_is); (case c4 => k_is); (case k4 => k_is)
    (case a5 => k_is); (case l5 => k_is); (case c5 => k_is); (case k5 => k_is)
    (case a6 => k_is); (case l6 => k_is); (case c6 => k_is); (case k6 => k_is)
    (case a7 => k_is); (case l7 => k_is); (case c7 => k_is); (case k7 => k_is)
    (case a8 => k_is); (case l8 => k_is); (case c8 => k_is); (case k8 => k_is)
    (case a9 => k_is); (case l9 => k_is); (case c9 => k_is); (case k9 => k_is)
    (case a10 => k_is); (case l10 => k_is); (case c10 => k_is); (case k10 => k_is)
    (case a11 => k_is); (case l11 => k_is); (case c11 => k_is); (case k11 => k_is)
    (case a12 => k_is); (case i12 => k_is); (case l12 => k_is); (case c12 => k_is); (case k12 => k_is)
    (case a13 => k_is); (case l13 => k_is); (case c13 => k_is); (case k13 => k_is)
    (case a14 => k_is); (case l14 => k_is); (case c14 => k_is); (case k14 => k_is)
    (case a15 => k_is); (case l15 => k_is); (case c15 => k_is); (case k15 => k_is)
    (case a16 => k_is); (case l16 => k_is); (case c16 => k_is); (case k16 => k_is)
    (case a17 => k_is); (case l17 => k_is); (case c17 => k_is); (case k17 => k_is)
    (case a18 => k_is); (case l18 => k_is); (case c18 => k_is); (case k18 => k_is)
    (case w_BLANKS => k_is)
    (case v_BLANKS => k_is)
    (case w_SIGNS => k_is)
    (case v_SIGNS => k_is)
    (case w_DIGITS => k_is)
    (case w_LETTERS => k_is)
    (case w_MOST_WORD => k_is)
    (case w_MOST_NUMBER => k_is)
    (case w_MOST_TEXT => k_is)
    (case z_abs => k_is); (case z_int => k_is); (case z_len => k_is); (case z_list => k_is); (case z_range => k_is)
    (case ea_SourceError => k_is)
    (case ex_SourceError => k_is)
    (case erv_SourceError => first | rfl | decide | decide +kernel)
    (case esa_SourceError => k_is)
    (case ega_SourceError => k_is)
    (case egg_SourceError => k_is)
    (case en_line_SourceError => k_is)
    (case en_column_SourceError => k_is)
    (case en_message_SourceError => k_is)
    (case ei_SourceError => k_is)
    (case eti_SourceError => k_is)
    (case el_SourceError => k_is)
    (case ec_SourceError => k_is)
    (case eo_SourceError => k_is)
    (case ev2_SourceError => rfl)
    (case efl_SourceError => first | rfl | decide | decide +kernel)
    (case exc_SourceError => k_is)
    (case eic_SourceError => k_is)
    (case emr_SourceError => k_is)
    (case ezs_SourceError => k_is)
    (case etp_SourceError => first | rfl | decide | decide +kernel)
    (case eoq_SourceError => k_is)
    (case esi_SourceError => ks_is)
    (case esv_SourceError => k_is)
    (case ee_SourceError => k_is)
    (case et_SourceError => k_is)
    (case ek_SourceError => k_is)
    (case eh_SourceError => k_is)
    (case ess_SourceError => k_is)

