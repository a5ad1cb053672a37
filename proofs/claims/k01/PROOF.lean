import PyProof.Rows.All
import Wide.All
import OpenK.AllK
import Wide.FinOn
import HandS.ForMost
import HandS.Wide
import HandS.IsInst
import HandS.Replace
import HandS.Codes
import HandS.StrMore
import PySem.Challenge.RW_lineworks_k01_tokens
set_option Elab.async false
set_option linter.all false
set_option maxRecDepth 100000
namespace Lw
open PySem PySem.Spec PyProof.Rows L2
def topS (i : Nat) : Stmt := PySem.Challenge.pw_lineworks_k01_tokens.main.body.getD i (.Pass ⟨0, 0, 0, 0⟩)
abbrev s_tokens : Stmt := topS 11
abbrev N_tokens : List Str := ["source", "found", "offset", "kind", "value", "end"]
theorem sc_tokens : FnScope N_tokens ["source"] (defScope s_tokens) := ⟨rfl, rfl, rfl, by decide +kernel, rfl, by decide +kernel, by decide +kernel⟩
abbrev s_place : Stmt := topS 12
abbrev N_place : List Str := ["source", "offset", "line", "column"]
theorem sc_place : FnScope N_place ["source", "offset"] (defScope s_place) := ⟨rfl, rfl, rfl, by decide +kernel, rfl, by decide +kernel, by decide +kernel⟩
abbrev s_behind_gap : Stmt := topS 13
abbrev N_behind_gap : List Str := ["source", "start", "end"]
theorem sc_behind_gap : FnScope N_behind_gap ["source", "start"] (defScope s_behind_gap) := ⟨rfl, rfl, rfl, by decide +kernel, rfl, by decide +kernel, by decide +kernel⟩
abbrev s_behind_comment : Stmt := topS 14
abbrev N_behind_comment : List Str := ["source", "start", "newline"]
theorem sc_behind_comment : FnScope N_behind_comment ["source", "start"] (defScope s_behind_comment) := ⟨rfl, rfl, rfl, by decide +kernel, rfl, by decide +kernel, by decide +kernel⟩
abbrev s_read_token : Stmt := topS 15
abbrev N_read_token : List Str := ["source", "start", "first"]
theorem sc_read_token : FnScope N_read_token ["source", "start"] (defScope s_read_token) := ⟨rfl, rfl, rfl, by decide +kernel, rfl, by decide +kernel, by decide +kernel⟩
abbrev s_read_word : Stmt := topS 16
abbrev N_read_word : List Str := ["source", "start", "end"]
theorem sc_read_word : FnScope N_read_word ["source", "start"] (defScope s_read_word) := ⟨rfl, rfl, rfl, by decide +kernel, rfl, by decide +kernel, by decide +kernel⟩
abbrev s_read_number : Stmt := topS 17
abbrev N_read_number : List Str := ["source", "start", "end"]
theorem sc_read_number : FnScope N_read_number ["source", "start"] (defScope s_read_number) := ⟨rfl, rfl, rfl, by decide +kernel, rfl, by decide +kernel, by decide +kernel⟩
abbrev s_read_text : Stmt := topS 18
abbrev N_read_text : List Str := ["source", "start", "end", "value"]
theorem sc_read_text : FnScope N_read_text ["source", "start"] (defScope s_read_text) := ⟨rfl, rfl, rfl, by decide +kernel, rfl, by decide +kernel, by decide +kernel⟩
abbrev s_read_sign : Stmt := topS 19
abbrev N_read_sign : List Str := ["source", "start", "begun", "sign"]
theorem sc_read_sign : FnScope N_read_sign ["source", "start"] (defScope s_read_sign) := ⟨rfl, rfl, rfl, by decide +kernel, rfl, by decide +kernel, by decide +kernel⟩
abbrev s_behind_run : Stmt := topS 20
abbrev N_behind_run : List Str := ["source", "start", "members", "end"]
theorem sc_behind_run : FnScope N_behind_run ["source", "start", "members"] (defScope s_behind_run) := ⟨rfl, rfl, rfl, by decide +kernel, rfl, by decide +kernel, by decide +kernel⟩
abbrev s_behind_text : Stmt := topS 21
abbrev N_behind_text : List Str := ["source", "start", "end"]
theorem sc_behind_text : FnScope N_behind_text ["source", "start"] (defScope s_behind_text) := ⟨rfl, rfl, rfl, by decide +kernel, rfl, by decide +kernel, by decide +kernel⟩
abbrev s_refuse : Stmt := topS 22
abbrev N_refuse : List Str := ["source", "offset", "line", "column"]
theorem sc_refuse : FnScope N_refuse ["source", "offset"] (defScope s_refuse) := ⟨rfl, rfl, rfl, by decide +kernel, rfl, by decide +kernel, by decide +kernel⟩
abbrev s__law_draw : Stmt := topS 24
abbrev N__law_draw : List Str := ["script"]
theorem sc__law_draw : FnScope N__law_draw ["script"] (defScope s__law_draw) := ⟨rfl, rfl, rfl, by decide +kernel, rfl, by decide +kernel, by decide +kernel⟩
abbrev s__law_next : Stmt := topS 25
abbrev N__law_next : List Str := ["draw", "many", "found", "cell"]
theorem sc__law_next : FnScope N__law_next ["draw", "many"] (defScope s__law_next) := ⟨rfl, rfl, rfl, by decide +kernel, rfl, by decide +kernel, by decide +kernel⟩
abbrev s__law_reserved : Stmt := topS 26
abbrev N__law_reserved : List Str := ["words"]
theorem sc__law_reserved : FnScope N__law_reserved [] (defScope s__law_reserved) := ⟨rfl, rfl, rfl, by decide +kernel, rfl, by decide +kernel, by decide +kernel⟩
abbrev s__law_name : Stmt := topS 27
abbrev N__law_name : List Str := ["draw", "letters", "size", "word", "k"]
theorem sc__law_name : FnScope N__law_name ["draw"] (defScope s__law_name) := ⟨rfl, rfl, rfl, by decide +kernel, rfl, by decide +kernel, by decide +kernel⟩
abbrev s__law_string : Stmt := topS 28
abbrev N__law_string : List Str := ["draw", "chars", "size", "k"]
theorem sc__law_string : FnScope N__law_string ["draw"] (defScope s__law_string) := ⟨rfl, rfl, rfl, by decide +kernel, rfl, by decide +kernel, by decide +kernel⟩
abbrev s__law_quoted : Stmt := topS 29
abbrev N__law_quoted : List Str := ["value"]
theorem sc__law_quoted : FnScope N__law_quoted ["value"] (defScope s__law_quoted) := ⟨rfl, rfl, rfl, by decide +kernel, rfl, by decide +kernel, by decide +kernel⟩
abbrev s__law_number : Stmt := topS 30
abbrev N__law_number : List Str := ["draw", "number", "k"]
theorem sc__law_number : FnScope N__law_number ["draw"] (defScope s__law_number) := ⟨rfl, rfl, rfl, by decide +kernel, rfl, by decide +kernel, by decide +kernel⟩
abbrev s__law_same : Stmt := topS 31
abbrev N__law_same : List Str := ["actual", "due", "k"]
theorem sc__law_same : FnScope N__law_same ["actual", "due"] (defScope s__law_same) := ⟨rfl, rfl, rfl, by decide +kernel, rfl, by decide +kernel, by decide +kernel⟩
abbrev s__law_token : Stmt := topS 32
abbrev N__law_token : List Str := ["draw", "form", "word", "number", "written", "value", "signs", "sign"]
theorem sc__law_token : FnScope N__law_token ["draw"] (defScope s__law_token) := ⟨rfl, rfl, rfl, by decide +kernel, rfl, by decide +kernel, by decide +kernel⟩
abbrev s_law : Stmt := topS 33
abbrev N_law : List Str := ["script", "draw", "gaps", "source", "due", "k", "kind", "value", "written"]
theorem sc_law : FnScope N_law ["script"] (defScope s_law) := ⟨rfl, rfl, rfl, by decide +kernel, rfl, by decide +kernel, by decide +kernel⟩
/-! ### heaps and calls -/
theorem same_upd {H : Hp} {p : Addr} {o : HO} (h : H p = none) : Same H (upd H p o) := fun b x e => by
  rw [upd_ne (ne_of_none e h)]
  exact e
/-- what stood stands, but for the object at d -/
def Fd (d : Addr) (H H' : Hp) : Prop := ∀ b o, b ≠ d → H b = some o → H' b = some o
theorem Fd.refl (d : Addr) (H : Hp) : Fd d H H := fun _ _ _ e => e
theorem Fd.trans {d : Addr} {H H1 H2 : Hp} (a : Fd d H H1) (b : Fd d H1 H2) : Fd d H H2 := fun c o n e => b c o n (a c o n e)
theorem Fd.of {d : Addr} {H H' : Hp} (a : Same H H') : Fd d H H' := fun b o _ e => a b o e
theorem Fd.new {d : Addr} {H : Hp} {p : Addr} {o : HO} (h : H p = none) : Fd d H (upd H p o) := Fd.of (same_upd h)
theorem Fd.at {d : Addr} {H : Hp} {o : HO} : Fd d H (upd H d o) := fun b x n e => by
  rw [upd_ne n]
  exact e
/-- a def that may be called by its name -/
structure Cl (P : Program) (w : World) (K : PySem.W.Frag) (mg : Str → Option Value) (base : Heap) (k : Nat) (x : Str) (sp : Sp) : Prop where
  ex : ∃ (f : Addr) (fd : FuncData) (ps : List Str), FnOk P w K mg base CX0 k f fd ps sp ∧ mg x = some (.ref f) ∧ PySem.W.keepIn K (.ref f) = true ∧ Binds K fd ps []
section
variable {X : Cx} {k j : Nat} {x : Str} {sp : Sp} {p pos : Pos} {e : Expr} {es : List Expr} {t : TA}
theorem pe_u (c : Cl X.prog X.w X.K X.mg X.base k x sp) (hr : Room j X.A) (hk : k ≤ j) (hg : Gl X x) (ha : PA X (e :: es) t)
    (hdb : (x == ("__debug__" : Str)) = false := by decide) (he : starEach (e :: es) X.env = (false, eval e X.env) :: starEach es X.env := by rfl) (hpl : (backTo pos (starEach es X.env)).any (·.1) = false := by rfl) :
    PE X (.Call (.Name x p) (e :: es) [] pos) (tCall sp [] E0 t) := by
  obtain ⟨f, fd, ps, F, hm, kp, b⟩ := c.ex
  exact pe_call F (hr.mono hk) hg hm kp b .nil pass0 ha hdb he hpl
theorem pe_u0 (c : Cl X.prog X.w X.K X.mg X.base k x sp) (hr : Room j X.A) (hk : k ≤ j) (hg : Gl X x) (hdb : (x == ("__debug__" : Str)) = false := by decide) : PE X (.Call (.Name x p) [] [] pos) (tCall sp [] E0 tNil) := by
  obtain ⟨f, fd, ps, F, hm, kp, b⟩ := c.ex
  exact pe_call0 F (hr.mono hk) hg hm kp b .nil pass0 hdb
end
theorem FnOk.cl {P : Program} {w : World} {K : PySem.W.Frag} {mg : Str → Option Value} {base : Heap} {k : Nat} {x q : Str} {st : Stmt} {f : Addr} {fd : FuncData} {ps : List Str} {sp : Sp} (h : FnOk P w K mg base CX0 k f fd ps sp) (F : Fun K x q st f fd) (g : mg x = some (.ref f)) (b : Binds K fd ps []) : Cl P w K mg base k x sp := ⟨f, fd, ps, h, g, F.kp, b⟩
/-! ### rules with the written part named (within a comprehension) -/
section
variable {X : Cx} (K : PySem.W.Frag)
theorem ix_listK (h : X.K = K := by rfl) : IxR X (rIxL K) := by subst h; exact ix_list
theorem ix_tupK (h : X.K = K := by rfl) : IxR X (rIxT K) := by subst h; exact ix_tup
theorem ix_seqK (h : X.K = K := by rfl) : IxR X (rIx K) := by subst h; exact ix_seq
theorem len_seqK (h : X.K = K := by rfl) : CallR X (.builtin "len") (fun xs H Q => ∃ p ys, xs = [.ref p] ∧ (SqL K H p ys ∨ SqT K H p ys) ∧ Q (.int ys.length) H) := by subst h; exact call_len_seq
theorem isiK (h : X.K = K := by rfl) : CallR X (.builtin "isinstance") (rIsi K) := by subst h; exact call_isi
theorem isiTK (h : X.K = K := by rfl) : CallR X (.builtin "isinstance") (rIsiT K) := by subst h; exact call_isiT
theorem allK (hc : X.calm = true) (h : X.K = K := by rfl) : CallR X (.builtin "all") (rAll K) := by subst h; exact cr_all hc
theorem listK (h : X.K = K := by rfl) : CallR X (.type "list") (fun xs H Q => ∃ p ys, xs = [.ref p] ∧ (SqL K H p ys ∨ SqT K H p ys) ∧ ∀ l, H l = none → Q (.ref l) (upd H l (.lst ys))) := by subst h; exact call_list_of
theorem tupleK (h : X.K = K := by rfl) : CallR X (.type "tuple") (fun xs H Q => ∃ p ys, xs = [.ref p] ∧ ((SqL K H p ys ∧ ∀ l, H l = none → Q (.ref l) (upd H l (.tup ys))) ∨ (SqT K H p ys ∧ Q (.ref p) H))) := by subst h; exact call_tuple_of
theorem inK (h : X.K = K := by rfl) : OpR X (compareOp .In) (rIn K false) := by subst h; exact op_in_seq
theorem notInK (h : X.K = K := by rfl) : OpR X (compareOp .NotIn) (rIn K true) := by subst h; exact op_notIn_seq
theorem pe_bmK {T : String} {name : Str} {id : String} {r : V → List V → Hp → VK → Prop} {o e : Expr} {es : List Expr} {to : TE} {t : TA} {apos cpos : Pos} (pa : PlainAttrs T) (slot : Slot T name id) (hty : typeOf (.builtin id) = pure (.type "method_descriptor")) (hm : MtR X id r) (ho : PE X o to) (ha : PA X (e :: es) t) (hK : X.K = K := by rfl)
    (hbase : attributeBase o name X.env (eval o X.env) = eval o X.env := by rfl)
    (hfew : ((backTo cpos (starEach (e :: es) X.env)).all (fun x => !x.1) && (backToKw cpos (keywordEach [] X.env)).all (fun x => x.1.isSome)
      && decide ((e :: es).length + ([] : List Keyword).length + (if ([] : List Keyword).isEmpty then 0 else 1) < 30)) = true := by rfl)
    (hline : (apos.endLine == cpos.line) = true := by rfl) (hs : starEach (e :: es) X.env = (false, eval e X.env) :: starEach es X.env := by rfl) (hplain : (backTo cpos (starEach es X.env)).any (·.1) = false := by rfl) :
    PE X (.Call (.Attribute o name apos) (e :: es) [] cpos) (tBM K T r to t) := by subst hK; exact pe_bm pa slot hty hm ho ha hbase hfew hline hs hplain
theorem pt_truthK {a : Expr} {ta : TE} (ha : PE X a ta) (he : ∀ whole, isTrue a X.env whole = (do let v ← whole; standAt a.pos; holding [v] (truthy v))) (h : X.K = K := by rfl) : PT X a (fun σ H Q => ta σ H fun x H' => ∃ k, TruV K x H' k ∧ Q k H') := by subst h; exact pt_truth ha he
theorem eqDK (hu : X.A.units + 64 < cLine) (h : X.K = K := by rfl) : OpR X (compareOp .Eq) (rEqD K) := by subst h; exact op_eqD hu
theorem neDK (hu : X.A.units + 64 < cLine) (h : X.K = K := by rfl) : OpR X (compareOp .NotEq) (rNeD K) := by subst h; exact op_neD hu
end
/-- over the signs of a text -/
theorem for_strs {x : Str} {g : TG} {tb : TS} {D : Ends} {σ : L2.St} {H : Hp} (Pv : Nat → L2.St → Hp → Prop) (h0 : Pv 0 σ H)
    (hs : ∀ i c σ H, x.cps.toList[i]? = some c → Pv i σ H → g (.str ⟨#[c]⟩) σ H fun σ2 H2 => tb { D with nx := Pv (i + 1), ct := Pv (i + 1), bk := D.nx } σ2 H2) (hd : ∀ σ H, Pv x.cps.toList.length σ H → D.nx σ H) :
    ∃ W : Nat → Nat → L2.St → Hp → Prop, (∃ m, W 0 m σ H) ∧ ∀ i m σ H, W i m σ H →
      ((Its x).stop i H ∧ D.nx σ H) ∨ ((Its x).go i H ∧ ∃ N : L2.St → Hp → Prop, (∀ σ' H', N σ' H' → ∃ m', m' < m ∧ W (i + 1) m' σ' H') ∧ ∀ v H', (Its x).yld i H v H' → g v σ H' fun σ2 H2 => tb { D with nx := N, ct := N, bk := D.nx } σ2 H2) := by
  have es : x.cps.toList.length = x.cps.size := by simp
  refine ⟨fun i m σ H => m = x.cps.size - i ∧ i ≤ x.cps.size ∧ Pv i σ H, ⟨x.cps.size, by simp, Nat.zero_le _, h0⟩, ?_⟩
  rintro i m σ H ⟨rfl, hi, p⟩
  by_cases hlt : i < x.cps.size
  · refine .inr ⟨hlt, Pv (i + 1), fun σ' H' p' => ⟨x.cps.size - (i + 1), by omega, rfl, hlt, p'⟩, fun v H' y => ?_⟩
    obtain ⟨e, c, hc, rfl⟩ := y
    subst e
    exact hs i c σ _ (by rw [Array.getElem?_toList]; exact hc) p
  · have e : i = x.cps.size := by omega
    subst e
    exact .inl ⟨Nat.le_refl _, hd σ H (by rw [es]; exact p)⟩
theorem joinL0 : ∀ ps : List (List Nat), TL.joinL [] ps = ps.flatten
  | [] => rfl
  | [p] => by
    show p = p ++ []
    rw [List.append_nil]
  | p :: q :: r => by
    show p ++ ([] ++ TL.joinL [] (q :: r)) = p ++ (q :: r).flatten
    rw [joinL0 (q :: r), List.nil_append]
theorem join0 (ys : List Str) : Txt.join ⟨#[]⟩ ys = ⟨((ys.map TL.tl).flatten).toArray⟩ := by
  refine TL.ext_tl ?_
  rw [TL.join_eq, TL.tl_join]
  show TL.joinL [] _ = _
  rw [joinL0]
theorem flat_len : ∀ ys : List Str, ((ys.map TL.tl).flatten).length = (ys.map (·.length)).sum
  | [] => rfl
  | y :: ys => by
    rw [List.map_cons, List.flatten_cons, List.length_append, flat_len ys, List.map_cons, List.sum_cons]
    show y.cps.toList.length + _ = _
    rw [Array.length_toList]
    rfl
theorem S_len' (l : List Nat) : (⟨l.toArray⟩ : Str).length = l.length := by simp [Str.length]
theorem cut_to (l : List Nat) {o : Nat} (h : o ≤ l.length) : cutS ⟨l.toArray⟩ none (some (o : Int)) = ⟨(l.take o).toArray⟩ := by
  unfold cutS
  rw [HT.sIx_none, HT.sIx_nat, S_len', Nat.sub_zero, Nat.min_eq_left h]
  show (⟨((l.drop 0).take o).toArray⟩ : Str) = _
  rw [List.drop_zero]
theorem str1 (c : Nat) (d : Nat) : decide (V.str ⟨#[c]⟩ = V.str ⟨#[d]⟩) = decide (c = d) := by
  by_cases h : c = d
  · subst h
    rw [decide_eq_true rfl, decide_eq_true rfl]
  · rw [decide_eq_false h, decide_eq_false]
    intro e
    have e1 := V.str.inj e
    have e2 := Array.toList_inj.mpr (Str.mk.inj e1)
    exact h (by simpa using e2)

structure Mg (mg : Str → Option Value) : Prop where
  abs : mg "abs" = none
  all : mg "all" = none
  bool : mg "bool" = none
  int : mg "int" = none
  isinstance : mg "isinstance" = none
  len : mg "len" = none
  list : mg "list" = none
  range : mg "range" = none
  str : mg "str" = none
  tuple : mg "tuple" = none
/-! ### the law's draws: a list of the script's copy, a place in it, what is left of a great number, a seed -/
def Dr (H : Hp) (d c : Addr) : Prop := c ≠ d ∧ ∃ (ns : List Int) (pos rest seed : Int), H d = some (.lst [.ref c, .int pos, .int rest, .int seed]) ∧ H c = some (.lst (ns.map V.int)) ∧ 0 ≤ pos ∧ 0 ≤ rest ∧ 0 ≤ seed ∧ seed < 2147483647
theorem Dr.ext {H H' : Hp} {d c : Addr} (h : Dr H d c) (e : Same H H') : Dr H' d c := by
  obtain ⟨n, ns, pos, rest, seed, h1, h2, r⟩ := h
  exact ⟨n, ns, pos, rest, seed, e _ _ h1, e _ _ h2, r⟩
theorem Dr.upd {H : Hp} {d c p : Addr} {o : HO} (h : Dr H d c) (n1 : p ≠ d) (n2 : p ≠ c) : Dr (upd H p o) d c := by
  obtain ⟨n, ns, pos, rest, seed, h1, h2, r⟩ := h
  exact ⟨n, ns, pos, rest, seed, by rw [upd_ne n1.symm]; exact h1, by rw [upd_ne n2.symm]; exact h2, r⟩
theorem Dr.nd {H : Hp} {d c p : Addr} (h : Dr H d c) (n : H p = none) : p ≠ d := by
  obtain ⟨_, ns, pos, rest, seed, h1, _⟩ := h
  exact (ne_of_none h1 n).symm
theorem Dr.nc {H : Hp} {d c p : Addr} (h : Dr H d c) (n : H p = none) : p ≠ c := by
  obtain ⟨_, ns, pos, rest, seed, _, h2, _⟩ := h
  exact (ne_of_none h2 n).symm
theorem Dr.lst {H : Hp} {d c : Addr} (h : Dr H d c) : ∃ zs, H d = some (.lst zs) := by
  obtain ⟨_, ns, pos, rest, seed, h1, _⟩ := h
  exact ⟨_, h1⟩
theorem Dr.lift {H H' : Hp} {d c d' c' : Addr} (_h : Dr H d c) (h' : Dr H' d' c') : Dr H' d' c' := h'
def sp_draw (K : PySem.W.Frag) : Sp := fun vs H Q _ => ∃ (a : Addr) (ns : List Int), vs = [.ref a] ∧ SqL K H a (ns.map V.int) ∧ ∀ H' d c, Same H H' → H d = none → Dr H' d c → Q (.ref d) H'
/-- a draw: some number below many -/
def sp_next : Sp := fun vs H Q _ => ∃ (d c : Addr) (many : Int), vs = [.ref d, .int many] ∧ Dr H d c ∧ 1 ≤ many ∧ many < 2 ^ 64 ∧ ∀ H' r, Fd d H H' → (∀ p, p ≠ d → H' p = H p) → Dr H' d c → 0 ≤ r → r < many → Q (.int r) H'
section
variable {P : Program} {w : World} {K : PySem.W.Frag} {mg : Str → Option Value} {base : Heap}
theorem ok_draw {f : Addr} {fd : FuncData} (F : Fun K "_law_draw" "_law_draw" s__law_draw f fd) (M : Mg mg) : FnOk P w K mg base CX0 1 f fd ["script"] (sp_draw K) := by
  refine F.ok sc__law_draw (fun vs H Q E h => ?_) (fun cdv A outer s H vs Q E hr h => ?_)
  · obtain ⟨a, ns, rfl, _⟩ := h
    rfl
  · obtain ⟨a, ns, rfl, hS, q⟩ := h
    refine ⟨_, (pss_one (ps_ret (pe_lst (pa_cons (pe_callTy (listK K) (by rfl) M.list (by decide +kernel) (pa_cons (pv 0) pa_nil)) (pa_cons pe_int (pa_cons pe_int (pa_cons pe_int pa_nil))))))), ?_⟩
    refine ⟨_, rfl, a, _, rfl, .inl hS, fun c nc => ?_⟩
    refine ⟨by show 4 ≤ sizeLine; decide, fun d nd => ?_⟩
    have hc : (upd H c (.lst (ns.map V.int))) c = some (.lst (ns.map V.int)) := upd_same
    have ncd : c ≠ d := ne_of_none hc nd
    have s1 := (same_upd nc (o := .lst (ns.map V.int))).trans (same_upd nd (o := .lst [.ref c, .int 0, .int 0, .int 17]))
    refine q _ d c s1 ((same_upd nc).free nd) ⟨ncd, ns, 0, 0, 17, upd_same, ?_, by decide, by decide, by decide, by decide⟩
    rw [upd_ne ncd]
    exact hc
theorem next_aux {H : Hp} {d c : Addr} {xs' : List V} {pos rest seed : Int} {ns : List Int} (hn : c ≠ d) (h2 : H c = some (.lst (ns.map V.int))) (hx : xs' = [.ref c, .int pos, .int rest, .int seed]) (h0 : 0 ≤ pos) (h1 : 0 ≤ rest) (h3 : 0 ≤ seed) (h4 : seed < 2147483647) : Dr (upd H d (.lst xs')) d c := by
  subst hx
  refine ⟨hn, ns, pos, rest, seed, upd_same, ?_, h0, h1, h3, h4⟩
  rw [upd_ne hn]
  exact h2
theorem ok_next {f : Addr} {fd : FuncData} (F : Fun K "_law_next" "_law_next" s__law_next f fd) (M : Mg mg) : FnOk P w K mg base CX0 1 f fd ["draw", "many"] sp_next := by
  refine F.ok sc__law_next (fun vs H Q E h => ?_) (fun cdv A outer s H vs Q E hr h => ?_)
  · obtain ⟨d, c, many, rfl, _⟩ := h
    rfl
  · obtain ⟨d, c, many, rfl, ⟨ncd, ns, pos, rest, seed, h1, h2, h0, h3, h4, h5⟩, hm1, hm2, q⟩ := h
    have hdv : ∀ x : Int, CDivW x many := fun x => wide_div (b := 64) (by omega) (by omega) (by decide) (by decide)
    have hcd : d ≠ c := ncd.symm
    have L0 : SqL K H d [.ref c, .int pos, .int rest, .int seed] := .of h1
    have at0 : ∀ (a b e g : V), atI [a, b, e, g] (0 : Int) = some a := fun a b e g => atI_nat (j := 0) rfl
    have at1 : ∀ (a b e g : V), atI [a, b, e, g] (1 : Int) = some b := fun a b e g => atI_nat (j := 1) rfl
    have at2 : ∀ (a b e g : V), atI [a, b, e, g] (2 : Int) = some e := fun a b e g => atI_nat (j := 2) rfl
    have at3 : ∀ (a b e g : V), atI [a, b, e, g] (3 : Int) = some g := fun a b e g => atI_nat (j := 3) rfl
    have fr : ∀ (H0 : Hp) (o : HO), (∀ p, p ≠ d → H0 p = H p) → (∀ p, p ≠ d → (upd H0 d o) p = H p) := fun H0 o e p n => by rw [upd_ne n]; exact e p n
    have fF : ∀ (H0 : Hp), (∀ p, p ≠ d → H0 p = H p) → Fd d H H0 := fun H0 e b o n h => by rw [e b n]; exact h
    -- the last row's value
    have last : ∀ (seed' : Int), 0 ≤ seed' → seed' < 2147483647 → ∀ H0 : Hp, (∀ p, p ≠ d → H0 p = H p) → (∃ pos rest, H0 d = some (.lst [.ref c, .int pos, .int rest, .int seed']) ∧ 0 ≤ pos ∧ 0 ≤ rest) → Q (.int ((seed' * 69621 % 2147483629 / 7) % many)) H0 := by
      intro seed' g0 g1 H0 e ⟨pos', rest', g2, g3, g4⟩
      exact q H0 _ (fF _ e) e ⟨ncd, ns, pos', rest', seed', g2, by rw [e c ncd]; exact h2, g3, g4, g0, g1⟩ (Int.emod_nonneg _ (by omega)) (Int.emod_lt_of_pos _ (by omega))
    refine ⟨_, (pss_cons (ps_if (pt_cmpR op_gt (pe_ix (ix_listK K) (pv 0) pe_int (fun _ _ => rfl)) pe_int (nomark _)) (pss_cons (ps_set (i := 2) sc__law_next.nd rfl (.inl rfl) (pe_op op_mod (pe_callTy call_int1 (by rfl) M.int (by decide +kernel) (pa_cons (pe_ix (ix_listK K) (pv 0) pe_int (fun _ _ => rfl)) pa_nil)) (pv 1)))
      (pss_cons (ps_asg (pe_op op_fdivW (pe_ix (ix_listK K) (pv 0) pe_int (fun _ _ => rfl)) (pv 1)) (pg_sub (pv 0) pe_int set_list))
      (pss_one (ps_ret (pv 2))))) pss_nil)
      (pss_cons (ps_if (pt_cmpR op_lt (pe_ix (ix_listK K) (pv 0) pe_int (fun _ _ => rfl)) (pe_callB (len_seqK K) (by rfl) M.len PySem.boot_len (pa_cons (pe_ix (ix_listK K) (pv 0) pe_int (fun _ _ => rfl)) pa_nil)) (nomark _)) (pss_cons (ps_set (i := 3) sc__law_next.nd rfl (.inl rfl) (pe_callB call_abs (by rfl) M.abs (by decide +kernel) (pa_cons (pe_ix (ix_listK K) (pe_ix (ix_listK K) (pv 0) pe_int (fun _ _ => rfl)) (pe_ix (ix_listK K) (pv 0) pe_int (fun _ _ => rfl)) (fun _ _ => rfl)) pa_nil)))
      (pss_cons (ps_asg (pe_op op_add (pe_ix (ix_listK K) (pv 0) pe_int (fun _ _ => rfl)) pe_int) (pg_sub (pv 0) pe_int set_list))
      (pss_cons (ps_if (pt_cmpR op_ge (pv 3) (pe_op op_pow pe_int pe_int) (nomark _)) (pss_cons (ps_asg (pe_op op_fdivW (pv 3) (pv 1)) (pg_sub (pv 0) pe_int set_list))
      (pss_one (ps_ret (pe_op op_mod (pe_callTy call_int1 (by rfl) M.int (by decide +kernel) (pa_cons (pv 3) pa_nil)) (pv 1))))) pss_nil)
      (pss_one (ps_asg (pe_op op_mod (pe_callTy call_int1 (by rfl) M.int (by decide +kernel) (pa_cons (pe_op op_add (pe_op op_add (pe_op op_mul (pe_ix (ix_listK K) (pv 0) pe_int (fun _ _ => rfl)) pe_int) (pv 3)) pe_int) pa_nil)) pe_int) (pg_sub (pv 0) pe_int set_list)))))) (pss_one (ps_asg (pe_op op_mod (pe_callTy call_int1 (by rfl) M.int (by decide +kernel) (pa_cons (pe_op op_add (pe_op op_mul (pe_ix (ix_listK K) (pv 0) pe_int (fun _ _ => rfl)) pe_int) pe_int) pa_nil)) pe_int) (pg_sub (pv 0) pe_int set_list))))
      (pss_one (ps_ret (pe_op op_mod (pe_op op_fdivW (pe_callTy call_int1 (by rfl) M.int (by decide +kernel) (pa_cons (pe_op op_mod (pe_op op_mul (pe_ix (ix_listK K) (pv 0) pe_int (fun _ _ => rfl)) pe_int) pe_int) pa_nil)) pe_int) (pv 1)))))), ?_⟩
    refine ⟨_, rfl, d, _, 2, .int rest, rfl, rfl, L0, at2 .., ?_⟩
    refine ⟨_, _, rfl, rfl, _, rfl, ite2 (fun e => ?_) (fun e => ?_)⟩
    · -- draw[2] > 0
      have hr0 : 0 < rest := of_decide_eq_true e
      refine ⟨_, rfl, d, _, 2, .int rest, rfl, rfl, L0, at2 .., .inl ⟨_, rfl, ?_⟩⟩
      refine ⟨_, rfl, _, _, rfl, rfl, by omega, ?_⟩
      refine ⟨_, rfl, d, _, 2, .int rest, rfl, rfl, L0, at2 .., ?_⟩
      refine ⟨_, rfl, _, _, rfl, rfl, hdv _, ?_⟩
      refine ⟨_, rfl, d, _, 2, 2, rfl, rfl, h1, rfl, ?_⟩
      refine ⟨_, rfl, ?_⟩
      have e1 := fr H (.lst ([.ref c, .int pos, .int rest, .int seed].set 2 (.int (rest / many)))) (fun _ _ => rfl)
      exact q _ _ (fF _ e1) e1 (next_aux ncd h2 rfl h0 (Int.ediv_nonneg h3 (by omega)) h4 h5) (Int.emod_nonneg _ (by omega)) (Int.emod_lt_of_pos _ (by omega))
    · refine ⟨_, rfl, d, _, 1, .int pos, rfl, rfl, L0, at1 .., ?_⟩
      refine ⟨_, rfl, d, _, 0, .ref c, rfl, rfl, L0, at0 .., ?_⟩
      refine ⟨c, _, rfl, .inl (.of h2), ?_⟩
      refine ⟨_, _, rfl, rfl, _, rfl, ite2 (fun e2 => ?_) (fun e2 => ?_)⟩
      · have hp : pos < ((ns.map V.int).length : Int) := of_decide_eq_true e2
        rw [List.length_map] at hp
        obtain ⟨i, rfl⟩ := Int.eq_ofNat_of_zero_le h0
        have hi : i < ns.length := by omega
        have hat : atI (ns.map V.int) ((i : Nat) : Int) = some (.int ns[i]) := atI_nat (by rw [List.getElem?_map, List.getElem?_eq_getElem hi]; rfl)
        -- cell = abs(..)
        refine ⟨_, rfl, d, _, 0, .ref c, rfl, rfl, L0, at0 .., ?_⟩
        refine ⟨_, rfl, d, _, 1, _, rfl, rfl, L0, at1 .., ?_⟩
        refine ⟨c, _, _, _, rfl, rfl, .of h2, hat, ?_⟩
        refine ⟨_, rfl, ?_⟩
        have hcell : (0 : Int) ≤ (if ns[i] < 0 then -ns[i] else ns[i]) := by split <;> omega
        generalize (if ns[i] < 0 then -ns[i] else ns[i]) = cell at hcell
        -- draw[1] = draw[1] + 1
        refine ⟨_, rfl, d, _, 1, _, rfl, rfl, L0, at1 .., ?_⟩
        refine ⟨_, _, rfl, rfl, ?_⟩
        refine ⟨_, rfl, d, _, 1, 1, rfl, rfl, h1, rfl, ?_⟩
        have hd1 : (upd H d (.lst ([.ref c, .int ((i : Nat) : Int), .int rest, .int seed].set 1 (.int ((i : Nat) + 1))))) d = some (.lst [.ref c, .int ((i : Nat) + 1), .int rest, .int seed]) := upd_same
        have e1 := fr H (.lst ([.ref c, .int ((i : Nat) : Int), .int rest, .int seed].set 1 (.int ((i : Nat) + 1)))) (fun _ _ => rfl)
        generalize upd H d (.lst ([.ref c, .int ((i : Nat) : Int), .int rest, .int seed].set 1 (.int ((i : Nat) + 1)))) = H1 at hd1 e1
        have h2' : H1 c = some (.lst (ns.map V.int)) := by rw [e1 c ncd]; exact h2
        -- cell >= 10 ** 18
        refine ⟨_, rfl, _, _, rfl, rfl, ⟨by decide, by decide, by decide⟩, ?_⟩
        refine ⟨_, _, rfl, rfl, _, rfl, ite2 (fun e3 => ?_) (fun e3 => ?_)⟩
        · refine ⟨_, rfl, _, rfl, _, _, rfl, rfl, hdv _, ?_⟩
          refine ⟨_, rfl, d, _, 2, 2, rfl, rfl, hd1, rfl, ?_⟩
          refine ⟨_, rfl, .inl ⟨_, rfl, ?_⟩⟩
          refine ⟨_, rfl, _, _, rfl, rfl, by omega, ?_⟩
          have e5 := fr H1 (.lst ([.ref c, .int ((i : Nat) + 1), .int rest, .int seed].set 2 (.int (cell / many)))) e1
          exact q _ _ (fF _ e5) e5 (next_aux ncd h2' rfl (by omega) (Int.ediv_nonneg hcell (by omega)) h4 h5) (Int.emod_nonneg _ (by omega)) (Int.emod_lt_of_pos _ (by omega))
        · -- draw[3] = ..
          refine ⟨_, rfl, d, _, 3, .int seed, rfl, rfl, .of hd1, at3 .., ?_⟩
          refine ⟨_, _, rfl, rfl, .inl ⟨by omega, by omega⟩, ?_⟩
          refine ⟨_, rfl, _, _, rfl, rfl, ?_⟩
          refine ⟨_, _, rfl, rfl, .inl ⟨_, rfl, ?_⟩⟩
          refine ⟨_, _, rfl, rfl, by show (0 : Int) < 2147483647; decide, ?_⟩
          refine ⟨_, rfl, d, _, 3, 3, rfl, rfl, hd1, rfl, ?_⟩
          have hs0 : 0 ≤ (seed * 48271 + cell + 11) % 2147483647 := Int.emod_nonneg _ (by decide)
          have hs1 : (seed * 48271 + cell + 11) % 2147483647 < 2147483647 := Int.emod_lt_of_pos _ (by decide)
          have e5 := fr H1 (.lst ([.ref c, .int ((i : Nat) + 1), .int rest, .int seed].set 3 (.int ((seed * 48271 + cell + 11) % 2147483647)))) e1
          have hd5 : (upd H1 d (.lst ([.ref c, .int ((i : Nat) + 1), .int rest, .int seed].set 3 (.int ((seed * 48271 + cell + 11) % 2147483647))))) d = some (.lst [.ref c, .int ((i : Nat) + 1), .int rest, .int ((seed * 48271 + cell + 11) % 2147483647)]) := upd_same
          dsimp only
          generalize (seed * 48271 + cell + 11) % 2147483647 = seed' at hs0 hs1 e5 hd5 ⊢
          refine ⟨_, rfl, d, _, 3, .int seed', rfl, rfl, .of hd5, at3 .., ?_⟩
          refine ⟨_, _, rfl, rfl, .inl ⟨by omega, by omega⟩, ?_⟩
          refine ⟨_, _, rfl, rfl, by show (0 : Int) < 2147483629; decide, .inl ⟨_, rfl, ?_⟩⟩
          refine ⟨_, _, rfl, rfl, ⟨by decide, by decide⟩, ?_⟩
          refine ⟨_, rfl, _, _, rfl, rfl, by omega, ?_⟩
          exact last seed' hs0 hs1 _ e5 ⟨_, _, hd5, by omega, h3⟩
      · -- draw[3] = ..
        refine ⟨_, rfl, d, _, 3, .int seed, rfl, rfl, L0, at3 .., ?_⟩
        refine ⟨_, _, rfl, rfl, .inl ⟨by omega, by omega⟩, ?_⟩
        refine ⟨_, _, rfl, rfl, .inl ⟨_, rfl, ?_⟩⟩
        refine ⟨_, _, rfl, rfl, by show (0 : Int) < 2147483647; decide, ?_⟩
        refine ⟨_, rfl, d, _, 3, 3, rfl, rfl, h1, rfl, ?_⟩
        have hs0 : 0 ≤ (seed * 48271 + 12345) % 2147483647 := Int.emod_nonneg _ (by decide)
        have hs1 : (seed * 48271 + 12345) % 2147483647 < 2147483647 := Int.emod_lt_of_pos _ (by decide)
        have e5 := fr H (.lst ([.ref c, .int pos, .int rest, .int seed].set 3 (.int ((seed * 48271 + 12345) % 2147483647)))) (fun _ _ => rfl)
        have hd5 : (upd H d (.lst ([.ref c, .int pos, .int rest, .int seed].set 3 (.int ((seed * 48271 + 12345) % 2147483647))))) d = some (.lst [.ref c, .int pos, .int rest, .int ((seed * 48271 + 12345) % 2147483647)]) := upd_same
        dsimp only
        generalize (seed * 48271 + 12345) % 2147483647 = seed' at hs0 hs1 e5 hd5 ⊢
        refine ⟨_, rfl, d, _, 3, .int seed', rfl, rfl, .of hd5, at3 .., ?_⟩
        refine ⟨_, _, rfl, rfl, .inl ⟨by omega, by omega⟩, ?_⟩
        refine ⟨_, _, rfl, rfl, by show (0 : Int) < 2147483629; decide, .inl ⟨_, rfl, ?_⟩⟩
        refine ⟨_, _, rfl, rfl, ⟨by decide, by decide⟩, ?_⟩
        refine ⟨_, rfl, _, _, rfl, rfl, by omega, ?_⟩
        exact last seed' hs0 hs1 _ e5 ⟨_, _, hd5, h0, h3⟩
end

/-! ### data in the heap -/
theorem SqT.ext {K : PySem.W.Frag} {H H' : Hp} {a : Addr} {xs : List V} (e : Same H H') (h : SqT K H a xs) : SqT K H' a xs := by
  rcases h with (h | ⟨o, h⟩) | h
  · exact .inl (.inl (e _ _ h))
  · exact .inl (.inr ⟨o, e _ _ h⟩)
  · exact .inr h
mutual
theorem Dp.ext {K : PySem.W.Frag} {H H' : Hp} (e : Same H H') : ∀ (d : PyData) (v : V), Dp K H v d → Dp K H' v d
  | .none, _, h => by cases h; exact .non
  | .bool b, _, h => by cases h; exact .bl b
  | .int i, _, h => by cases h; exact .int i
  | .str x, _, h => by cases h; exact .str x
  | .list ds, _, h => by
    cases h with
    | lst hs ha => exact .lst (e.seq hs) (DpAll.ext e ds _ ha)
  | .tuple ds, _, h => by
    cases h with
    | tup hs ha => exact .tup (SqT.ext e hs) (DpAll.ext e ds _ ha)
  | .dict _, _, h => by cases h
theorem DpAll.ext {K : PySem.W.Frag} {H H' : Hp} (e : Same H H') : ∀ (ds : List PyData) (vs : List V), DpAll K H vs ds → DpAll K H' vs ds
  | [], _, h => by cases h; exact .nil
  | d :: ds, _, h => by
    cases h with
    | cons h1 h2 => exact .cons (Dp.ext e d _ h1) (DpAll.ext e ds _ h2)
end
theorem DpAll.len {K : PySem.W.Frag} {H : Hp} : ∀ {ds : List PyData} {vs : List V}, DpAll K H vs ds → vs.length = ds.length
  | [], _, h => by cases h; rfl
  | d :: ds, _, h => by
    cases h with
    | cons h1 h2 => exact congrArg (· + 1) (DpAll.len h2)
theorem DpAll.get {K : PySem.W.Frag} {H : Hp} : ∀ {ds : List PyData} {vs : List V} {i : Nat} {d : PyData}, DpAll K H vs ds → ds[i]? = some d → ∃ v, vs[i]? = some v ∧ Dp K H v d
  | [], _, _, _, _, e => by simp at e
  | x :: ds, _, 0, d, h, e => by
    cases h with
    | cons h1 h2 =>
      have e1 : x = d := Option.some.inj e
      subst e1
      exact ⟨_, rfl, h1⟩
  | x :: ds, _, i + 1, d, h, e => by
    cases h with
    | cons h1 h2 =>
      obtain ⟨v, hv, hd⟩ := DpAll.get (i := i) h2 (by simpa using e)
      exact ⟨v, by simpa using hv, hd⟩
theorem tyL {K : PySem.W.Frag} {H : Hp} {a : Addr} {xs : List V} (h : SqL K H a xs) : TyX K H (.ref a) (.type "list") := by
  rcases h with (h | ⟨o, h⟩) | ⟨o, its, n, h, c, _⟩
  · exact .base (.lst h)
  · exact .base (.frz h)
  · exact .kList h c
theorem tyT {K : PySem.W.Frag} {H : Hp} {a : Addr} {xs : List V} (h : SqT K H a xs) : TyX K H (.ref a) (.type "tuple") := by
  rcases h with (h | ⟨o, h⟩) | ⟨o, its, n, h, c, _⟩
  · exact .base (.tup h)
  · exact .fTuple h
  · exact .kTuple h c
mutual
/-- no list within -/
def tupOnly : PyData → Bool
  | .list _ => false
  | .dict _ => false
  | .tuple ds => tupOnlys ds
  | _ => true
def tupOnlys : List PyData → Bool
  | [] => true
  | d :: ds => tupOnly d && tupOnlys ds
end
mutual
theorem Dp.away {K : PySem.W.Frag} {H : Hp} {D : Addr} {zs : List V} {o : HO} (hD : H D = some (.lst zs)) : ∀ (d : PyData) (v : V), tupOnly d = true → Dp K H v d → Dp K (upd H D o) v d
  | .none, _, _, h => by cases h; exact .non
  | .bool b, _, _, h => by cases h; exact .bl b
  | .int i, _, _, h => by cases h; exact .int i
  | .str x, _, _, h => by cases h; exact .str x
  | .list ds, _, e, _ => by unfold tupOnly at e; cases e
  | .tuple ds, _, e, h => by
    unfold tupOnly at e
    cases h with
    | @tup a _ _ hs ha =>
      refine .tup ?_ (DpAll.away hD ds _ e ha)
      rcases hs with (hs | ⟨o', hs⟩) | hs
      · exact .inl (.inl (by rw [upd_ne (ne_of hs hD (fun z => nomatch z))]; exact hs))
      · exact .inl (.inr ⟨o', by rw [upd_ne (ne_of hs hD (fun z => nomatch z))]; exact hs⟩)
      · exact .inr hs
  | .dict _, _, _, h => by cases h
theorem DpAll.away {K : PySem.W.Frag} {H : Hp} {D : Addr} {zs : List V} {o : HO} (hD : H D = some (.lst zs)) : ∀ (ds : List PyData) (vs : List V), tupOnlys ds = true → DpAll K H vs ds → DpAll K (upd H D o) vs ds
  | [], _, _, h => by cases h; exact .nil
  | d :: ds, _, e, h => by
    unfold tupOnlys at e
    rw [Bool.and_eq_true] at e
    cases h with
    | cons h1 h2 => exact .cons (Dp.away hD d _ e.1 h1) (DpAll.away hD ds _ e.2 h2)
end
theorem DpAll.snoc {K : PySem.W.Frag} {H : Hp} : ∀ {ds : List PyData} {xs : List V} {v : V} {d : PyData}, DpAll K H xs ds → Dp K H v d → DpAll K H (xs ++ [v]) (ds ++ [d])
  | [], _, _, _, h, h2 => by cases h; exact .cons h2 .nil
  | _ :: ds, _, _, _, h, h2 => by
    cases h with
    | cons a b => exact .cons a (DpAll.snoc b h2)
theorem at_0 {α : Type} {xs : List α} {i : Nat} {v : α} (h : xs[i]? = some v) : atI xs (0 + (i : Int)) = some v := by
  rw [Int.zero_add]
  exact atI_nat h
mutual
/-- what is made of tuples stands when another list is changed -/
theorem Dp.fd {K : PySem.W.Frag} {H H' : Hp} {D : Addr} (hD : ∃ zs, H D = some (.lst zs)) (e : Fd D H H') : ∀ (d : PyData) (v : V), tupOnly d = true → Dp K H v d → Dp K H' v d
  | .none, _, _, h => by cases h; exact .non
  | .bool b, _, _, h => by cases h; exact .bl b
  | .int i, _, _, h => by cases h; exact .int i
  | .str x, _, _, h => by cases h; exact .str x
  | .list ds, _, e, _ => by unfold tupOnly at e; cases e
  | .tuple ds, _, e', h => by
    unfold tupOnly at e'
    obtain ⟨zs, hz⟩ := hD
    cases h with
    | @tup a _ _ hs ha =>
      refine .tup ?_ (DpAll.fd ⟨zs, hz⟩ e ds _ e' ha)
      rcases hs with (hs | ⟨o', hs⟩) | hs
      · exact .inl (.inl (e _ _ (ne_of hs hz (fun z => nomatch z)) hs))
      · exact .inl (.inr ⟨o', e _ _ (ne_of hs hz (fun z => nomatch z)) hs⟩)
      · exact .inr hs
  | .dict _, _, _, h => by cases h
theorem DpAll.fd {K : PySem.W.Frag} {H H' : Hp} {D : Addr} (hD : ∃ zs, H D = some (.lst zs)) (e : Fd D H H') : ∀ (ds : List PyData) (vs : List V), tupOnlys ds = true → DpAll K H vs ds → DpAll K H' vs ds
  | [], _, _, h => by cases h; exact .nil
  | d :: ds, _, e', h => by
    unfold tupOnlys at e'
    rw [Bool.and_eq_true] at e'
    cases h with
    | cons h1 h2 => exact .cons (Dp.fd hD e d _ e'.1 h1) (DpAll.fd hD e ds _ e'.2 h2)
end

/-! ### two data that are the same -/
/-- data of some depth, their lists not too long -/
inductive Sh : Nat → PyData → Prop
  | non {n : Nat} : Sh n .none
  | bl {n : Nat} (b : Bool) : Sh n (.bool b)
  | int {n : Nat} (i : Int) : Sh n (.int i)
  | str {n : Nat} (x : Str) : Sh n (.str x)
  | lst {n : Nat} {ds : List PyData} (l : ds.length ≤ 100000) (h : ∀ d ∈ ds, Sh n d) : Sh (n + 1) (.list ds)
  | tup {n : Nat} {ds : List PyData} (l : ds.length ≤ 100000) (h : ∀ d ∈ ds, Sh n d) : Sh (n + 1) (.tuple ds)
def tnm : PyData → String
  | .none => "NoneType"
  | .bool _ => "bool"
  | .int _ => "int"
  | .str _ => "str"
  | .list _ => "list"
  | .tuple _ => "tuple"
  | .dict _ => "dict"
theorem tyD {K : PySem.W.Frag} {H : Hp} {v : V} {d : PyData} (h : Dp K H v d) : TyX K H v (.type (tnm d)) := by
  cases h with
  | non => exact .base .non
  | bl b => exact .base (.bl b)
  | int i => exact .base (.int i)
  | str x => exact .base (.str x)
  | lst hs _ => exact tyL hs
  | tup hs _ => exact tyT hs
theorem k_any2 {K : PySem.W.Frag} {tn c1 c2 : String} {r1 r2 : Bool} (h1 : kitB tn c1 = some r1) (h2 : kitB tn c2 = some r2) : PySem.W.kitAny K (.type tn) [.type c1, .type c2] = some (r1 || r2) :=
  kitAny_cons (kit_ty h1) (fun e => by
    rw [e, Bool.false_or]
    exact kitAny_cons (b := r2) (kit_ty h2) (fun e2 => by rw [e2]; exact kitAny_nil) (fun e2 => e2)) (fun e => by rw [e, Bool.true_or])
theorem rep_bl (n : Nat) : (List.replicate n true).all id = true := by
  rw [List.all_replicate]
  simp
def sp_same (K : PySem.W.Frag) (n : Nat) : Sp := fun vs H Q _ => ∃ (x y : V) (D : PyData) (m : Nat), n = m + 1 ∧ vs = [x, y] ∧ Sh m D ∧ Dp K H x D ∧ Dp K H y D ∧ ∀ H', Same H H' → Q (.bl true) H'
section
variable {P : Program} {w : World} {K : PySem.W.Frag} {mg : Str → Option Value} {base : Heap}
theorem ok_same {f : Addr} {fd : FuncData} {n l : Nat} (F : Fun K "_law_same" "_law_same" s__law_same f fd) (M : Mg mg) (c__law_same : Cl P w K mg base l "_law_same" (sp_same K n)) : FnOk P w K mg base CX0 (l + 1) f fd ["actual", "due"] (sp_same K (n + 1)) := by
  refine F.ok sc__law_same (fun vs H Q E h => ?_) (fun cdv A outer s H vs Q E hr h => ?_)
  · obtain ⟨x, y, D, m, _, rfl, _⟩ := h
    rfl
  · obtain ⟨x, y, D, m, em, rfl, sh, hx, hy, q⟩ := h
    refine ⟨_, (pss_cons (ps_if (pt_val (pe_callB (isiTK K) (by rfl) M.isinstance (by decide +kernel) (pa_cons (pv 1) (pa_cons (pe_tup (pa_cons (pe_bltn (v := .ty "list") (by rfl) M.list (by decide +kernel) rfl) (pa_cons (pe_bltn (v := .ty "tuple") (by rfl) M.tuple (by decide +kernel) rfl) pa_nil))) pa_nil)))) (pss_cons (ps_if (PW.pt (pw_or (pt_cmpR op_ne (pe_callB (isiK K) (by rfl) M.isinstance (by decide +kernel) (pa_cons (pv 1) (pa_cons (pe_bltn (v := .ty "list") (by rfl) M.list (by decide +kernel) rfl) pa_nil))) (pe_callB (isiK K) (by rfl) M.isinstance (by decide +kernel) (pa_cons (pv 0) (pa_cons (pe_bltn (v := .ty "list") (by rfl) M.list (by decide +kernel) rfl) pa_nil))) (nomark _)) (pw_or1 (pt_cmpR op_ne (pe_callB (isiK K) (by rfl) M.isinstance (by decide +kernel) (pa_cons (pv 1) (pa_cons (pe_bltn (v := .ty "tuple") (by rfl) M.tuple (by decide +kernel) rfl) pa_nil))) (pe_callB (isiK K) (by rfl) M.isinstance (by decide +kernel) (pa_cons (pv 0) (pa_cons (pe_bltn (v := .ty "tuple") (by rfl) M.tuple (by decide +kernel) rfl) pa_nil))) (nomark _))))) (pss_one (ps_ret pe_bl)) pss_nil)
      (pss_cons (ps_if (pt_cmpR op_ne (pe_callB (len_seqK K) (by rfl) M.len PySem.boot_len (pa_cons (pv 0) pa_nil)) (pe_callB (len_seqK K) (by rfl) M.len PySem.boot_len (pa_cons (pv 1) pa_nil)) (nomark _)) (pss_one (ps_ret pe_bl)) pss_nil)
      (pss_one (ps_ret (pe_callB (allK K rfl) (by rfl) M.all (by decide +kernel) (pa_cons (pe_lc (own := [("k", 2)]) (g := gName 2) (tt := tYes) rfl sc__law_same.nd (pi_range1 (by rfl) M.range (pa_cons (pe_callB (len_seqK K) (by rfl) M.len PySem.boot_len (pa_cons (pv 1) pa_nil)) pa_nil)) (blkOk_by (N := N__law_same) (sc := defScope s__law_same) (by decide +kernel)) (fun _ _ _ _ _ => (pg_name (i := 2) sc__law_same.nd rfl (.inl rfl))) (fun _ _ _ _ _ => pts_nil) (fun _ _ _ _ _ => (pe_u c__law_same hr (by first | decide | omega) (by rfl) (pa_cons (pe_ix (ix_seqK K) (pv 0) (pv 2) (fun _ _ => rfl)) (pa_cons (pe_ix (ix_seqK K) (pv 1) (pv 2) (fun _ _ => rfl)) pa_nil))))) pa_nil)))))) pss_nil)
      (pss_cons (ps_if (pt_cmpR op_isN (pv 1) pe_non (nomark _)) (pss_one (ps_ret (pe_cmpR op_isN (pv 0) pe_non (nomark _)))) pss_nil)
      (pss_cons (ps_if (pt_cmpR op_ne (pe_callB (isiK K) (by rfl) M.isinstance (by decide +kernel) (pa_cons (pv 1) (pa_cons (pe_bltn (v := .ty "bool") (by rfl) M.bool (by decide +kernel) rfl) pa_nil))) (pe_callB (isiK K) (by rfl) M.isinstance (by decide +kernel) (pa_cons (pv 0) (pa_cons (pe_bltn (v := .ty "bool") (by rfl) M.bool (by decide +kernel) rfl) pa_nil))) (nomark _)) (pss_one (ps_ret pe_bl)) pss_nil)
      (pss_cons (ps_if (pt_val (pe_callB (isiK K) (by rfl) M.isinstance (by decide +kernel) (pa_cons (pv 1) (pa_cons (pe_bltn (v := .ty "str") (by rfl) M.str (by decide +kernel) rfl) pa_nil)))) (pss_one (ps_ret (pe_and (pe_callB (isiK K) (by rfl) M.isinstance (by decide +kernel) (pa_cons (pv 0) (pa_cons (pe_bltn (v := .ty "str") (by rfl) M.str (by decide +kernel) rfl) pa_nil))) (pe_one (pe_cmpR op_eq (pv 0) (pv 1) (nomark _)))))) pss_nil)
      (pss_one (ps_ret (pe_and (pe_callB (isiK K) (by rfl) M.isinstance (by decide +kernel) (pa_cons (pv 0) (pa_cons (pe_bltn (v := .ty "int") (by rfl) M.int (by decide +kernel) rfl) pa_nil))) (pe_one (pe_cmpR op_eq (pv 0) (pv 1) (nomark _)))))))))), ?_⟩
    refine ⟨_, rfl, by show 2 ≤ sizeLine; decide, fun p np => ?_⟩
    have s1 : Same H (upd H p (.tup [.ty "list", .ty "tuple"])) := same_upd np
    have h1 : (upd H p (.tup [.ty "list", .ty "tuple"])) p = some (.tup [.ty "list", .ty "tuple"]) := upd_same
    generalize upd H p (.tup [.ty "list", .ty "tuple"]) = H1 at s1 h1
    have hx1 := Dp.ext s1 D x hx
    have hy1 := Dp.ext s1 D y hy
    have key : (∃ (a b : Addr) (xs ys : List V) (ds : List PyData) (k : Nat) (tn : String) (r1 r2 : Bool), x = .ref a ∧ y = .ref b ∧ (SqL K H1 a xs ∧ SqL K H1 b ys ∨ SqT K H1 a xs ∧ SqT K H1 b ys) ∧ DpAll K H1 xs ds ∧ DpAll K H1 ys ds ∧ ds.length ≤ 100000 ∧ m = k + 1 ∧ (∀ d ∈ ds, Sh k d) ∧
        TyX K H1 x (.type tn) ∧ TyX K H1 y (.type tn) ∧ kitB tn "list" = some r1 ∧ kitB tn "tuple" = some r2 ∧ (r1 || r2) = true) ∨
        (∃ (tn : String), TyX K H1 x (.type tn) ∧ TyX K H1 y (.type tn) ∧ kitB tn "list" = some false ∧ kitB tn "tuple" = some false ∧ (x = .non ∧ y = .non ∨ (∃ b, x = .bl b ∧ y = .bl b ∧ tn = "bool") ∨ (∃ i, x = .int i ∧ y = .int i ∧ tn = "int") ∨ (∃ z, x = .str z ∧ y = .str z ∧ tn = "str"))) := by
      cases sh with
      | non => cases hx1; cases hy1; exact .inr ⟨"NoneType", .base .non, .base .non, by decide +kernel, by decide +kernel, .inl ⟨rfl, rfl⟩⟩
      | bl b => cases hx1; cases hy1; exact .inr ⟨"bool", .base (.bl b), .base (.bl b), by decide +kernel, by decide +kernel, .inr (.inl ⟨b, rfl, rfl, rfl⟩)⟩
      | int i => cases hx1; cases hy1; exact .inr ⟨"int", .base (.int i), .base (.int i), by decide +kernel, by decide +kernel, .inr (.inr (.inl ⟨i, rfl, rfl, rfl⟩))⟩
      | str z => cases hx1; cases hy1; exact .inr ⟨"str", .base (.str z), .base (.str z), by decide +kernel, by decide +kernel, .inr (.inr (.inr ⟨z, rfl, rfl, rfl⟩))⟩
      | lst l h =>
        cases hx1 with
        | lst hs ha =>
          cases hy1 with
          | lst hs' ha' => exact .inl ⟨_, _, _, _, _, _, "list", true, false, rfl, rfl, .inl ⟨hs, hs'⟩, ha, ha', l, rfl, h, tyL hs, tyL hs', by decide +kernel, by decide +kernel, rfl⟩
      | tup l h =>
        cases hx1 with
        | tup hs ha =>
          cases hy1 with
          | tup hs' ha' => exact .inl ⟨_, _, _, _, _, _, "tuple", false, true, rfl, rfl, .inr ⟨hs, hs'⟩, ha, ha', l, rfl, h, tyT hs, tyT hs', by decide +kernel, by decide +kernel, rfl⟩
    rcases key with ⟨a, b, xs, ys, ds, k, tn, r1, r2, rfl, rfl, hq, ha, hb, hl, ek, hk, tx, ty, k1, k2, kr⟩ | ⟨tn, tx, ty, k1, k2, hs⟩
    · -- a list or a tuple
      have ex := DpAll.len ha
      have ey := DpAll.len hb
      have hqa : SqL K H1 a xs ∨ SqT K H1 a xs := hq.elim (fun z => .inl z.1) (fun z => .inr z.1)
      have hqb : SqL K H1 b ys ∨ SqT K H1 b ys := hq.elim (fun z => .inl z.2) (fun z => .inr z.2)
      refine ⟨_, _, _, _, _, _, rfl, h1, .cons (.ty _) (.cons (.ty _) .nil), ty, k_any2 k1 k2, ?_⟩
      refine ⟨_, rfl, ?_⟩
      rw [kr]
      refine iteT ?_
      -- the kinds
      refine ⟨_, rfl, ⟨_, _, _, _, _, rfl, .ty _, ty, kit_ty k1, _, rfl, ⟨_, _, _, _, _, rfl, .ty _, tx, kit_ty k1, rfl, _, rfl, ?_⟩⟩⟩
      rw [decide_eq_true (rfl : V.bl r1 = V.bl r1)]
      refine iteF ?_
      refine ⟨_, rfl, ⟨_, _, _, _, _, rfl, .ty _, ty, kit_ty k2, _, rfl, ⟨_, _, _, _, _, rfl, .ty _, tx, kit_ty k2, rfl, _, rfl, ?_⟩⟩⟩
      rw [decide_eq_true (rfl : V.bl r2 = V.bl r2)]
      refine iteF ?_
      -- the lengths
      refine ⟨_, rfl, a, xs, rfl, hqa, ⟨_, rfl, b, ys, rfl, hqb, rfl, _, rfl, ?_⟩⟩
      rw [ex, ey, decide_eq_true (rfl : V.int (ds.length : Int) = V.int (ds.length : Int))]
      refine iteF ?_
      -- by places
      refine ⟨_, rfl, b, ys, rfl, hqb, _, rfl, by omega, by omega, fun D nD => ?_⟩
      rw [ey]
      refine lc_range (lo := 0) (n := ((ds.length : Nat) : Int).toNat) (fun i Hi => Same H1 Hi ∧ Hi D = some (.lst ((List.replicate i true).map V.bl))) ⟨same_upd nD, upd_same⟩ (fun i Hi hi hp => ?_) (fun Hn hp => ?_)
      · obtain ⟨si, eD⟩ := hp
        have hi2 : i < ds.length := by omega
        obtain ⟨va, hva, da⟩ := DpAll.get (DpAll.ext si ds xs ha) (List.getElem?_eq_getElem hi2)
        obtain ⟨vb, hvb, db⟩ := DpAll.get (DpAll.ext si ds ys hb) (List.getElem?_eq_getElem hi2)
        have ia : rIx K (.ref a) (.int (0 + (i : Int))) Hi = rIx K (.ref a) (.int (0 + (i : Int))) Hi := rfl
        refine ⟨rfl, ?_⟩
        have go : ∀ (c : Addr) (zs : List V) (v : V) (Q : VK), (SqL K H1 c zs ∨ SqT K H1 c zs) → zs[i]? = some v → Q v Hi → rIx K (.ref c) (.int (0 + (i : Int))) Hi Q := fun c zs v Q hz hv hQ => by
          rcases hz with hz | hz
          · exact .inl ⟨c, zs, _, v, rfl, rfl, si.seq hz, at_0 hv, hQ⟩
          · exact .inr (.inl ⟨c, zs, _, v, rfl, rfl, SqT.ext si hz, at_0 hv, hQ⟩)
        refine ⟨_, rfl, _, rfl, go a xs va _ hqa hva ⟨_, rfl, _, rfl, go b ys vb _ hqb hvb ?_⟩⟩
        refine ⟨va, vb, ds[i], k, by omega, rfl, hk _ (List.getElem_mem hi2), da, db, fun H' s' => ?_⟩
        refine ⟨_, s' _ _ eD, ?_, fun b o e => ?_, ?_⟩
        · rw [List.length_map, List.length_replicate]
          exact Nat.lt_of_lt_of_le (m := 100000) (by omega) (by decide)
        · have nb : b ≠ D := ne_of_none e nD
          rw [upd_ne nb]
          exact s' _ _ (si _ _ e)
        · rw [upd_same, List.replicate_succ', List.map_append]
          rfl
      · obtain ⟨si, eD⟩ := hp
        refine ⟨D, _, rfl, .of eD, ?_⟩
        rw [rep_bl]
        exact q _ (s1.trans si)
    · -- neither
      refine ⟨_, _, _, _, _, _, rfl, h1, .cons (.ty _) (.cons (.ty _) .nil), ty, k_any2 k1 k2, ?_⟩
      refine ⟨_, rfl, iteF ?_⟩
      rcases hs with ⟨rfl, rfl⟩ | ⟨b, rfl, rfl, rfl⟩ | ⟨i, rfl, rfl, rfl⟩ | ⟨z, rfl, rfl, rfl⟩
      · -- None
        refine ⟨_, rfl, rfl, _, rfl, iteT ?_⟩
        refine ⟨_, rfl, rfl, ?_⟩
        exact q _ s1
      · refine ⟨_, rfl, rfl, _, rfl, iteF ?_⟩
        refine ⟨_, rfl, ⟨_, _, _, _, _, rfl, .ty _, ty, kit_ty (show kitB _ _ = some true by decide +kernel), _, rfl, ⟨_, _, _, _, _, rfl, .ty _, tx, kit_ty (show kitB _ _ = some true by decide +kernel), rfl, _, rfl, iteF ?_⟩⟩⟩
        refine ⟨_, rfl, ⟨_, _, _, _, _, rfl, .ty _, ty, kit_ty (show kitB _ _ = some false by decide +kernel), _, rfl, iteF ?_⟩⟩
        refine ⟨_, rfl, ⟨_, _, _, _, _, rfl, .ty _, tx, kit_ty (show kitB _ _ = some true by decide +kernel), _, rfl, iteT ?_⟩⟩
        refine ⟨_, rfl, _, rfl, by cases b <;> rfl, ?_⟩
        rw [decide_eq_true (rfl : V.bl b = V.bl b)]
        exact q _ s1
      · refine ⟨_, rfl, rfl, _, rfl, iteF ?_⟩
        refine ⟨_, rfl, ⟨_, _, _, _, _, rfl, .ty _, ty, kit_ty (show kitB _ _ = some false by decide +kernel), _, rfl, ⟨_, _, _, _, _, rfl, .ty _, tx, kit_ty (show kitB _ _ = some false by decide +kernel), rfl, _, rfl, iteF ?_⟩⟩⟩
        refine ⟨_, rfl, ⟨_, _, _, _, _, rfl, .ty _, ty, kit_ty (show kitB _ _ = some false by decide +kernel), _, rfl, iteF ?_⟩⟩
        refine ⟨_, rfl, ⟨_, _, _, _, _, rfl, .ty _, tx, kit_ty (show kitB _ _ = some true by decide +kernel), _, rfl, iteT ?_⟩⟩
        refine ⟨_, rfl, _, rfl, rfl, ?_⟩
        rw [decide_eq_true (rfl : V.int i = V.int i)]
        exact q _ s1
      · refine ⟨_, rfl, rfl, _, rfl, iteF ?_⟩
        refine ⟨_, rfl, ⟨_, _, _, _, _, rfl, .ty _, ty, kit_ty (show kitB _ _ = some false by decide +kernel), _, rfl, ⟨_, _, _, _, _, rfl, .ty _, tx, kit_ty (show kitB _ _ = some false by decide +kernel), rfl, _, rfl, iteF ?_⟩⟩⟩
        refine ⟨_, rfl, ⟨_, _, _, _, _, rfl, .ty _, ty, kit_ty (show kitB _ _ = some true by decide +kernel), _, rfl, iteT ?_⟩⟩
        refine ⟨_, rfl, ⟨_, _, _, _, _, rfl, .ty _, tx, kit_ty (show kitB _ _ = some true by decide +kernel), _, rfl, iteT ?_⟩⟩
        refine ⟨_, rfl, _, rfl, rfl, ?_⟩
        rw [decide_eq_true (rfl : V.str z = V.str z)]
        exact q _ s1
/-- no data at all: where the recursion ends -/
theorem ok_same0 {f : Addr} {fd : FuncData} (F : Fun K "_law_same" "_law_same" s__law_same f fd) : FnOk P w K mg base CX0 1 f fd ["actual", "due"] (sp_same K 0) := by
  refine F.ok sc__law_same (fun vs H Q E h => ?_) (fun cdv A outer s H vs Q E hr h => ?_)
  · obtain ⟨x, y, D, m, e, _⟩ := h
    exact absurd e (by omega)
  · obtain ⟨x, y, D, m, e, _⟩ := h
    exact absurd e (by omega)
/-- of any depth -/
theorem cl_same {f : Addr} {fd : FuncData} (F : Fun K "_law_same" "_law_same" s__law_same f fd) (M : Mg mg) (g : mg "_law_same" = some (.ref f)) (b : Binds K fd ["actual", "due"] []) : ∀ n : Nat, Cl P w K mg base (n + 1) "_law_same" (sp_same K n)
  | 0 => FnOk.cl (ok_same0 F) F g b
  | n + 1 => FnOk.cl (ok_same F M (cl_same F M g b n)) F g b
end

/-! ### x.replace('a', 'b') of two written texts: behind something that gave a token out -/
section
variable {X : Cx}
def EPG (X : Cx) (pins : List (Addr × Obj)) (σ : L2.St) (Q : VK) (u : Value) (s' : Shared) : Prop := 1 ≤ s'.toks ∧ EP X pins σ Q u s'
def PEG (X : Cx) (e : Expr) (t : TE) : Prop :=
  ∀ (pins : List (Addr × Obj)) (s : Shared) (σ : L2.St) (H : Hp) (Q : VK), Inv X pins σ H s → t σ H Q → wpAny (model X.prog X.w) X.A (eval e X.env) (EPG X pins σ Q) X.xe s
theorem peg_str {c : Str} {j : Nat} {pos : Pos} : PEG X (.Constant (.str c) j pos) (tC (.str c)) := fun pins s σ H Q I h =>
  Calls.Constant_str ⟨by show 1 ≤ s.toks + 1; omega, .str c, H, I.tok (s.toks + 1), ⟨_, rfl⟩, h⟩
theorem peg_add {a b : Expr} {ta tb : TE} {pos : Pos} (ha : PE X a ta) (hb : PE X b tb) : PEG X (.BinOp a .Add b pos) (tOp (rI0 fun i j => .int (i + j)) ta tb) := by
  intro pins s σ H Q I h
  refine wpAny_BinOp (thn (ha.run pins s σ H _ I h) fun v s1 ⟨x, H1, I1, r1, q1⟩ => thn (hb.run pins s1 σ H1 _ I1 q1) fun u s2 ⟨y, H2, I2, r2, q2⟩ => ?_)
  obtain ⟨i, j, rfl, rfl, q⟩ := q2
  obtain ⟨t1, rfl⟩ := r1
  obtain ⟨t2, rfl⟩ := r2
  exact PyProof.Rows.add_int ⟨by show 1 ≤ s2.toks + 1; omega, .int (i + j), H2, I2.tok (s2.toks + 1), ⟨_, rfl⟩, q⟩
theorem peg_slice {r : V → Option Int → Option Int → Hp → VK → Prop} {e lo hi : Expr} {te tl th : TE} {p2 pos : Pos} (hr : SlR X r) (he : PE X e te) (hl : PEG X lo tl) (hu : PE X hi th) :
    PEG X (.Subscript e (.Slice (some lo) (some hi) none p2) pos) (tSl r te (tPart tl) (tPart th)) := by
  intro pins s σ H Q I h
  refine Subscript_ (thn (he.run pins s σ H _ I h) fun v s1 ⟨x, H1, I1, r1, q1⟩ => ?_)
  refine wpAny_Slice ?_
  rw [evalPart_some]
  refine thn (hl pins s1 σ H1 _ I1 q1) fun vl s2 ⟨g2, yl, H2, I2, r2, q2⟩ => ?_
  obtain ⟨l, rfl, q2⟩ := q2
  obtain ⟨tl', rfl⟩ := r2
  rw [evalPart_some]
  refine wpAny_mono (PySem.wpAny_toks_of g2 (hu.run pins s2 σ H2 _ I2 q2)) (fun vu s3 z => ?_) fun _ _ z => z.2
  obtain ⟨g3, yu, H3, I3, r3, q3⟩ := z
  obtain ⟨u, rfl, q3⟩ := q3
  obtain ⟨tu', rfl⟩ := r3
  rw [evalPart_none]
  refine wpAny_pure ?_
  have I4 : Inv X pins σ H3 { s3 with heap := s3.heap.push { cls := .type "slice", data := .fields #[.int l tl', .int u tu', .none] } } := I3.kept (t' := s3.toks) fun b ob q => Heap.get?_push_of_some _ q
  obtain ⟨T, id, hT, ht, hg⟩ := hr pins { s3 with heap := s3.heap.push { cls := .type "slice", data := .fields #[.int l tl', .int u tu', .none] } } σ H3 x v (.int l tl') (.int u tu') (some l) (some u) s3.heap.objs.size Q I4 r1 (Heap.IsSliceOf.new ..) (.int l tl') (.int u tu') q3
  show wpAny (model X.prog X.w) X.A (subscriptTail e (.Slice (some lo) (some hi) none p2) v (.ref s3.heap.objs.size)) (EPG X pins σ Q) X.xe { s3 with heap := s3.heap.push { cls := .type "slice", data := .fields #[.int l tl', .int u tu', .none] } }
  refine tail_any (ops := [.ref s3.heap.objs.size, v]) ht hT ?_ (by with_unfolding_all rfl)
  exact wpAny_mono (PySem.wpAny_toks_of (n := 1) (show 1 ≤ s3.toks from g3) hg) (fun _ _ z => z) fun _ _ z => z.2
def tRpl (y z : Str) (to : TE) : TE := fun σ H Q => to σ H fun v H1 => ∃ x : Str, v = .str x ∧ x.length + (x.length + 1) * z.length ≤ 16777216 ∧ Q (.str (Txt.replace x y z)) H1
theorem pet_rpl {o : Expr} {to : TE} {y z : Str} {j0 j1 : Nat} {c0 c1 apos cpos : Pos} (ho : PE X o to) (hyz : (y == z) = false)
    (hbase : attributeBase o "replace" X.env (eval o X.env) = eval o X.env := by rfl)
    (hfew : ((backTo cpos (starEach [.Constant (.str y) j0 c0, .Constant (.str z) j1 c1] X.env)).all (fun x => !x.1) && (backToKw cpos (keywordEach [] X.env)).all (fun x => x.1.isSome)
      && decide ([Expr.Constant (.str y) j0 c0, .Constant (.str z) j1 c1].length + ([] : List Keyword).length + (if ([] : List Keyword).isEmpty then 0 else 1) < 30)) = true := by rfl)
    (hline : (apos.endLine == cpos.line) = true := by rfl) :
    PET X (.Call (.Attribute o "replace" apos) [.Constant (.str y) j0 c0, .Constant (.str z) j1 c1] [] cpos) (tRpl y z to) := by
  intro pins s σ H Q g I h
  refine wpAny_Call_method_late hbase hfew hline rfl (wpAny_mono (PySem.wpAny_toks_of g (ho.run pins s σ H _ I h)) (fun v s1 w => ?_) fun _ _ w => w.2)
  obtain ⟨g1, xv, H1, I1, r1, x, rfl, hb, q⟩ := w
  obtain ⟨tx, rfl⟩ := r1
  refine ⟨"str", "str.replace", F.plainAttrs_str, F.slot_str_replace, F.type_str_replace, typeIs_str _ _ _, (fun _ e => nomatch e), ?_⟩
  refine Calls.callWith_builtin rfl (Calls.evalArgs_plain ?_)
  show wpAny _ _ (spliced ((false, eval (.Constant (.str y) j0 c0) X.env) :: backTo cpos (starEach [.Constant (.str z) j1 c1] X.env))) _ _ s1
  refine Calls.spliced_cons (Calls.Constant_str ?_)
  show wpAny _ _ (spliced ((false, eval (.Constant (.str z) j1 c1) X.env) :: backTo cpos (starEach [] X.env))) _ _ _
  refine Calls.spliced_cons (Calls.Constant_str (Calls.spliced_nil ?_))
  have g1' : 1 ≤ s1.toks := g1
  exact PySem.SC.replace (show s1.toks ≠ 0 by omega) (show s1.toks + 1 ≠ 0 by omega) (show s1.toks ≠ s1.toks + 1 by omega) hyz hb fun t' k => ⟨.str (Txt.replace x y z), H1, I1.tok k, ⟨t', rfl⟩, q⟩
theorem pe_rplG {o : Expr} {to : TE} {y z : Str} {j0 j1 : Nat} {c0 c1 apos cpos : Pos} (ho : PEG X o to) (hyz : (y == z) = false)
    (hbase : attributeBase o "replace" X.env (eval o X.env) = eval o X.env := by rfl)
    (hfew : ((backTo cpos (starEach [.Constant (.str y) j0 c0, .Constant (.str z) j1 c1] X.env)).all (fun x => !x.1) && (backToKw cpos (keywordEach [] X.env)).all (fun x => x.1.isSome)
      && decide ([Expr.Constant (.str y) j0 c0, .Constant (.str z) j1 c1].length + ([] : List Keyword).length + (if ([] : List Keyword).isEmpty then 0 else 1) < 30)) = true := by rfl)
    (hline : (apos.endLine == cpos.line) = true := by rfl) :
    PE X (.Call (.Attribute o "replace" apos) [.Constant (.str y) j0 c0, .Constant (.str z) j1 c1] [] cpos) (tRpl y z to) := by
  refine ⟨fun pins s σ H Q I h => ?_⟩
  refine wpAny_Call_method_late hbase hfew hline rfl (wpAny_mono (ho pins s σ H _ I h) (fun v s1 w => ?_) fun _ _ w => w)
  obtain ⟨g1, xv, H1, I1, r1, x, rfl, hb, q⟩ := w
  obtain ⟨tx, rfl⟩ := r1
  refine ⟨"str", "str.replace", F.plainAttrs_str, F.slot_str_replace, F.type_str_replace, typeIs_str _ _ _, (fun _ e => nomatch e), ?_⟩
  refine Calls.callWith_builtin rfl (Calls.evalArgs_plain ?_)
  show wpAny _ _ (spliced ((false, eval (.Constant (.str y) j0 c0) X.env) :: backTo cpos (starEach [.Constant (.str z) j1 c1] X.env))) _ _ s1
  refine Calls.spliced_cons (Calls.Constant_str ?_)
  show wpAny _ _ (spliced ((false, eval (.Constant (.str z) j1 c1) X.env) :: backTo cpos (starEach [] X.env))) _ _ _
  refine Calls.spliced_cons (Calls.Constant_str (Calls.spliced_nil ?_))
  have g1' : 1 ≤ s1.toks := g1
  exact PySem.SC.replace (show s1.toks ≠ 0 by omega) (show s1.toks + 1 ≠ 0 by omega) (show s1.toks ≠ s1.toks + 1 by omega) hyz hb fun t' k => ⟨.str (Txt.replace x y z), H1, I1.tok k, ⟨t', rfl⟩, q⟩
theorem pe_opG {a b : Expr} {op : Operator} {r : R2} {ta tb : TE} {pos : Pos} (ho : OpR X (binaryOp op) r) (ha : PEG X a ta) (hb : PET X b tb) : PE X (.BinOp a op b pos) (tOp r ta tb) := by
  refine ⟨fun pins s σ H Q I h => ?_⟩
  refine wpAny_BinOp (thn (ha pins s σ H _ I h) fun v s1 ⟨g1, x, H1, I1, r1, q1⟩ => thn (hb pins s1 σ H1 _ g1 I1 q1) fun u s2 ⟨y, H2, I2, r2, q2⟩ => ?_)
  exact ho pins s2 σ H2 x y v u Q I2 r1 r2 q2
end

/-! ### the tokens of a list of codes -/
def LET : List Nat := (Str.ofString "abcdefghijklmnopqrstuvwxyz_ABCDEFGHIJKLMNOPQRSTUVWXYZ").cps.toList
def DIG : List Nat := (Str.ofString "0123456789").cps.toList
def SGN : List (List Nat) := [[60, 61], [62, 61], [33, 61], [40], [41], [59], [44], [46], [60], [62], [61], [43], [45], [42]]
def toNl (s : List Nat) : List Nat := s.dropWhile (fun c => c != 10)
theorem toNl_len (s : List Nat) : (toNl s).length ≤ s.length := by
  unfold toNl
  exact (List.dropWhile_sublist _).length_le
def isBl (c : Nat) : Bool := c == 32 || c == 9 || c == 10
def skipF : Nat → List Nat → List Nat
  | 0, s => s
  | _ + 1, [] => []
  | n + 1, c :: r => if isBl c = true then skipF n r else if c = 35 then skipF n (toNl r) else c :: r
theorem skipF_more : ∀ (n m : Nat) (s : List Nat), s.length ≤ n → s.length ≤ m → skipF n s = skipF m s
  | 0, 0, _, _, _ => rfl
  | 0, m + 1, [], _, _ => rfl
  | 0, _ + 1, _ :: _, h, _ => absurd h (Nat.not_succ_le_zero _)
  | n + 1, 0, [], _, _ => rfl
  | _ + 1, 0, _ :: _, _, h => absurd h (Nat.not_succ_le_zero _)
  | n + 1, m + 1, [], _, _ => rfl
  | n + 1, m + 1, c :: r, h1, h2 => by
    have l1 : r.length ≤ n := Nat.le_of_succ_le_succ h1
    have l2 : r.length ≤ m := Nat.le_of_succ_le_succ h2
    have l3 := toNl_len r
    unfold skipF
    rw [skipF_more n m r l1 l2, skipF_more n m (toNl r) (by omega) (by omega)]
def skip (s : List Nat) : List Nat := skipF s.length s
theorem skip_nil : skip [] = [] := rfl
theorem skip_cons (c : Nat) (r : List Nat) : skip (c :: r) = if isBl c = true then skip r else if c = 35 then skip (toNl r) else c :: r := by
  unfold skip
  rw [List.length_cons]
  have e : skipF (r.length + 1) (c :: r) = if isBl c = true then skipF r.length r else if c = 35 then skipF r.length (toNl r) else c :: r := by
    rw [skipF]
  rw [e, skipF_more r.length (toNl r).length (toNl r) (toNl_len r) (Nat.le_refl _)]
theorem skip_len : ∀ (n : Nat) (s : List Nat), s.length ≤ n → (skip s).length ≤ s.length
  | _, [], _ => Nat.le_refl _
  | 0, _ :: _, h => absurd h (Nat.not_succ_le_zero _)
  | n + 1, c :: r, h => by
    have l1 : r.length ≤ n := Nat.le_of_succ_le_succ h
    have l3 := toNl_len r
    rw [skip_cons]
    split
    · have := skip_len n r l1
      rw [List.length_cons]
      omega
    · split
      · have := skip_len n (toNl r) (by omega)
        rw [List.length_cons]
        omega
      · exact Nat.le_refl _
/-- where a text ends, behind its first quote -/
def te : List Nat → Option (List Nat)
  | [] => none
  | c :: r => if c = 10 then none else if c = 39 then (match r with | 39 :: r' => te r' | _ => some r) else te r
def und (l : List Nat) : List Nat := TL.joinL [39] (TL.spl [39, 39] 0 [] l)
def dbl : List Nat → List Nat
  | [] => []
  | c :: r => if c = 39 then 39 :: 39 :: dbl r else c :: dbl r
inductive Kv where
  | word (l : List Nat)
  | num (n : Nat)
  | text (l : List Nat)
  | sign (l : List Nat)
def Kv.kd : Kv → Str
  | .word _ => "word"
  | .num _ => "number"
  | .text _ => "text"
  | .sign _ => "sign"
def Kv.val : Kv → PyData
  | .word l => .str ⟨l.toArray⟩
  | .num n => .int n
  | .text l => .str ⟨l.toArray⟩
  | .sign l => .str ⟨l.toArray⟩
def runOf (m s : List Nat) : List Nat := s.takeWhile (fun c => decide (c ∈ m))
def tokC (c : Nat) (r : List Nat) : Option (Kv × List Nat) :=
    if c ∈ LET then (if (runOf (LET ++ DIG) (c :: r)).length ≤ 20 then some (.word (runOf (LET ++ DIG) (c :: r)), (c :: r).drop (runOf (LET ++ DIG) (c :: r)).length) else none)
    else if c ∈ DIG then (if (runOf DIG (c :: r)).length ≤ 15 then some (.num (NumText.digitsVal (runOf DIG (c :: r))), (c :: r).drop (runOf DIG (c :: r)).length) else none)
    else if c = 39 then (match te r with
      | none => none
      | some rest => if (und (r.take (r.length - rest.length - 1))).length ≤ 100 then some (.text (und (r.take (r.length - rest.length - 1))), rest) else none)
    else match SGN.find? (fun g => g.isPrefixOf (c :: r)) with
      | none => none
      | some g => some (.sign g, (c :: r).drop g.length)
def tok : List Nat → Option (Kv × List Nat)
  | [] => none
  | c :: r => tokC c r
/-- what the loop over a source of n signs gives, where s is left -/
inductive Lx (n : Nat) : List Nat → List (Kv × Nat) → Prop
  | nil : Lx n [] []
  | cons {s : List Nat} {kv : Kv} {rest : List Nat} {ts : List (Kv × Nat)} : tok s = some (kv, rest) → Lx n (skip rest) ts → Lx n s ((kv, n - s.length) :: ts)
def tokD (t : Kv × Nat) : PyData := .tuple [.str t.1.kd, t.1.val, .int t.2]
theorem te_len : ∀ (n : Nat) (s r : List Nat), s.length ≤ n → te s = some r → r.length < s.length
  | _, [], _, _, h => by cases h
  | 0, _ :: _, _, h, _ => absurd h (Nat.not_succ_le_zero _)
  | n + 1, c :: s, r, hn, h => by
    have l1 : s.length ≤ n := Nat.le_of_succ_le_succ hn
    unfold te at h
    rw [List.length_cons]
    by_cases h10 : c = 10
    · rw [if_pos h10] at h
      cases h
    · rw [if_neg h10] at h
      by_cases h39 : c = 39
      · rw [if_pos h39] at h
        split at h
        · rename_i r'
          have := te_len n r' r (by rw [List.length_cons] at l1; omega) h
          rw [List.length_cons]
          omega
        · cases h
          omega
      · rw [if_neg h39] at h
        have := te_len n s r l1 h
        omega
theorem sgn_pos : ∀ g ∈ SGN, 0 < g.length := by decide
theorem run_head {m : List Nat} {c : Nat} {r : List Nat} (h : c ∈ m) : 0 < (runOf m (c :: r)).length := by
  unfold runOf
  rw [List.takeWhile_cons_of_pos (by simpa using h)]
  exact Nat.succ_pos _
theorem tok_len {s : List Nat} {kv : Kv} {rest : List Nat} (h : tok s = some (kv, rest)) : rest.length < s.length := by
  cases s with
  | nil => cases h
  | cons c r =>
    have h : tokC c r = some (kv, rest) := h
    unfold tokC at h
    by_cases h1 : c ∈ LET
    · rw [if_pos h1] at h
      split at h
      · cases h
        have := run_head (m := LET ++ DIG) (r := r) (List.mem_append_left DIG h1)
        rw [List.length_drop]
        have l : 0 < (c :: r).length := Nat.succ_pos _
        omega
      · cases h
    · rw [if_neg h1] at h
      by_cases h2 : c ∈ DIG
      · rw [if_pos h2] at h
        split at h
        · cases h
          have := run_head (m := DIG) (r := r) h2
          rw [List.length_drop]
          have l : 0 < (c :: r).length := Nat.succ_pos _
          omega
        · cases h
      · rw [if_neg h2] at h
        by_cases h3 : c = 39
        · rw [if_pos h3] at h
          split at h
          · cases h
          · rename_i rest' e
            split at h
            · cases h
              have := te_len _ r _ (Nat.le_refl _) e
              rw [List.length_cons]
              omega
            · cases h
        · rw [if_neg h3] at h
          split at h
          · cases h
          · rename_i g e
            cases h
            have := sgn_pos g (List.mem_of_find?_eq_some e)
            rw [List.length_drop]
            have l : 0 < (c :: r).length := Nat.succ_pos _
            omega
/-! quotes -/
theorem und_dbl : ∀ (v acc : List Nat), TL.joinL [39] (TL.spl [39, 39] 0 acc (dbl v)) = acc ++ v
  | [], acc => by
    show TL.joinL [39] [acc] = _
    rw [List.append_nil]
    rfl
  | c :: v, acc => by
    unfold dbl
    by_cases h : c = 39
    · rw [if_pos h, TL.spl_hit (by rfl)]
      show TL.joinL [39] (acc :: TL.spl [39, 39] 1 [] (39 :: dbl v)) = _
      have e : TL.spl [39, 39] 1 [] (39 :: dbl v) = TL.spl [39, 39] 0 [] (dbl v) := rfl
      rw [e]
      have ih := und_dbl v []
      have ne : TL.spl [39, 39] 0 [] (dbl v) ≠ [] := spl_ne _ _ _ _
      cases es : TL.spl [39, 39] 0 [] (dbl v) with
      | nil => exact absurd es ne
      | cons q r =>
        rw [es] at ih
        show acc ++ ([39] ++ TL.joinL [39] (q :: r)) = _
        rw [ih, h]
        rfl
    · rw [if_neg h, TL.spl_miss (by
        unfold TL.pre
        cases dbl v with
        | nil => simp
        | cons d r => simp [h])]
      rw [und_dbl v (acc ++ [c]), List.append_assoc]
      rfl
where
  spl_ne : ∀ (S : List Nat) (k : Nat) (acc l : List Nat), TL.spl S k acc l ≠ []
    | S, k, acc, [] => by rw [TL.spl_nil]; simp
    | S, 0, acc, c :: r => by
      unfold TL.spl
      split
      · simp
      · exact spl_ne S 0 _ r
    | S, k + 1, acc, c :: r => spl_ne S k acc r
theorem und_dbl' (v : List Nat) : und (dbl v) = v := und_dbl v []
theorem dbl_rpl : ∀ (v acc : List Nat), TL.joinL [39, 39] (TL.spl [39] 0 acc v) = acc ++ dbl v
  | [], acc => by
    show TL.joinL [39, 39] [acc] = _
    rw [show dbl [] = [] from rfl, List.append_nil]
    rfl
  | c :: v, acc => by
    unfold dbl
    by_cases h : c = 39
    · rw [if_pos h, TL.spl_hit (by rw [h]; rfl)]
      have e : TL.spl [39] ([39].length - 1) [] v = TL.spl [39] 0 [] v := rfl
      rw [e]
      have ih := dbl_rpl v []
      cases es : TL.spl [39] 0 [] v with
      | nil => exact absurd es (und_dbl.spl_ne _ _ _ _)
      | cons q r =>
        rw [es] at ih
        show acc ++ ([39, 39] ++ TL.joinL [39, 39] (q :: r)) = _
        rw [ih]
        rfl
    · rw [if_neg h, TL.spl_miss (by
        unfold TL.pre
        simp [h])]
      rw [dbl_rpl v (acc ++ [c]), List.append_assoc]
      rfl
theorem rpl_S (x y z : List Nat) (hy : y ≠ []) (hk : y.all (· < 256) = true) : Txt.replace ⟨x.toArray⟩ ⟨y.toArray⟩ ⟨z.toArray⟩ = ⟨(TL.joinL z (TL.spl y 0 [] x)).toArray⟩ := by
  have hs : Txt.split (SX.S x) (SX.S y) = (TL.spl y 0 [] x).map SX.S := SX.split_S hy hk
  have hkd := TL.kind_ok (x := SX.S x) (SX.all256 hk)
  have hyl : (SX.S y).length = y.length := SX.S_len y
  have hyp : 0 < y.length := List.length_pos_iff.mpr hy
  have hj := SX.join_S z (TL.spl y 0 [] x)
  rw [← hs] at hj
  refine Eq.trans ?_ hj
  show Txt.replace (SX.S x) (SX.S y) (SX.S z) = Txt.join (SX.S z) (Txt.split (SX.S x) (SX.S y))
  unfold Txt.replace Txt.split
  have one : ∀ w : Str, Txt.join w [SX.S x] = SX.S x := fun w => by
    have := SX.join_S (TL.tl w) [x]
    rw [SX.S_tl] at this
    exact this
  have hz0 : ((SX.S y).length == 0 && (SX.S z).length == 0) = false := by
    rw [hyl]
    cases y with
    | nil => exact absurd rfl hy
    | cons a b => rfl
  rw [hz0, Bool.or_false]
  cases ho : (Builtin.Str.occurrences (SX.S x) (SX.S y) 0 (SX.S x).length ((SX.S x).length + 1)).isEmpty with
  | true =>
    rw [if_pos rfl, if_pos rfl, ite_self, one]
  | false =>
    rw [if_neg Bool.false_ne_true, if_neg Bool.false_ne_true]
    have hl : decide ((SX.S x).length < (SX.S y).length) = false := by
      refine decide_eq_false fun hlt => ?_
      cases hoc : Builtin.Str.occurrences (SX.S x) (SX.S y) 0 (SX.S x).length ((SX.S x).length + 1) with
      | nil =>
        rw [hoc] at ho
        cases ho
      | cons i r =>
        have := (PySem.StrLaws.occ_spec (SX.S x) (SX.S y) 0 (SX.S x).length ((SX.S x).length + 1) i (by rw [hoc]; exact List.mem_cons_self ..)).1
        omega
    rw [hl, decide_eq_false hkd]
    rfl

/-! ### texts by their places -/
theorem in_text (m : List Nat) (c : Nat) : (!(Builtin.Str.occurrences ⟨m.toArray⟩ ⟨#[c]⟩ 0 (⟨m.toArray⟩ : Str).length 1).isEmpty) = decide (c ∈ m) := StrLaws.found_one ⟨m.toArray⟩ c
theorem run_step {m l : List Nat} {e : Nat} (h : e < l.length) (hm : l[e] ∈ m) : (runOf m (l.drop e)).length = 1 + (runOf m (l.drop (e + 1))).length := by
  unfold runOf
  rw [List.drop_eq_getElem_cons h, List.takeWhile_cons_of_pos (by simpa using hm), List.length_cons]
  omega
theorem run_stop {m l : List Nat} {e : Nat} (h : e < l.length) (hm : l[e] ∉ m) : runOf m (l.drop e) = [] := by
  unfold runOf
  rw [List.drop_eq_getElem_cons h, List.takeWhile_cons_of_neg (by simpa using hm)]
theorem run_le (m s : List Nat) : (runOf m s).length ≤ s.length := by
  unfold runOf
  exact (List.takeWhile_sublist _).length_le
theorem toNl_suf (s : List Nat) : toNl s <:+ s := List.dropWhile_suffix _
theorem skip_suf : ∀ (n : Nat) (s : List Nat), s.length ≤ n → skip s <:+ s
  | _, [], _ => List.suffix_refl _
  | 0, _ :: _, h => absurd h (Nat.not_succ_le_zero _)
  | n + 1, c :: r, h => by
    have l1 : r.length ≤ n := Nat.le_of_succ_le_succ h
    have l3 := toNl_len r
    rw [skip_cons]
    split
    · exact (skip_suf n r l1).trans (List.suffix_cons c r)
    · split
      · exact ((skip_suf n (toNl r) (by omega)).trans (toNl_suf r)).trans (List.suffix_cons c r)
      · exact List.suffix_refl _
theorem suf_at {l t : List Nat} {i : Nat} (hi : i ≤ l.length) (h : t <:+ l.drop i) : t = l.drop (l.length - t.length) ∧ t.length ≤ l.length - i := by
  have h2 : t <:+ l := h.trans (List.drop_suffix i l)
  refine ⟨(List.suffix_iff_eq_drop.mp h2), ?_⟩
  have := h.length_le
  rw [List.length_drop] at this
  exact this
theorem occ_foldL (s sub : Str) (hi limit : Nat) (L : List Nat) (b : Array Nat × Nat) : (forIn L b (StrLaws.occBody s sub hi limit)).run = L.foldl (fun st i => if ((st.fst.size < limit ∧ st.snd ≤ i) ∧ i + sub.length ≤ hi) ∧ Builtin.Str.subAt s sub i = true then (st.fst.push i, i + sub.length) else st) b := by
  have e : StrLaws.occBody s sub hi limit = fun i st => (pure (ForInStep.yield ((fun i st => if ((st.fst.size < limit ∧ st.snd ≤ i) ∧ i + sub.length ≤ hi) ∧ Builtin.Str.subAt s sub i = true then (st.fst.push i, i + sub.length) else st) i st)) : Id _) := by
    funext i st
    unfold StrLaws.occBody
    split <;> rename_i h
    · simp only [if_pos h]
    · simp only [if_neg h]
  rw [e, List.forIn_pure_yield_eq_foldl]
  rfl
theorem sub_at (l : List Nat) (c n : Nat) : Builtin.Str.subAt ⟨l.toArray⟩ ⟨#[c]⟩ n = decide (l[n]? = some c) := by
  unfold Builtin.Str.subAt
  have e : (⟨#[c]⟩ : Str).length = 1 := rfl
  rw [e]
  show (l.toArray.extract n (n + 1) == #[c]) = _
  rw [List.extract_toArray, List.extract_eq_take_drop, Nat.add_sub_cancel_left]
  by_cases h : n < l.length
  · rw [List.drop_eq_getElem_cons h, List.getElem?_eq_getElem h]
    rw [Bool.eq_iff_iff]
    simp [List.take]
  · rw [List.drop_eq_nil_of_le (by omega), List.getElem?_eq_none (by omega)]
    simp
theorem find_stay (l : List Nat) (hi : Nat) : ∀ (L : List Nat) (k f : Nat), L.foldl (fun (st : Array Nat × Nat) i => if ((st.fst.size < 1 ∧ st.snd ≤ i) ∧ i + 1 ≤ hi) ∧ Builtin.Str.subAt ⟨l.toArray⟩ ⟨#[10]⟩ i = true then (st.fst.push i, i + 1) else st) (#[k], f) = (#[k], f)
  | [], _, _ => rfl
  | i :: L, k, f => by
    rw [List.foldl_cons, if_neg (by simp)]
    exact find_stay l hi L k f
theorem find_go (l : List Nat) : ∀ (n lo f : Nat), lo + n = l.length + 1 → f ≤ lo →
    ((List.range' lo n).foldl (fun (st : Array Nat × Nat) i => if ((st.fst.size < 1 ∧ st.snd ≤ i) ∧ i + 1 ≤ l.length) ∧ Builtin.Str.subAt ⟨l.toArray⟩ ⟨#[10]⟩ i = true then (st.fst.push i, i + 1) else st) (#[], f)).1 = if toNl (l.drop lo) = [] then #[] else #[l.length - (toNl (l.drop lo)).length]
  | 0, lo, f, h, _ => by
    rw [List.drop_eq_nil_of_le (by omega)]
    rfl
  | n + 1, lo, f, h, hf => by
    rw [List.range'_succ, List.foldl_cons]
    by_cases hlo : lo < l.length
    · have es := sub_at l 10 lo
      rw [List.getElem?_eq_getElem hlo] at es
      by_cases hx : l[lo] = 10
      · rw [hx] at es
        rw [if_pos ⟨⟨⟨by simp, hf⟩, by omega⟩, by rw [es]; simp⟩, show (#[] : Array Nat).push lo = #[lo] from rfl, find_stay]
        have e1 : toNl (l.drop lo) = l.drop lo := by
          unfold toNl
          rw [List.drop_eq_getElem_cons hlo, List.dropWhile_cons_of_neg (by simp [hx])]
        have e2 : l.drop lo ≠ [] := fun z => by
          have := congrArg List.length z
          rw [List.length_drop, List.length_nil] at this
          omega
        rw [e1, if_neg e2, List.length_drop, Nat.sub_sub_self (by omega)]
      · rw [if_neg (by rw [es]; simp [hx]), find_go l n (lo + 1) f (by omega) (by omega)]
        have e1 : toNl (l.drop lo) = toNl (l.drop (lo + 1)) := by
          unfold toNl
          rw [List.drop_eq_getElem_cons hlo, List.dropWhile_cons_of_pos (by simp [hx])]
        rw [e1]
    · rw [if_neg (fun z => by omega), find_go l n (lo + 1) f (by omega) (by omega), List.drop_eq_nil_of_le (by omega), List.drop_eq_nil_of_le (by omega)]
theorem from_nat (n i : Nat) : fromIndex n (i : Int) = i := by
  unfold fromIndex
  rw [if_neg (by omega)]
  omega
theorem find_nl (l : List Nat) (i : Nat) (hi : i ≤ l.length) : Txt.find3 ⟨l.toArray⟩ ⟨#[10]⟩ (i : Int) = if toNl (l.drop i) = [] then -1 else ((l.length - (toNl (l.drop i)).length : Nat) : Int) := by
  unfold Txt.find3
  rw [S_len', from_nat, StrLaws.occ_eq, occ_foldL]
  have e1 : (⟨#[10]⟩ : Str).length = 1 := rfl
  rw [e1, find_go l (l.length + 1 - i) i i (by omega) (Nat.le_refl _)]
  by_cases e : toNl (l.drop i) = []
  · rw [if_pos e, if_pos e]
  · rw [if_neg e, if_neg e]
theorem starts_at (l g : List Nat) (i : Nat) (hi : i ≤ l.length) : Txt.startswith3 ⟨l.toArray⟩ ⟨g.toArray⟩ (i : Int) = g.isPrefixOf (l.drop i) := by
  unfold Txt.startswith3
  rw [S_len', S_len', from_nat]
  rw [Bool.eq_iff_iff, Bool.and_eq_true, decide_eq_true_eq, List.isPrefixOf_iff_prefix]
  refine Iff.trans ?_ (List.prefix_iff_eq_take (l₁ := g) (l₂ := l.drop i)).symm
  unfold Builtin.Str.subAt
  rw [S_len']
  show (i + g.length ≤ l.length ∧ (l.toArray.extract i (i + g.length) == g.toArray) = true) ↔ _
  rw [List.extract_toArray, List.extract_eq_take_drop, Nat.add_sub_cancel_left, beq_iff_eq]
  constructor
  · intro h
    have := congrArg Array.toList h.2
    simpa using this.symm
  · intro h
    refine ⟨?_, congrArg List.toArray h.symm⟩
    have := congrArg List.length h
    rw [List.length_take, List.length_drop] at this
    omega
theorem isBl_in (c : Nat) : inV (.str ⟨#[c]⟩) [.str " ", .str "\t", .str "\n"] = isBl c := by
  unfold inV isBl
  rw [List.any_cons, List.any_cons, List.any_cons, List.any_nil, Bool.or_false]
  show ((SX.S [32] == SX.S [c]) || ((SX.S [9] == SX.S [c]) || (SX.S [10] == SX.S [c]))) = _
  rw [SX.S_beq_eq, SX.S_beq_eq, SX.S_beq_eq]
  by_cases h1 : c = 32
  · subst h1; rfl
  · by_cases h2 : c = 9
    · subst h2; rfl
    · by_cases h3 : c = 10
      · subst h3; rfl
      · have e1 : ¬ [32] = [c] := fun z => h1 (List.cons.inj z).1.symm
        have e2 : ¬ [9] = [c] := fun z => h2 (List.cons.inj z).1.symm
        have e3 : ¬ [10] = [c] := fun z => h3 (List.cons.inj z).1.symm
        rw [decide_eq_false e1, decide_eq_false e2, decide_eq_false e3]
        simp [h1, h2, h3]
/-! ### the tokens, def by def -/
structure Gl (K : PySem.W.Frag) (mg : Str → Option Value) (bl sg : Addr) : Prop where
  BLANKS : ∃ u, mg "BLANKS" = some u ∧ RelV (.ref bl) u
  SIGNS : ∃ u, mg "SIGNS" = some u ∧ RelV (.ref sg) u
  DIGITS : ∃ u, mg "DIGITS" = some u ∧ RelV (.str "0123456789") u
  LETTERS : ∃ u, mg "LETTERS" = some u ∧ RelV (.str "abcdefghijklmnopqrstuvwxyz_ABCDEFGHIJKLMNOPQRSTUVWXYZ") u
  MOST_WORD : ∃ u, mg "MOST_WORD" = some u ∧ RelV (.int 20) u
  MOST_NUMBER : ∃ u, mg "MOST_NUMBER" = some u ∧ RelV (.int 15) u
  MOST_TEXT : ∃ u, mg "MOST_TEXT" = some u ∧ RelV (.int 100) u
  blT : ∀ H : Hp, SqT K H bl [.str " ", .str "\t", .str "\n"]
  sgT : ∀ H : Hp, SqT K H sg (SGN.map fun g => V.str ⟨g.toArray⟩)
def sp_run : Sp := fun vs H Q _ => ∃ (l m : List Nat) (i : Nat), vs = [.str ⟨l.toArray⟩, .int (i : Nat), .str ⟨m.toArray⟩] ∧ i ≤ l.length ∧ l.length ≤ 100000 ∧ Q (.int ((i + (runOf m (l.drop i)).length : Nat) : Int)) H
def sp_cmt : Sp := fun vs H Q _ => ∃ (l : List Nat) (i : Nat), vs = [.str ⟨l.toArray⟩, .int (i : Nat)] ∧ i ≤ l.length ∧ l.length ≤ 100000 ∧ Q (.int ((l.length - (toNl (l.drop i)).length : Nat) : Int)) H
def sp_gap : Sp := fun vs H Q _ => ∃ (l : List Nat) (i : Nat), vs = [.str ⟨l.toArray⟩, .int (i : Nat)] ∧ i ≤ l.length ∧ l.length ≤ 100000 ∧ Q (.int ((l.length - (skip (l.drop i)).length : Nat) : Int)) H
def sp_btx : Sp := fun vs H Q _ => ∃ (l : List Nat) (i : Nat) (r : List Nat), vs = [.str ⟨l.toArray⟩, .int (i : Nat)] ∧ i < l.length ∧ l.length ≤ 100000 ∧ te (l.drop (i + 1)) = some r ∧ Q (.int ((l.length - r.length : Nat) : Int)) H
def sp_rtok (K : PySem.W.Frag) (ok : Kv → Prop) : Sp := fun vs H Q _ => ∃ (l : List Nat) (i : Nat) (kv : Kv) (rest : List Nat), vs = [.str ⟨l.toArray⟩, .int (i : Nat)] ∧ i < l.length ∧ l.length ≤ 100000 ∧ tok (l.drop i) = some (kv, rest) ∧ ok kv ∧
  ∀ H' p, Same H H' → Dp K H' (.ref p) (.tuple [.str kv.kd, kv.val, .int ((l.length - rest.length : Nat) : Int)]) → Q (.ref p) H'
section
variable {P : Program} {w : World} {K : PySem.W.Frag} {mg : Str → Option Value} {base : Heap}
theorem ok_run {f : Addr} {fd : FuncData} (F : Fun K "behind_run" "behind_run" s_behind_run f fd) (M : Mg mg) : FnOk P w K mg base CX0 1 f fd ["source", "start", "members"] sp_run := by
  refine F.ok sc_behind_run (fun vs H Q E h => ?_) (fun cdv A outer s H vs Q E hr h => ?_)
  · obtain ⟨l, m, i, rfl, _⟩ := h
    rfl
  · obtain ⟨l, m, i, rfl, hi, hl, q⟩ := h
    have zl : (⟨l.toArray⟩ : Str).length ≤ sizeLine := by rw [S_len']; exact Nat.le_trans hl (by decide)
    refine ⟨_, (pss_cons (ps_set (i := 3) sc_behind_run.nd rfl (.inl rfl) (pv 1))
      (pss_cons (ps_while PassesOwn.never (PW.pt (pw_and (pt_cmpR op_lt (pv 3) (pe_callB call_len_str (by rfl) M.len PySem.boot_len (pa_cons (pv 0) pa_nil)) (nomark _)) (pw_and1 (pt_cmpR op_in_str (pe_ix ix_str (pv 0) (pv 3) (fun _ _ => rfl)) (pv 2) (by rfl))))) (pss_one (ps_aug (i := 3) sc_behind_run.nd rfl (.inl rfl) pe_int ip_add)))
      (pss_one (ps_ret (pv 3))))), ?_⟩
    refine ⟨_, rfl, fun k σ Hi => Hi = H ∧ ∃ e : Nat, σ = [some (.str ⟨l.toArray⟩), some (.int (i : Nat)), some (.str ⟨m.toArray⟩), some (.int (e : Nat))] ∧ e ≤ l.length ∧ k = l.length - e ∧ i + (runOf m (l.drop i)).length = e + (runOf m (l.drop e)).length, ⟨_, rfl, i, rfl, hi, rfl, rfl⟩, fun k σ Hi hW => ?_⟩
    obtain ⟨rfl, e, rfl, he, rfl, hk⟩ := hW
    refine ⟨_, rfl, _, rfl, _, rfl, zl, _, _, rfl, rfl, _, rfl, ite2 (fun e1 => ?_) (fun e1 => ?_)⟩
    · have e2 : (e : Int) < (((⟨l.toArray⟩ : Str).length : Nat) : Int) := of_decide_eq_true e1
      rw [S_len'] at e2
      have e3 : e < l.length := by omega
      have hat : atI (⟨l.toArray⟩ : Str).cps.toList ((e : Nat) : Int) = some l[e] := atI_nat (show l[e]? = _ from List.getElem?_eq_getElem e3)
      refine ⟨_, rfl, _, rfl, _, _, _, rfl, rfl, zl, hat, _, rfl, _, _, rfl, rfl, _, rfl, ?_⟩
      rw [in_text]
      refine ite2 (fun e4 => ?_) (fun e4 => ?_)
      · have e5 : l[e] ∈ m := of_decide_eq_true e4
        refine ⟨fun σ H' => H' = Hi ∧ σ = [some (.str ⟨l.toArray⟩), some (.int (i : Nat)), some (.str ⟨m.toArray⟩), some (.int ((e : Nat) + 1))], fun σ H' hN => ?_, ?_⟩
        · obtain ⟨rfl, rfl⟩ := hN
          exact ⟨l.length - (e + 1), by omega, rfl, e + 1, rfl, by omega, rfl, by rw [hk, run_step e3 e5]; omega⟩
        · exact ⟨_, rfl, _, _, rfl, rfl, rfl, rfl⟩
      · have e5 : l[e] ∉ m := fun z => e4 (decide_eq_true z)
        refine ⟨_, rfl, ?_⟩
        rw [hk, run_stop e3 e5] at q
        exact q
    · have e3 : e = l.length := by
        have : ¬ ((e : Int) < (((⟨l.toArray⟩ : Str).length : Nat) : Int)) := fun z => e1 (decide_eq_true z)
        rw [S_len'] at this
        omega
      subst e3
      refine iteF ?_
      refine ⟨_, rfl, ?_⟩
      rw [hk, List.drop_length] at q
      exact q
theorem ok_cmt {f : Addr} {fd : FuncData} (F : Fun K "behind_comment" "behind_comment" s_behind_comment f fd) (M : Mg mg) : FnOk P w K mg base CX0 1 f fd ["source", "start"] sp_cmt := by
  refine F.ok sc_behind_comment (fun vs H Q E h => ?_) (fun cdv A outer s H vs Q E hr h => ?_)
  · obtain ⟨l, i, rfl, _⟩ := h
    rfl
  · obtain ⟨l, i, rfl, hi, hl, q⟩ := h
    have zl : (⟨l.toArray⟩ : Str).length ≤ sizeLine := by rw [S_len']; exact Nat.le_trans hl (by decide)
    refine ⟨_, (pss_cons (ps_set (i := 2) sc_behind_comment.nd rfl (.inl rfl) (pe_bmK K PySem.F.plainAttrs_str PySem.F.slot_str_find PySem.F.type_str_find mt_find3 (pv 0) (pa_cons pe_str (pa_cons (pv 1) pa_nil))))
      (pss_cons (ps_if (pt_cmpR op_lt (pv 2) pe_int (nomark _)) (pss_one (ps_ret (pe_callB call_len_str (by rfl) M.len PySem.boot_len (pa_cons (pv 0) pa_nil)))) pss_nil)
      (pss_one (ps_ret (pv 2))))), ?_⟩
    refine ⟨_, rfl, rfl, _, rfl, ⟨l.toArray⟩, ⟨#[10]⟩, _, rfl, rfl, ?_⟩
    rw [find_nl l i hi]
    by_cases e : toNl (l.drop i) = []
    · rw [if_pos e]
      refine ⟨_, rfl, _, _, rfl, rfl, _, rfl, iteT ?_⟩
      refine ⟨_, rfl, _, rfl, zl, ?_⟩
      rw [e] at q
      rw [S_len']
      exact q
    · rw [if_neg e]
      refine ⟨_, rfl, _, _, rfl, rfl, _, rfl, ?_⟩
      rw [decide_eq_false (by omega)]
      refine iteF ?_
      exact ⟨_, rfl, q⟩
theorem ok_gap {f : Addr} {fd : FuncData} {bl sg : Addr} (F : Fun K "behind_gap" "behind_gap" s_behind_gap f fd) (M : Mg mg) (G : Gl K mg bl sg) (c_behind_comment : Cl P w K mg base 1 "behind_comment" sp_cmt) : FnOk P w K mg base CX0 2 f fd ["source", "start"] sp_gap := by
  refine F.ok sc_behind_gap (fun vs H Q E h => ?_) (fun cdv A outer s H vs Q E hr h => ?_)
  · obtain ⟨l, i, rfl, _⟩ := h
    rfl
  · obtain ⟨l, i, rfl, hi, hl, q⟩ := h
    have zl : (⟨l.toArray⟩ : Str).length ≤ sizeLine := by rw [S_len']; exact Nat.le_trans hl (by decide)
    refine ⟨_, (pss_cons (ps_set (i := 2) sc_behind_gap.nd rfl (.inl rfl) (pv 1))
      (pss_cons (ps_while PassesOwn.never (pt_cmpR op_lt (pv 2) (pe_callB call_len_str (by rfl) M.len PySem.boot_len (pa_cons (pv 0) pa_nil)) (nomark _)) (pss_one (ps_if (pt_cmpR (inK K) (pe_ix ix_str (pv 0) (pv 2) (fun _ _ => rfl)) (C8.pe_gc (by rfl) G.BLANKS) (by rfl)) (pss_one (ps_aug (i := 2) sc_behind_gap.nd rfl (.inl rfl) pe_int ip_add)) (pss_one (ps_if (pt_cmpR op_eq (pe_ix ix_str (pv 0) (pv 2) (fun _ _ => rfl)) pe_str (nomark _)) (pss_one (ps_set (i := 2) sc_behind_gap.nd rfl (.inl rfl) (pe_u c_behind_comment hr (by first | decide | omega) (by rfl) (pa_cons (pv 0) (pa_cons (pv 2) pa_nil))))) (pss_one (ps_ret (pv 2))))))))
      (pss_one (ps_ret (pv 2))))), ?_⟩
    refine ⟨_, rfl, fun k σ Hi => Hi = H ∧ ∃ e : Nat, σ = [some (.str ⟨l.toArray⟩), some (.int (i : Nat)), some (.int (e : Nat))] ∧ e ≤ l.length ∧ k = l.length - e ∧ skip (l.drop i) = skip (l.drop e), ⟨_, rfl, i, rfl, hi, rfl, rfl⟩, fun k σ Hi hW => ?_⟩
    obtain ⟨rfl, e, rfl, he, rfl, hk⟩ := hW
    refine ⟨_, rfl, _, rfl, _, rfl, zl, _, _, rfl, rfl, _, rfl, ite2 (fun e1 => ?_) (fun e1 => ?_)⟩
    · have e2 : (e : Int) < (((⟨l.toArray⟩ : Str).length : Nat) : Int) := of_decide_eq_true e1
      rw [S_len'] at e2
      have e3 : e < l.length := by omega
      have hat : atI (⟨l.toArray⟩ : Str).cps.toList ((e : Nat) : Int) = some l[e] := atI_nat (show l[e]? = _ from List.getElem?_eq_getElem e3)
      have hd : l.drop e = l[e] :: l.drop (e + 1) := List.drop_eq_getElem_cons e3
      have hsk := skip_cons l[e] (l.drop (e + 1))
      refine ⟨fun σ H' => H' = Hi ∧ ∃ e' : Nat, σ = [some (.str ⟨l.toArray⟩), some (.int (i : Nat)), some (.int (e' : Nat))] ∧ e < e' ∧ e' ≤ l.length ∧ skip (l.drop e) = skip (l.drop e'), fun σ H' hN => ?_, ?_⟩
      · obtain ⟨rfl, e', rfl, h1, h2, h3⟩ := hN
        exact ⟨l.length - e', by omega, rfl, e', rfl, h2, rfl, by rw [hk, h3]⟩
      · refine ⟨_, rfl, _, rfl, _, _, _, rfl, rfl, zl, hat, bl, _, rfl, .inr (G.blT _), rfl, rfl, _, rfl, ?_⟩
        show if (inV (.str ⟨#[l[e]]⟩) [.str " ", .str "\t", .str "\n"]) = true then _ else _
        rw [isBl_in]
        refine ite2 (fun e4 => ?_) (fun e4 => ?_)
        · rw [if_pos e4, ← hd] at hsk
          exact ⟨_, rfl, _, _, rfl, rfl, rfl, e + 1, rfl, by omega, by omega, hsk⟩
        · rw [if_neg e4, ← hd] at hsk
          refine ⟨_, rfl, _, rfl, _, _, _, rfl, rfl, zl, hat, rfl, _, rfl, ?_⟩
          have es : decide (V.str ⟨#[l[e]]⟩ = V.str (Str.ofString "#")) = decide (l[e] = 35) := str1 l[e] 35
          rw [es]
          refine ite2 (fun e5 => ?_) (fun e5 => ?_)
          · have e6 : l[e] = 35 := of_decide_eq_true e5
            rw [if_pos e6] at hsk
            have et : toNl (l.drop e) = toNl (l.drop (e + 1)) := by
              unfold toNl
              rw [hd, List.dropWhile_cons_of_pos (by simp [e6])]
            refine ⟨_, rfl, _, rfl, l, e, rfl, he, hl, ?_⟩
            rw [et]
            obtain ⟨s1, s2⟩ := suf_at (l := l) (i := e + 1) (by omega) (toNl_suf (l.drop (e + 1)))
            refine ⟨rfl, l.length - (toNl (l.drop (e + 1))).length, rfl, by omega, by omega, ?_⟩
            rw [hsk, ← s1]
          · have e6 : ¬ l[e] = 35 := fun z => e5 (decide_eq_true z)
            rw [if_neg e6] at hsk
            refine ⟨_, rfl, ?_⟩
            rw [hk, hsk, List.length_drop, Nat.sub_sub_self he] at q
            exact q
    · have e3 : e = l.length := by
        have : ¬ ((e : Int) < (((⟨l.toArray⟩ : Str).length : Nat) : Int)) := fun z => e1 (decide_eq_true z)
        rw [S_len'] at this
        omega
      subst e3
      refine ⟨_, rfl, ?_⟩
      rw [hk, List.drop_length] at q
      exact q
theorem te_step {l : List Nat} {e : Nat} {r : List Nat} (h : te (l.drop e) = some r) : ∃ he : e < l.length, l[e] ≠ 10 ∧ (l[e] ≠ 39 → te (l.drop (e + 1)) = some r) ∧ (l[e] = 39 → [39, 39].isPrefixOf (l.drop e) = true → te (l.drop (e + 2)) = some r) ∧ (l[e] = 39 → [39, 39].isPrefixOf (l.drop e) = false → r = l.drop (e + 1)) := by
  have he : e < l.length := by
    refine Nat.lt_of_not_le fun z => ?_
    rw [List.drop_eq_nil_of_le z] at h
    cases h
  have hd : l.drop e = l[e] :: l.drop (e + 1) := List.drop_eq_getElem_cons he
  refine ⟨he, ?_, fun hn => ?_, fun h39 hp => ?_, fun h39 hp => ?_⟩
  · intro z
    rw [hd] at h
    unfold te at h
    rw [if_pos z] at h
    cases h
  · rw [hd] at h
    unfold te at h
    split at h
    · cases h
    · first
        | exact h
        | (rw [if_neg hn] at h; exact h)
  · rw [hd] at h hp
    unfold te at h
    rw [if_neg (by rw [h39]; decide), if_pos h39] at h
    have e2 : l.drop (e + 2) = (l.drop (e + 1)).drop 1 := by rw [List.drop_drop]
    rw [e2]
    cases hr : l.drop (e + 1) with
    | nil =>
      rw [hr, h39] at hp
      cases hp
    | cons c r' =>
      rw [hr] at h hp
      rw [h39] at hp
      have hc : c = 39 := by
        simp [List.isPrefixOf] at hp
        exact hp.symm
      subst hc
      exact h
  · rw [hd] at h hp
    unfold te at h
    rw [if_neg (by rw [h39]; decide), if_pos h39] at h
    cases hr : l.drop (e + 1) with
    | nil =>
      rw [hr] at h
      exact (Option.some.inj h).symm
    | cons c r' =>
      rw [hr] at h hp
      rw [h39] at hp
      have hc : c ≠ 39 := fun z => by
        rw [z] at hp
        simp [List.isPrefixOf] at hp
      split at h
      · rename_i heq
        exact absurd (List.cons.inj heq).1 hc
      · exact (Option.some.inj h).symm
theorem ok_btx {f : Addr} {fd : FuncData} (F : Fun K "behind_text" "behind_text" s_behind_text f fd) (M : Mg mg) : FnOk P w K mg base CX0 1 f fd ["source", "start"] sp_btx := by
  refine F.ok sc_behind_text (fun vs H Q E h => ?_) (fun cdv A outer s H vs Q E hr h => ?_)
  · obtain ⟨l, i, r, rfl, _⟩ := h
    rfl
  · obtain ⟨l, i, r, rfl, hi, hl, ht, q⟩ := h
    have zl : (⟨l.toArray⟩ : Str).length ≤ sizeLine := by rw [S_len']; exact Nat.le_trans hl (by decide)
    refine ⟨_, (pss_cons (ps_set (i := 2) sc_behind_text.nd rfl (.inl rfl) (pe_op op_add (pv 1) pe_int))
      (pss_cons (ps_while PassesOwn.never (PW.pt (pw_and (pt_cmpR op_lt (pv 2) (pe_callB call_len_str (by rfl) M.len PySem.boot_len (pa_cons (pv 0) pa_nil)) (nomark _)) (pw_and1 (pt_cmpR op_ne (pe_ix ix_str (pv 0) (pv 2) (fun _ _ => rfl)) pe_str (nomark _))))) (pss_one (ps_if (pt_cmpR op_ne (pe_ix ix_str (pv 0) (pv 2) (fun _ _ => rfl)) pe_str (nomark _)) (pss_one (ps_aug (i := 2) sc_behind_text.nd rfl (.inl rfl) pe_int ip_add)) (pss_one (ps_if (pt_val (pe_bmK K PySem.F.plainAttrs_str PySem.F.slot_str_startswith PySem.F.type_str_startswith mt_startswith3 (pv 0) (pa_cons pe_str (pa_cons (pv 2) pa_nil)))) (pss_one (ps_aug (i := 2) sc_behind_text.nd rfl (.inl rfl) pe_int ip_add)) (pss_one (ps_ret (pe_op op_add (pv 2) pe_int))))))))
      (pss_one (ps_ret pe_non)))), ?_⟩
    refine ⟨_, rfl, _, _, rfl, rfl, fun k σ Hi => Hi = H ∧ ∃ e : Nat, σ = [some (.str ⟨l.toArray⟩), some (.int (i : Nat)), some (.int (e : Nat))] ∧ k = l.length - e ∧ te (l.drop e) = some r, ⟨_, rfl, i + 1, rfl, rfl, ht⟩, fun k σ Hi hW => ?_⟩
    obtain ⟨rfl, e, rfl, rfl, hk⟩ := hW
    obtain ⟨he, h10, hne, h2, h1⟩ := te_step hk
    have hat : atI (⟨l.toArray⟩ : Str).cps.toList ((e : Nat) : Int) = some l[e] := atI_nat (show l[e]? = _ from List.getElem?_eq_getElem he)
    have en : decide (V.str ⟨#[l[e]]⟩ = V.str (Str.ofString "\n")) = decide (l[e] = 10) := str1 l[e] 10
    have eq : decide (V.str ⟨#[l[e]]⟩ = V.str (Str.ofString "'")) = decide (l[e] = 39) := str1 l[e] 39
    refine ⟨_, rfl, _, rfl, _, rfl, zl, _, _, rfl, rfl, _, rfl, ?_⟩
    rw [S_len', decide_eq_true (show (e : Int) < ((l.length : Nat) : Int) by omega)]
    refine iteT ?_
    refine ⟨_, rfl, _, rfl, _, _, _, rfl, rfl, zl, hat, rfl, _, rfl, ?_⟩
    rw [en, decide_eq_false h10]
    refine iteT ?_
    refine ⟨fun σ H' => H' = Hi ∧ ∃ e' : Nat, σ = [some (.str ⟨l.toArray⟩), some (.int (i : Nat)), some (.int (e' : Nat))] ∧ e < e' ∧ te (l.drop e') = some r, fun σ H' hN => ?_, ?_⟩
    · obtain ⟨rfl, e', rfl, g1, g2⟩ := hN
      exact ⟨l.length - e', by omega, rfl, e', rfl, rfl, g2⟩
    · refine ⟨_, rfl, _, rfl, _, _, _, rfl, rfl, zl, hat, rfl, _, rfl, ?_⟩
      rw [eq]
      by_cases h39 : l[e] = 39
      · rw [decide_eq_true h39]
        refine iteF ?_
        refine ⟨_, rfl, rfl, _, rfl, ⟨l.toArray⟩, ⟨[39, 39].toArray⟩, _, rfl, rfl, _, rfl, ?_⟩
        rw [starts_at l [39, 39] e (by omega)]
        cases hp : [39, 39].isPrefixOf (l.drop e) with
        | true =>
          refine iteT ?_
          exact ⟨_, rfl, _, _, rfl, rfl, rfl, e + 2, rfl, by omega, h2 h39 hp⟩
        | false =>
          refine iteF ?_
          refine ⟨_, rfl, _, _, rfl, rfl, ?_⟩
          rw [h1 h39 hp, List.length_drop, Nat.sub_sub_self (by omega)] at q
          exact q
      · rw [decide_eq_false h39]
        refine iteT ?_
        exact ⟨_, rfl, _, _, rfl, rfl, rfl, e + 1, rfl, by omega, hne h39⟩
end
theorem cut_mid (l : List Nat) {i e : Nat} (h1 : i ≤ e) (h2 : e ≤ l.length) : cutS ⟨l.toArray⟩ (some (i : Int)) (some (e : Int)) = ⟨((l.drop i).take (e - i)).toArray⟩ := by
  unfold cutS
  rw [HT.sIx_nat, HT.sIx_nat, S_len', Nat.min_eq_left h2, Nat.min_eq_left (Nat.le_trans h1 h2)]
theorem run_take (m s : List Nat) : s.take (runOf m s).length = runOf m s := (List.prefix_iff_eq_take.mp (List.takeWhile_prefix _)).symm
theorem LET_S : Str.ofString "abcdefghijklmnopqrstuvwxyz_ABCDEFGHIJKLMNOPQRSTUVWXYZ" = ⟨LET.toArray⟩ := (SX.S_tl _).symm
theorem DIG_S : Str.ofString "0123456789" = ⟨DIG.toArray⟩ := (SX.S_tl _).symm
theorem run_all (m : List Nat) : ∀ (s : List Nat) (c : Nat), c ∈ runOf m s → c ∈ m
  | [], _, h => by cases h
  | d :: s, c, h => by
    unfold runOf at h
    by_cases hd : d ∈ m
    · rw [List.takeWhile_cons_of_pos (by simpa using hd)] at h
      rcases List.mem_cons.mp h with rfl | h
      · exact hd
      · exact run_all m s c h
    · rw [List.takeWhile_cons_of_neg (by simpa using hd)] at h
      cases h
theorem DIG_dig : ∀ c ∈ DIG, (decide (48 ≤ c) && decide (c ≤ 57)) = true := by decide +kernel
def sp_rw (K : PySem.W.Frag) : Sp := fun vs H Q _ => ∃ (l : List Nat) (i : Nat), vs = [.str ⟨l.toArray⟩, .int (i : Nat)] ∧ i ≤ l.length ∧ l.length ≤ 100000 ∧ (runOf (LET ++ DIG) (l.drop i)).length ≤ 20 ∧
  ∀ H' p, Same H H' → Dp K H' (.ref p) (.tuple [.str "word", .str ⟨(runOf (LET ++ DIG) (l.drop i)).toArray⟩, .int ((i + (runOf (LET ++ DIG) (l.drop i)).length : Nat) : Int)]) → Q (.ref p) H'
def sp_rn (K : PySem.W.Frag) : Sp := fun vs H Q _ => ∃ (l : List Nat) (i : Nat), vs = [.str ⟨l.toArray⟩, .int (i : Nat)] ∧ i ≤ l.length ∧ l.length ≤ 100000 ∧ 0 < (runOf DIG (l.drop i)).length ∧ (runOf DIG (l.drop i)).length ≤ 15 ∧
  ∀ H' p, Same H H' → Dp K H' (.ref p) (.tuple [.str "number", .int ((NumText.digitsVal (runOf DIG (l.drop i)) : Nat) : Int), .int ((i + (runOf DIG (l.drop i)).length : Nat) : Int)]) → Q (.ref p) H'
def sp_rt (K : PySem.W.Frag) : Sp := fun vs H Q _ => ∃ (l : List Nat) (i : Nat) (rest : List Nat), vs = [.str ⟨l.toArray⟩, .int (i : Nat)] ∧ i < l.length ∧ l.length ≤ 100000 ∧ te (l.drop (i + 1)) = some rest ∧ (und ((l.drop (i + 1)).take ((l.drop (i + 1)).length - rest.length - 1))).length ≤ 100 ∧
  ∀ H' p, Same H H' → Dp K H' (.ref p) (.tuple [.str "text", .str ⟨(und ((l.drop (i + 1)).take ((l.drop (i + 1)).length - rest.length - 1))).toArray⟩, .int ((l.length - rest.length : Nat) : Int)]) → Q (.ref p) H'
def sp_rs (K : PySem.W.Frag) : Sp := fun vs H Q _ => ∃ (l : List Nat) (i : Nat) (g : List Nat), vs = [.str ⟨l.toArray⟩, .int (i : Nat)] ∧ i ≤ l.length ∧ l.length ≤ 100000 ∧ SGN.find? (fun g => g.isPrefixOf (l.drop i)) = some g ∧
  ∀ H' p, Same H H' → Dp K H' (.ref p) (.tuple [.str "sign", .str ⟨g.toArray⟩, .int ((i + g.length : Nat) : Int)]) → Q (.ref p) H'
theorem und_le : ∀ (l acc : List Nat), (TL.joinL [39] (TL.spl [39, 39] 0 acc l)).length ≤ acc.length + l.length := by
  have H : ∀ (n : Nat) (l acc : List Nat), l.length ≤ n → (TL.joinL [39] (TL.spl [39, 39] 0 acc l)).length ≤ acc.length + l.length := by
    intro n
    induction n with
    | zero =>
      intro l acc h
      cases l with
      | nil => exact Nat.le_refl _
      | cons c r => exact absurd h (Nat.not_succ_le_zero _)
    | succ n ih =>
      intro l acc h
      cases l with
      | nil => exact Nat.le_refl _
      | cons c r =>
        have lr : r.length ≤ n := Nat.le_of_succ_le_succ h
        cases hp : TL.pre [39, 39] (c :: r) with
        | true =>
          rw [TL.spl_hit hp]
          have e : TL.spl [39, 39] ([39, 39].length - 1) [] r = TL.spl [39, 39] 0 [] (r.drop 1) := TL.spl_pass _ _ _ _
          rw [e]
          have i2 := ih (r.drop 1) [] (by rw [List.length_drop]; omega)
          have r1 : 1 ≤ r.length := by
            cases r with
            | nil => simp [TL.pre] at hp
            | cons d r' => exact Nat.succ_le_succ (Nat.zero_le _)
          cases es : TL.spl [39, 39] 0 [] (r.drop 1) with
          | nil => exact absurd es (und_dbl.spl_ne _ _ _ _)
          | cons q r' =>
            rw [es] at i2
            show (acc ++ ([39] ++ TL.joinL [39] (q :: r'))).length ≤ _
            rw [List.length_append, List.length_append, List.length_cons]
            rw [List.length_drop, List.length_nil] at i2
            simp only [List.length_cons, List.length_nil]
            omega
        | false =>
          rw [TL.spl_miss hp]
          have := ih r (acc ++ [c]) lr
          rw [List.length_append, List.length_cons, List.length_nil] at this
          rw [List.length_cons]
          omega
  exact fun l acc => H l.length l acc (Nat.le_refl _)
section
variable {P : Program} {w : World} {K : PySem.W.Frag} {mg : Str → Option Value} {base : Heap}
theorem ok_rw {f : Addr} {fd : FuncData} {bl sg : Addr} (F : Fun K "read_word" "read_word" s_read_word f fd) (M : Mg mg) (G : Gl K mg bl sg) (c_behind_run : Cl P w K mg base 1 "behind_run" sp_run) : FnOk P w K mg base CX0 2 f fd ["source", "start"] (sp_rw K) := by
  refine F.ok sc_read_word (fun vs H Q E h => ?_) (fun cdv A outer s H vs Q E hr h => ?_)
  · obtain ⟨l, i, rfl, _⟩ := h
    rfl
  · obtain ⟨l, i, rfl, hi, hl, h20, q⟩ := h
    have zl : (⟨l.toArray⟩ : Str).length ≤ sizeLine := by rw [S_len']; exact Nat.le_trans hl (by decide)
    have hrl := run_le (LET ++ DIG) (l.drop i)
    rw [List.length_drop] at hrl
    refine ⟨_, (pss_cons (ps_set (i := 2) sc_read_word.nd rfl (.inl rfl) (pe_u c_behind_run hr (by first | decide | omega) (by rfl) (pa_cons (pv 0) (pa_cons (pv 1) (pa_cons (pe_op op_add_str (C8.pe_gc (by rfl) G.LETTERS) (C8.pe_gc (by rfl) G.DIGITS)) pa_nil)))))
      (pss_cons (ps_if (pt_cmpR op_gt (pe_op op_sub (pv 2) (pv 1)) (C8.pe_gc (by rfl) G.MOST_WORD) (nomark _)) (pss_one ps_never) pss_nil)
      (pss_one (ps_ret (pe_tup (pa_cons pe_str (pa_cons (pe_slice sl_str (pv 0) (po_some (pv 1)) (po_some (pv 2))) (pa_cons (pv 2) pa_nil)))))))), ?_⟩
    refine ⟨_, rfl, _, rfl, _, _, rfl, rfl, by decide +kernel, ?_⟩
    rw [LET_S, DIG_S, show (⟨LET.toArray⟩ : Str) ++ ⟨DIG.toArray⟩ = ⟨(LET ++ DIG).toArray⟩ from SX.S_cat LET DIG]
    refine ⟨l, LET ++ DIG, i, rfl, hi, hl, ?_⟩
    refine ⟨_, rfl, _, rfl, _, _, rfl, rfl, _, _, rfl, rfl, _, rfl, ?_⟩
    rw [decide_eq_false (by omega)]
    refine iteF ?_
    refine ⟨_, rfl, _, rfl, _, rfl, _, rfl, _, rfl, ⟨l.toArray⟩, rfl, zl, _, rfl, by show 3 ≤ sizeLine; decide, fun p np => ?_⟩
    rw [cut_mid l (by omega) (by omega), Nat.add_sub_cancel_left, run_take]
    exact q _ p (same_upd np) (.tup (.of upd_same) (.cons (.str _) (.cons (.str _) (.cons (.int _) .nil))))
theorem ok_rn {f : Addr} {fd : FuncData} {bl sg : Addr} (F : Fun K "read_number" "read_number" s_read_number f fd) (M : Mg mg) (G : Gl K mg bl sg) (c_behind_run : Cl P w K mg base 1 "behind_run" sp_run) : FnOk P w K mg base CX0 2 f fd ["source", "start"] (sp_rn K) := by
  refine F.ok sc_read_number (fun vs H Q E h => ?_) (fun cdv A outer s H vs Q E hr h => ?_)
  · obtain ⟨l, i, rfl, _⟩ := h
    rfl
  · obtain ⟨l, i, rfl, hi, hl, h0, h15, q⟩ := h
    have zl : (⟨l.toArray⟩ : Str).length ≤ sizeLine := by rw [S_len']; exact Nat.le_trans hl (by decide)
    have hrl := run_le DIG (l.drop i)
    rw [List.length_drop] at hrl
    refine ⟨_, (pss_cons (ps_set (i := 2) sc_read_number.nd rfl (.inl rfl) (pe_u c_behind_run hr (by first | decide | omega) (by rfl) (pa_cons (pv 0) (pa_cons (pv 1) (pa_cons (C8.pe_gc (by rfl) G.DIGITS) pa_nil)))))
      (pss_cons (ps_if (pt_cmpR op_gt (pe_op op_sub (pv 2) (pv 1)) (C8.pe_gc (by rfl) G.MOST_NUMBER) (nomark _)) (pss_one ps_never) pss_nil)
      (pss_one (ps_ret (pe_tup (pa_cons pe_str (pa_cons (pe_callTy call_int_str (by rfl) M.int (by decide +kernel) (pa_cons (pe_slice sl_str (pv 0) (po_some (pv 1)) (po_some (pv 2))) pa_nil)) (pa_cons (pv 2) pa_nil)))))))), ?_⟩
    refine ⟨_, rfl, _, rfl, l, DIG, i, by rw [DIG_S]; rfl, hi, hl, ?_⟩
    refine ⟨_, rfl, _, rfl, _, _, rfl, rfl, _, _, rfl, rfl, _, rfl, ?_⟩
    rw [decide_eq_false (by omega)]
    refine iteF ?_
    refine ⟨_, rfl, _, rfl, _, rfl, _, rfl, _, rfl, ⟨l.toArray⟩, rfl, zl, _, ((NumText.digitsVal (runOf DIG (l.drop i)) : Nat) : Int), rfl, ?_, ?_, _, rfl, by show 3 ≤ sizeLine; decide, fun p np => ?_⟩
    · rw [cut_mid l (by omega) (by omega), Nat.add_sub_cancel_left, run_take]
      exact SX.int_S (List.all_eq_true.mpr fun c hc => DIG_dig c (run_all _ _ c hc)) (fun z => by rw [z] at h0; exact absurd h0 (Nat.lt_irrefl _)) (by omega)
    · rw [cut_mid l (by omega) (by omega), Nat.add_sub_cancel_left, run_take, S_len']
      omega
    · exact q _ p (same_upd np) (.tup (.of upd_same) (.cons (.str _) (.cons (.int _) (.cons (.int _) .nil))))
theorem ok_rt {f : Addr} {fd : FuncData} {bl sg : Addr} (F : Fun K "read_text" "read_text" s_read_text f fd) (M : Mg mg) (G : Gl K mg bl sg) (c_behind_text : Cl P w K mg base 1 "behind_text" sp_btx) : FnOk P w K mg base CX0 2 f fd ["source", "start"] (sp_rt K) := by
  refine F.ok sc_read_text (fun vs H Q E h => ?_) (fun cdv A outer s H vs Q E hr h => ?_)
  · obtain ⟨l, i, rest, rfl, _⟩ := h
    rfl
  · obtain ⟨l, i, rest, rfl, hi, hl, ht, h100, q⟩ := h
    have zl : (⟨l.toArray⟩ : Str).length ≤ sizeLine := by rw [S_len']; exact Nat.le_trans hl (by decide)
    have hlen := te_len _ _ _ (Nat.le_refl _) ht
    rw [List.length_drop] at hlen
    refine ⟨_, (pss_cons (ps_set (i := 2) sc_read_text.nd rfl (.inl rfl) (pe_u c_behind_text hr (by first | decide | omega) (by rfl) (pa_cons (pv 0) (pa_cons (pv 1) pa_nil))))
      (pss_cons (ps_if (pt_cmpR op_isN (pv 2) pe_non (nomark _)) (pss_one ps_never) pss_nil)
      (pss_cons (ps_set (i := 3) sc_read_text.nd rfl (.inl rfl) (pe_rplG (peg_slice sl_str (pv 0) (peg_add (pv 1) pe_int) (pe_op op_sub (pv 2) pe_int)) (by decide)))
      (pss_cons (ps_if (pt_cmpR op_gt (pe_callB call_len_str (by rfl) M.len PySem.boot_len (pa_cons (pv 3) pa_nil)) (C8.pe_gc (by rfl) G.MOST_TEXT) (nomark _)) (pss_one ps_never) pss_nil)
      (pss_one (ps_ret (pe_tup (pa_cons pe_str (pa_cons (pv 3) (pa_cons (pv 2) pa_nil)))))))))), ?_⟩
    refine ⟨_, rfl, _, rfl, l, i, rest, rfl, hi, hl, ht, ?_⟩
    refine ⟨_, rfl, rfl, _, rfl, iteF ?_⟩
    refine ⟨_, rfl, _, rfl, _, _, rfl, rfl, _, rfl, _, rfl, _, _, rfl, rfl, _, rfl, ⟨l.toArray⟩, rfl, zl, _, rfl, ?_⟩
    have e1 : ((i : Nat) : Int) + 1 = ((i + 1 : Nat) : Int) := by omega
    have e2 : ((l.length - rest.length : Nat) : Int) - 1 = ((l.length - rest.length - 1 : Nat) : Int) := by omega
    rw [e1, e2, cut_mid l (by omega) (by omega)]
    have e3 : l.length - rest.length - 1 - (i + 1) = (l.drop (i + 1)).length - rest.length - 1 := by
      rw [List.length_drop]
      omega
    rw [e3]
    generalize hraw : (l.drop (i + 1)).take ((l.drop (i + 1)).length - rest.length - 1) = raw at h100 q
    have hrl : raw.length ≤ 100000 := by
      rw [← hraw, List.length_take, List.length_drop]
      omega
    refine ⟨by rw [S_len']; show raw.length + (raw.length + 1) * 1 ≤ 16777216; omega, ?_⟩
    rw [show Txt.replace ⟨raw.toArray⟩ (Str.ofString "''") (Str.ofString "'") = ⟨(und raw).toArray⟩ from rpl_S raw [39, 39] [39] (by decide) (by decide)]
    have hul := und_le raw []
    refine ⟨_, rfl, _, rfl, by rw [S_len']; exact Nat.le_trans h100 (by decide), _, _, rfl, rfl, _, rfl, ?_⟩
    rw [S_len', decide_eq_false (by omega)]
    refine iteF ?_
    refine ⟨_, rfl, _, rfl, by show 3 ≤ sizeLine; decide, fun p np => ?_⟩
    exact q _ p (same_upd np) (.tup (.of upd_same) (.cons (.str _) (.cons (.str _) (.cons (.int _) .nil))))
theorem ok_rs {f : Addr} {fd : FuncData} {bl sg : Addr} (F : Fun K "read_sign" "read_sign" s_read_sign f fd) (M : Mg mg) (G : Gl K mg bl sg) : FnOk P w K mg base CX0 1 f fd ["source", "start"] (sp_rs K) := by
  refine F.ok sc_read_sign (fun vs H Q E h => ?_) (fun cdv A outer s H vs Q E hr h => ?_)
  · obtain ⟨l, i, g, rfl, _⟩ := h
    rfl
  · obtain ⟨l, i, g, rfl, hi, hl, hg, q⟩ := h
    have zl : (⟨l.toArray⟩ : Str).length ≤ sizeLine := by rw [S_len']; exact Nat.le_trans hl (by decide)
    have hhead : (SGN.filter (fun g => g.isPrefixOf (l.drop i))).head? = some g := by rw [List.head?_filter, hg]
    obtain ⟨gs, hgs⟩ : ∃ gs, SGN.filter (fun g => g.isPrefixOf (l.drop i)) = g :: gs := by
      cases e : SGN.filter (fun g => g.isPrefixOf (l.drop i)) with
      | nil => rw [e] at hhead; cases hhead
      | cons a r => rw [e] at hhead; cases hhead; exact ⟨r, rfl⟩
    have hgl : g.length ≤ 2 := (show ∀ g ∈ SGN, g.length ≤ 2 by decide) g (List.mem_of_find?_eq_some hg)
    refine ⟨_, (pss_cons (ps_setLc (i := 2) (own := [("sign", 3)]) (g := gName 3) rfl sc_read_sign.nd rfl rfl (sw_true rfl rfl rfl (by decide +kernel)) (pi_tup (C8.pe_gc (by rfl) G.SIGNS)) (blkOk_by (N := N_read_sign) (sc := defScope s_read_sign) (by decide +kernel)) (fun _ _ _ _ _ => (pg_name (i := 3) sc_read_sign.nd rfl (.inl rfl))) (fun _ _ _ _ _ => (pts_one (pt_val (pe_bmK K PySem.F.plainAttrs_str PySem.F.slot_str_startswith PySem.F.type_str_startswith mt_startswith3 (pv 0) (pa_cons (pv 3) (pa_cons (pv 1) pa_nil)))))) (fun _ _ _ _ _ => (pv 3)))
      (pss_cons (ps_if (pt_not (pt_truthK K (pv 2) (by intro _; rfl))) (pss_one ps_never) pss_nil)
      (pss_one (ps_ret (pe_tup (pa_cons pe_str (pa_cons (pe_ix (ix_listK K) (pv 2) pe_int (fun _ _ => rfl)) (pa_cons (pe_op op_add (pv 1) (pe_callB call_len_str (by rfl) M.len PySem.boot_len (pa_cons (pe_ix (ix_listK K) (pv 2) pe_int (fun _ _ => rfl)) pa_nil))) pa_nil)))))))), ?_⟩
    refine ⟨sg, rfl, ⟨_, G.sgT H⟩, fun D nD => ?_⟩
    refine lc_tup (K := K) (a := sg) (xs := SGN.map fun g => V.str ⟨g.toArray⟩) (fun k Hi => Same H Hi ∧ Hi D = some (.lst (((SGN.take k).filter (fun g => g.isPrefixOf (l.drop i))).map fun g => V.str ⟨g.toArray⟩))) ⟨same_upd nD, upd_same⟩ (fun k Hi _ _ => G.sgT Hi) (fun k x Hi hx hp => ?_) (fun Hn hp => ?_)
    · obtain ⟨sk, eD⟩ := hp
      rw [List.getElem?_map] at hx
      obtain ⟨y, hy, rfl⟩ := Option.map_eq_some_iff.mp hx
      refine ⟨rfl, ?_⟩
      refine ⟨_, rfl, rfl, _, rfl, _, rfl, ⟨l.toArray⟩, ⟨y.toArray⟩, _, rfl, rfl, _, rfl, ?_⟩
      rw [starts_at l y i hi]
      have ek : (SGN.take (k + 1)).filter (fun g => g.isPrefixOf (l.drop i)) = (SGN.take k).filter (fun g => g.isPrefixOf (l.drop i)) ++ [y].filter (fun g => g.isPrefixOf (l.drop i)) := by
        rw [List.take_add_one, hy, List.filter_append]
        rfl
      have hk : k < 14 := (List.getElem?_eq_some_iff.mp hy).1
      cases hb : y.isPrefixOf (l.drop i) with
      | true =>
        refine iteT ?_
        refine ⟨_, rfl, _, eD, ?_, fun b o e => ?_, ?_⟩
        · rw [List.length_map]
          refine Nat.lt_of_le_of_lt (List.length_filter_le _ _) ?_
          rw [List.length_take]
          exact Nat.lt_of_lt_of_le (m := 20) (by omega) (by decide)
        · rw [upd_ne (ne_of_none e nD)]
          exact sk _ _ e
        · rw [upd_same, ek, List.filter_cons_of_pos (by simpa using hb), List.map_append]
          rfl
      | false =>
        refine iteF ?_
        refine ⟨sk, ?_⟩
        rw [ek, List.filter_cons_of_neg (by simp [hb]), List.filter_nil, List.append_nil]
        exact eD
    · obtain ⟨sn, eD⟩ := hp
      have ea : (SGN.take (SGN.map fun g => V.str ⟨g.toArray⟩).length).filter (fun g => g.isPrefixOf (l.drop i)) = g :: gs := by
        rw [List.take_of_length_le (by rw [List.length_map]; exact Nat.le_refl _), hgs]
      rw [ea] at eD
      have lD : SqL K Hn D (V.str ⟨g.toArray⟩ :: gs.map fun g => V.str ⟨g.toArray⟩) := .of eD
      refine ⟨_, rfl, true, .inl ⟨_, lD, rfl⟩, iteF ?_⟩
      refine ⟨_, rfl, D, _, _, _, rfl, rfl, lD, atI_nat (j := 0) rfl, ?_⟩
      refine ⟨_, rfl, _, rfl, D, _, _, _, rfl, rfl, lD, atI_nat (j := 0) rfl, ?_⟩
      refine ⟨_, rfl, by rw [S_len']; exact Nat.le_trans hgl (by decide), _, _, rfl, rfl, by show 3 ≤ sizeLine; decide, fun p np => ?_⟩
      rw [S_len']
      exact q _ p (sn.trans (same_upd np)) (.tup (.of upd_same) (.cons (.str _) (.cons (.str _) (.cons (.int _) .nil))))
theorem ok_rtok {f : Addr} {fd : FuncData} {bl sg : Addr} (F : Fun K "read_token" "read_token" s_read_token f fd) (M : Mg mg) (G : Gl K mg bl sg) (c_read_word : Cl P w K mg base 2 "read_word" (sp_rw K)) (c_read_number : Cl P w K mg base 2 "read_number" (sp_rn K)) (c_read_text : Cl P w K mg base 2 "read_text" (sp_rt K)) (c_read_sign : Cl P w K mg base 1 "read_sign" (sp_rs K)) : FnOk P w K mg base CX0 3 f fd ["source", "start"] (sp_rtok K fun _ => True) := by
  refine F.ok sc_read_token (fun vs H Q E h => ?_) (fun cdv A outer s H vs Q E hr h => ?_)
  · obtain ⟨l, i, kv, rest, rfl, _⟩ := h
    rfl
  · obtain ⟨l, i, kv, rest, rfl, hi, hl, ht, _, q⟩ := h
    have zl : (⟨l.toArray⟩ : Str).length ≤ sizeLine := by rw [S_len']; exact Nat.le_trans hl (by decide)
    have hat : atI (⟨l.toArray⟩ : Str).cps.toList ((i : Nat) : Int) = some l[i] := atI_nat (show l[i]? = _ from List.getElem?_eq_getElem hi)
    have hd : l.drop i = l[i] :: l.drop (i + 1) := List.drop_eq_getElem_cons hi
    have hdl : (l.drop i).length = l.length - i := List.length_drop
    rw [hd] at ht
    have ht : tokC l[i] (l.drop (i + 1)) = some (kv, rest) := ht
    unfold tokC at ht
    refine ⟨_, (pss_cons (ps_set (i := 2) sc_read_token.nd rfl (.inl rfl) (pe_ix ix_str (pv 0) (pv 1) (fun _ _ => rfl)))
      (pss_cons (ps_if (pt_cmpR op_in_str (pv 2) (C8.pe_gc (by rfl) G.LETTERS) (by rfl)) (pss_one (ps_ret (pe_u c_read_word hr (by first | decide | omega) (by rfl) (pa_cons (pv 0) (pa_cons (pv 1) pa_nil))))) pss_nil)
      (pss_cons (ps_if (pt_cmpR op_in_str (pv 2) (C8.pe_gc (by rfl) G.DIGITS) (by rfl)) (pss_one (ps_ret (pe_u c_read_number hr (by first | decide | omega) (by rfl) (pa_cons (pv 0) (pa_cons (pv 1) pa_nil))))) pss_nil)
      (pss_cons (ps_if (pt_cmpR op_eq (pv 2) pe_str (nomark _)) (pss_one (ps_ret (pe_u c_read_text hr (by first | decide | omega) (by rfl) (pa_cons (pv 0) (pa_cons (pv 1) pa_nil))))) pss_nil)
      (pss_one (ps_ret (pe_u c_read_sign hr (by first | decide | omega) (by rfl) (pa_cons (pv 0) (pa_cons (pv 1) pa_nil))))))))), ?_⟩
    refine ⟨_, rfl, _, rfl, _, _, _, rfl, rfl, zl, hat, ?_⟩
    refine ⟨_, rfl, _, _, rfl, rfl, _, rfl, ?_⟩
    rw [LET_S, in_text]
    by_cases h1 : l[i] ∈ LET
    · rw [if_pos h1, ← hd] at ht
      rw [decide_eq_true h1]
      refine iteT ?_
      split at ht
      · rename_i h20
        cases ht
        have hrl := run_le (LET ++ DIG) (l.drop i)
        refine ⟨_, rfl, _, rfl, l, i, rfl, Nat.le_of_lt hi, hl, h20, fun H' p s' dp => q H' p s' ?_⟩
        have e : l.length - ((l.drop i).drop (runOf (LET ++ DIG) (l.drop i)).length).length = i + (runOf (LET ++ DIG) (l.drop i)).length := by
          rw [List.length_drop]
          omega
        rw [e]
        exact dp
      · cases ht
    · rw [if_neg h1] at ht
      rw [decide_eq_false h1]
      refine iteF ?_
      refine ⟨_, rfl, _, _, rfl, rfl, _, rfl, ?_⟩
      rw [DIG_S, in_text]
      by_cases h2 : l[i] ∈ DIG
      · rw [if_pos h2, ← hd] at ht
        rw [decide_eq_true h2]
        refine iteT ?_
        split at ht
        · rename_i h15
          cases ht
          have hrl := run_le DIG (l.drop i)
          have hr0 := run_head (m := DIG) (r := l.drop (i + 1)) h2
          rw [← hd] at hr0
          refine ⟨_, rfl, _, rfl, l, i, rfl, Nat.le_of_lt hi, hl, hr0, h15, fun H' p s' dp => q H' p s' ?_⟩
          have e : l.length - ((l.drop i).drop (runOf DIG (l.drop i)).length).length = i + (runOf DIG (l.drop i)).length := by
            rw [List.length_drop]
            omega
          rw [e]
          exact dp
        · cases ht
      · rw [if_neg h2] at ht
        rw [decide_eq_false h2]
        refine iteF ?_
        refine ⟨_, rfl, rfl, _, rfl, ?_⟩
        rw [show decide (V.str ⟨#[l[i]]⟩ = V.str (Str.ofString "'")) = decide (l[i] = 39) from str1 l[i] 39]
        by_cases h3 : l[i] = 39
        · rw [if_pos h3] at ht
          rw [decide_eq_true h3]
          refine iteT ?_
          split at ht
          · cases ht
          · rename_i rest' er
            split at ht
            · rename_i h100
              cases ht
              exact ⟨_, rfl, _, rfl, l, i, rest, rfl, hi, hl, er, h100, fun H' p s' dp => q H' p s' dp⟩
            · cases ht
        · rw [if_neg h3, ← hd] at ht
          rw [decide_eq_false h3]
          refine iteF ?_
          split at ht
          · cases ht
          · rename_i g eg
            cases ht
            refine ⟨_, rfl, _, rfl, l, i, g, rfl, Nat.le_of_lt hi, hl, eg, fun H' p s' dp => q H' p s' ?_⟩
            have hp : g <+: l.drop i := List.isPrefixOf_iff_prefix.mp (List.find?_some (p := fun g : List Nat => g.isPrefixOf (l.drop i)) eg)
            have hpl := hp.length_le
            have e : l.length - ((l.drop i).drop g.length).length = i + g.length := by
              rw [List.length_drop]
              omega
            rw [e]
            exact dp
def sp_tok (K : PySem.W.Frag) : Sp := fun vs H Q _ => ∃ (l : List Nat) (ts : List (Kv × Nat)), vs = [.str ⟨l.toArray⟩] ∧ l.length ≤ 100000 ∧ Lx l.length (skip l) ts ∧ ∀ H' p, Same H H' → Dp K H' (.ref p) (.list (ts.map tokD)) → Q (.ref p) H'
theorem toks_only : ∀ ts : List (Kv × Nat), tupOnlys (ts.map tokD) = true
  | [] => rfl
  | t :: ts => by
    rw [List.map_cons]
    unfold tupOnlys
    rw [toks_only ts, Bool.and_true]
    obtain ⟨kv, o⟩ := t
    cases kv <;> rfl
theorem skip_le (s : List Nat) : (skip s).length ≤ s.length := skip_len _ s (Nat.le_refl _)
theorem te_suf : ∀ (n : Nat) (s r : List Nat), s.length ≤ n → te s = some r → r <:+ s
  | _, [], _, _, h => by cases h
  | 0, _ :: _, _, h, _ => absurd h (Nat.not_succ_le_zero _)
  | n + 1, c :: s, r, hn, h => by
    have l1 : s.length ≤ n := Nat.le_of_succ_le_succ hn
    unfold te at h
    by_cases h10 : c = 10
    · rw [if_pos h10] at h
      cases h
    · rw [if_neg h10] at h
      by_cases h39 : c = 39
      · rw [if_pos h39] at h
        split at h
        · rename_i r'
          exact ((te_suf n r' r (by rw [List.length_cons] at l1; omega) h).trans (List.suffix_cons 39 r')).trans (List.suffix_cons c _)
        · cases h
          exact List.suffix_cons c _
      · rw [if_neg h39] at h
        exact (te_suf n s r l1 h).trans (List.suffix_cons c s)
theorem tok_suf {s : List Nat} {kv : Kv} {rest : List Nat} (h : tok s = some (kv, rest)) : rest <:+ s := by
  cases s with
  | nil => cases h
  | cons c r =>
    have h : tokC c r = some (kv, rest) := h
    unfold tokC at h
    by_cases h1 : c ∈ LET
    · rw [if_pos h1] at h
      split at h
      · cases h
        exact List.drop_suffix _ _
      · cases h
    · rw [if_neg h1] at h
      by_cases h2 : c ∈ DIG
      · rw [if_pos h2] at h
        split at h
        · cases h
          exact List.drop_suffix _ _
        · cases h
      · rw [if_neg h2] at h
        by_cases h3 : c = 39
        · rw [if_pos h3] at h
          split at h
          · cases h
          · rename_i rest' e
            split at h
            · cases h
              exact (te_suf _ _ _ (Nat.le_refl _) e).trans (List.suffix_cons c r)
            · cases h
        · rw [if_neg h3] at h
          split at h
          · cases h
          · cases h
            exact List.drop_suffix _ _
theorem ok_tok {f : Addr} {fd : FuncData} (F : Fun K "tokens" "tokens" s_tokens f fd) (M : Mg mg) (c_behind_gap : Cl P w K mg base 2 "behind_gap" sp_gap) (c_read_token : Cl P w K mg base 3 "read_token" (sp_rtok K fun _ => True)) : FnOk P w K mg base CX0 4 f fd ["source"] (sp_tok K) := by
  refine F.ok sc_tokens (fun vs H Q E h => ?_) (fun cdv A outer s H vs Q E hr h => ?_)
  · obtain ⟨l, ts, rfl, _⟩ := h
    rfl
  · obtain ⟨l, ts, rfl, hl, hx, q⟩ := h
    have zl : (⟨l.toArray⟩ : Str).length ≤ sizeLine := by rw [S_len']; exact Nat.le_trans hl (by decide)
    refine ⟨_, (pss_cons (ps_set (i := 1) sc_tokens.nd rfl (.inl rfl) (pe_lst pa_nil))
      (pss_cons (ps_set (i := 2) sc_tokens.nd rfl (.inl rfl) (pe_u c_behind_gap hr (by first | decide | omega) (by rfl) (pa_cons (pv 0) (pa_cons pe_int pa_nil))))
      (pss_cons (ps_while PassesOwn.never (pt_cmpR op_lt (pv 2) (pe_callB call_len_str (by rfl) M.len PySem.boot_len (pa_cons (pv 0) pa_nil)) (nomark _)) (pss_cons (ps_asg (pe_u c_read_token hr (by first | decide | omega) (by rfl) (pa_cons (pv 0) (pa_cons (pv 2) pa_nil))) (pg_tup (by rfl) (pgs_cons (pg_name (i := 3) sc_tokens.nd rfl (.inl rfl)) (pgs_cons (pg_name (i := 4) sc_tokens.nd rfl (.inl rfl)) (pgs_cons (pg_name (i := 5) sc_tokens.nd rfl (.inl rfl)) pgs_nil)))))
      (pss_cons (ps_expr (pe_bmK K PySem.F.plainAttrs_list PySem.F.slot_list_append PySem.F.type_list_append mt_append (pv 1) (pa_cons (pe_tup (pa_cons (pv 3) (pa_cons (pv 4) (pa_cons (pv 2) pa_nil)))) pa_nil)))
      (pss_one (ps_set (i := 2) sc_tokens.nd rfl (.inl rfl) (pe_u c_behind_gap hr (by first | decide | omega) (by rfl) (pa_cons (pv 0) (pa_cons (pv 5) pa_nil))))))))
      (pss_one (ps_ret (pv 1)))))), ?_⟩
    refine ⟨Nat.zero_le _, fun D nD => ?_⟩
    refine ⟨_, rfl, l, 0, rfl, Nat.zero_le _, hl, ?_⟩
    rw [List.drop_zero]
    obtain ⟨g1, g2⟩ := suf_at (l := l) (i := 0) (Nat.zero_le _) (show skip l <:+ l.drop 0 from skip_suf _ l (Nat.le_refl _))
    refine ⟨fun k σ Hi => ∃ (o : Nat) (done rest : List (Kv × Nat)) (xs : List V) (y1 y2 y3 : Option V), σ = [some (.str ⟨l.toArray⟩), some (.ref D), some (.int (o : Nat)), y1, y2, y3] ∧ k = l.length - o ∧ o ≤ l.length ∧ ts = done ++ rest ∧ Lx l.length (l.drop o) rest ∧ done.length + (l.length - o) ≤ l.length ∧ (∀ b x, H b = some x → Hi b = some x) ∧ Hi D = some (.lst xs) ∧ DpAll K Hi xs (done.map tokD), ⟨_, l.length - (skip l).length, [], ts, [], none, none, none, rfl, rfl, by omega, rfl, by rw [← g1]; exact hx, by show 0 + _ ≤ _; omega, fun b x e => same_upd nD _ _ e, upd_same, .nil⟩, fun k σ Hi hW => ?_⟩
    obtain ⟨o, done, rest, xs, y1, y2, y3, rfl, rfl, ho, rfl, hrest, hcount, sm, eD, da⟩ := hW
    refine ⟨_, rfl, _, rfl, _, rfl, zl, _, _, rfl, rfl, _, rfl, ?_⟩
    rw [S_len']
    by_cases hlt : o < l.length
    · rw [decide_eq_true (show ((o : Nat) : Int) < ((l.length : Nat) : Int) by omega)]
      refine iteT ?_
      have hdl : (l.drop o).length = l.length - o := List.length_drop
      obtain ⟨kv, rs, ts', er, htok, hts⟩ : ∃ (kv : Kv) (rs : List Nat) (ts' : List (Kv × Nat)), rest = (kv, l.length - (l.drop o).length) :: ts' ∧ tok (l.drop o) = some (kv, rs) ∧ Lx l.length (skip rs) ts' := by
        generalize hs : l.drop o = s at hrest hdl
        cases hrest with
        | nil =>
          rw [List.length_nil] at hdl
          omega
        | cons h1 h2 => exact ⟨_, _, _, rfl, h1, h2⟩
      subst er
      have eo : l.length - (l.drop o).length = o := by omega
      obtain ⟨r1, r2⟩ := suf_at (l := l) (i := o) ho (tok_suf htok)
      have hrl := tok_len htok
      obtain ⟨k1, k2⟩ := suf_at (l := l) (i := l.length - rs.length) (by omega) (show skip rs <:+ l.drop (l.length - rs.length) by rw [← r1]; exact skip_suf _ rs (Nat.le_refl _))
      refine ⟨fun σ H' => ∃ (o' : Nat) (xs' : List V) (z1 z2 z3 : Option V), σ = [some (.str ⟨l.toArray⟩), some (.ref D), some (.int (o' : Nat)), z1, z2, z3] ∧ o < o' ∧ o' ≤ l.length ∧ Lx l.length (l.drop o') ts' ∧ (∀ b x, H b = some x → H' b = some x) ∧ H' D = some (.lst xs') ∧ DpAll K H' xs' ((done ++ [(kv, o)]).map tokD), fun σ H' hN => ?_, ?_⟩
      · obtain ⟨o', xs', z1, z2, z3, rfl, n1, n2, n3, n4, n5, n6⟩ := hN
        refine ⟨l.length - o', by omega, o', done ++ [(kv, o)], ts', xs', z1, z2, z3, rfl, rfl, n2, ?_, n3, ?_, n4, n5, n6⟩
        · rw [eo, List.append_assoc]
          rfl
        · rw [List.length_append, List.length_singleton]
          omega
      · refine ⟨_, rfl, _, rfl, l, o, kv, rs, rfl, hlt, hl, htok, trivial, fun H' p s' dp => ?_⟩
        cases dp with
        | @tup _ zs _ hs ha =>
          cases ha with
          | @cons v1 _ _ _ d1 ha =>
            cases ha with
            | @cons v2 _ _ _ d2 ha =>
              cases ha with
              | @cons v3 _ _ _ d3 ha =>
                cases ha
                cases d1
                cases d3
                refine ⟨p, _, rfl, hs, rfl, _, _, rfl, _, _, rfl, _, _, rfl, rfl, ?_⟩
                have eD' := s' _ _ eD
                refine ⟨_, rfl, .inl ⟨rfl, _, .of eD'⟩, _, rfl, _, rfl, _, rfl, by show 3 ≤ sizeLine; decide, fun p2 np2 => ?_⟩
                have s2 := same_upd np2 (o := .tup [.str kv.kd, v2, .int ((o : Nat) : Int)])
                have eD2 := s2 _ _ eD'
                have xl : xs.length = done.length := by rw [DpAll.len da, List.length_map]
                refine ⟨D, xs, _, rfl, rfl, eD2, ?_, ?_⟩
                · rw [xl]
                  exact Nat.lt_of_le_of_lt (m := 100000) (by omega) (by decide)
                · refine ⟨_, rfl, _, rfl, l, l.length - rs.length, rfl, by omega, hl, ?_⟩
                  rw [← r1]
                  refine ⟨l.length - (skip rs).length, xs ++ [.ref p2], _, _, _, rfl, by have := skip_le rs; omega, by omega, by rw [← k1]; exact hts, fun b x e => ?_, upd_same, ?_⟩
                  · rw [upd_ne (ne_of_none e nD)]
                    exact s2 _ _ (s' _ _ (sm _ _ e))
                  · rw [List.map_append]
                    refine DpAll.snoc (DpAll.away eD2 _ _ (toks_only _) (DpAll.ext (fun b x e => s2 _ _ (s' _ _ e)) _ _ da)) ?_
                    refine Dp.away eD2 _ _ (by cases kv <;> rfl) (.tup (.of upd_same) (.cons (.str _) (.cons (Dp.ext s2 _ _ d2) (.cons (.int _) .nil))))
    · rw [decide_eq_false (show ¬ ((o : Nat) : Int) < ((l.length : Nat) : Int) by omega)]
      refine iteF ?_
      have e0 : l.drop o = [] := List.drop_eq_nil_of_le (by omega)
      rw [e0] at hrest
      have er : rest = [] := by
        cases hrest with
        | nil => rfl
        | cons h1 _ => cases h1
      subst er
      rw [List.append_nil] at q
      exact ⟨_, rfl, q Hi D sm (.lst (.of eD) da)⟩
end

/-! ### the law's names, texts and numbers -/
def LAWL : List Nat := (Str.ofString "abcdefghijklmnopqrstuvwxyzABCDEFGHIJKLMNOPQRSTUVWXYZ_").cps.toList
def RESs : List String := ["table", "step", "int", "text", "truth", "from", "as", "left", "semi", "anti", "join", "on", "where", "group", "with", "select", "union", "except", "intersect", "count", "distinct", "sum", "min", "max", "or", "and", "not", "div", "mod", "null", "true", "false", "length", "missing", "starts", "coalesce", "if"]
def RES : List Str := RESs.map Str.ofString
def NameOk (l : List Nat) : Prop := ∃ c r, l = c :: r ∧ c ∈ LET ∧ (∀ x ∈ r, x ∈ LET ++ DIG) ∧ l.length ≤ 20
def sp_res : Sp := fun vs H Q _ => vs = [] ∧ ∀ H' p, Same H H' → H p = none → H' p = some (.lst (RES.map V.str)) → Q (.ref p) H'
def sp_name : Sp := fun vs H Q _ => ∃ (d c : Addr), vs = [.ref d] ∧ Dr H d c ∧ ∀ H' l, Fd d H H' → Dr H' d c → NameOk l → Q (.str ⟨l.toArray⟩) H'
def sp_string (CHS : List Nat) : Sp := fun vs H Q _ => ∃ (d c : Addr), vs = [.ref d] ∧ Dr H d c ∧ ∀ H' (l : List Nat), Fd d H H' → Dr H' d c → l.length ≤ 100 → (∀ x ∈ l, x ∈ CHS) → Q (.str ⟨l.toArray⟩) H'
def sp_quoted : Sp := fun vs H Q _ => ∃ (l : List Nat), vs = [.str ⟨l.toArray⟩] ∧ l.length ≤ 1000 ∧ Q (.str ⟨(39 :: (dbl l ++ [39])).toArray⟩) H
def sp_number : Sp := fun vs H Q _ => ∃ (d c : Addr), vs = [.ref d] ∧ Dr H d c ∧ ∀ H' (n : Nat), Fd d H H' → Dr H' d c → n < 10 ^ 15 → Q (.int (n : Int)) H'
theorem LAWL_in : ∀ c ∈ LAWL, c ∈ LET := by decide +kernel
theorem LAWL_len : LAWL.length = 53 := by decide +kernel
theorem DIG_len : DIG.length = 10 := by decide +kernel
theorem LAWL_S : Str.ofString "abcdefghijklmnopqrstuvwxyzABCDEFGHIJKLMNOPQRSTUVWXYZ_" = ⟨LAWL.toArray⟩ := (SX.S_tl _).symm
theorem res_len : ∀ x ∈ RES, x.length ≤ 9 := by decide +kernel
theorem res_in {l : List Nat} (h : inV (.str ⟨l.toArray⟩) (RES.map V.str) = true) : l.length ≤ 9 := by
  unfold inV at h
  rw [List.any_map, List.any_eq_true] at h
  obtain ⟨x, hx, he⟩ := h
  have e : x = ⟨l.toArray⟩ := eq_of_beq (show (x == ⟨l.toArray⟩) = true from he)
  have := res_len x hx
  rw [e, S_len'] at this
  exact this
theorem res_flat : (RES.map V.str).all flatV = true := by
  rw [List.all_map]
  exact List.all_eq_true.mpr fun x _ => rfl
theorem dbl_len : ∀ l : List Nat, (dbl l).length ≤ 2 * l.length
  | [] => Nat.le_refl _
  | c :: r => by
    have := dbl_len r
    unfold dbl
    split
    · simp only [List.length_cons]; omega
    · simp only [List.length_cons]; omega
section
variable {P : Program} {w : World} {K : PySem.W.Frag} {mg : Str → Option Value} {base : Heap}
theorem ok_res {f : Addr} {fd : FuncData} (F : Fun K "_law_reserved" "_law_reserved" s__law_reserved f fd) : FnOk P w K mg base CX0 1 f fd [] sp_res := by
  refine F.ok sc__law_reserved (fun vs H Q E h => ?_) (fun cdv A outer s H vs Q E hr h => ?_)
  · obtain ⟨rfl, _⟩ := h
    rfl
  · obtain ⟨rfl, q⟩ := h
    refine ⟨_, (pss_cons (ps_set (i := 0) sc__law_reserved.nd rfl (.inl rfl) (pe_lst (pa_cons pe_str (pa_cons pe_str (pa_cons pe_str (pa_cons pe_str (pa_cons pe_str (pa_cons pe_str (pa_cons pe_str (pa_cons pe_str (pa_cons pe_str (pa_cons pe_str (pa_cons pe_str (pa_cons pe_str (pa_cons pe_str (pa_cons pe_str pa_nil))))))))))))))))
      (pss_cons (ps_set (i := 0) sc__law_reserved.nd rfl (.inl rfl) (pe_op op_cat (pv 0) (pe_lst (pa_cons pe_str (pa_cons pe_str (pa_cons pe_str (pa_cons pe_str (pa_cons pe_str (pa_cons pe_str (pa_cons pe_str (pa_cons pe_str (pa_cons pe_str (pa_cons pe_str (pa_cons pe_str pa_nil))))))))))))))
      (pss_one (ps_ret (pe_op op_cat (pv 0) (pe_lst (pa_cons pe_str (pa_cons pe_str (pa_cons pe_str (pa_cons pe_str (pa_cons pe_str (pa_cons pe_str (pa_cons pe_str (pa_cons pe_str (pa_cons pe_str (pa_cons pe_str (pa_cons pe_str (pa_cons pe_str pa_nil)))))))))))))))))), ?_⟩
    refine ⟨by show 14 ≤ sizeLine; decide, fun p1 n1 => ?_⟩
    have s1 := same_upd n1 (o := .lst ((RES.take 14).map V.str))
    have e1 : (upd H p1 (.lst ((RES.take 14).map V.str))) p1 = some (.lst ((RES.take 14).map V.str)) := upd_same
    refine ⟨_, rfl, by show 11 ≤ sizeLine; decide, fun p2 n2 => ?_⟩
    have s2 := same_upd n2 (o := .lst (((RES.drop 14).take 11).map V.str))
    refine ⟨p1, p2, _, _, rfl, rfl, s2 _ _ e1, upd_same, by show 14 + 11 ≤ sizeLine; decide, fun p3 n3 => ?_⟩
    have s3 := same_upd n3 (o := .lst ((RES.take 25).map V.str))
    refine ⟨_, rfl, by show 12 ≤ sizeLine; decide, fun p4 n4 => ?_⟩
    have s4 := same_upd n4 (o := .lst ((RES.drop 25).map V.str))
    refine ⟨p3, p4, _, _, rfl, rfl, s4 _ _ upd_same, upd_same, by show 25 + 12 ≤ sizeLine; decide, fun p5 n5 => ?_⟩
    have s5 := same_upd n5 (o := .lst (RES.map V.str))
    have sa := ((s1.trans s2).trans s3).trans s4
    exact q _ p5 (sa.trans s5) (sa.free n5) upd_same
theorem ok_name {f : Addr} {fd : FuncData} (F : Fun K "_law_name" "_law_name" s__law_name f fd) (M : Mg mg) (c__law_next : Cl P w K mg base 1 "_law_next" sp_next) (c__law_reserved : Cl P w K mg base 1 "_law_reserved" sp_res) : FnOk P w K mg base CX0 2 f fd ["draw"] sp_name := by
  refine F.ok sc__law_name (fun vs H Q E h => ?_) (fun cdv A outer s H vs Q E hr h => ?_)
  · obtain ⟨d, c, rfl, _⟩ := h
    rfl
  · obtain ⟨d, c, rfl, dr, q⟩ := h
    obtain ⟨t, ht, hq⟩ : ∃ t, PSs (cxOf CX0 P w K mg base N__law_name "_law_name" (defScope s__law_name) f cdv A outer s H E).nox ((defBody s__law_name).drop 3) t ∧ ∀ (H1 : Hp) (size : Int), Fd d H H1 → Dr H1 d c → 0 ≤ size → size ≤ 19 → t { nx := fun _ H' => Q .non H', rt := Q } [some (.ref d), some (.str "abcdefghijklmnopqrstuvwxyzABCDEFGHIJKLMNOPQRSTUVWXYZ_"), some (.int size), none, none] H1 := by
      refine ⟨_, (pss_cons (ps_set (i := 3) sc__law_name.nd rfl (.inl rfl) (pe_ix ix_str (pv 1) (pe_u c__law_next hr (by first | decide | omega) (by rfl) (pa_cons (pv 0) (pa_cons pe_int pa_nil))) (fun _ _ => rfl)))
      (pss_cons (ps_for PassesOwn.never rfl (pi_range1 (by rfl) M.range (pa_cons (pv 2) pa_nil)) (pg_name (i := 4) sc__law_name.nd rfl (.inl rfl)) (pss_one (ps_set (i := 3) sc__law_name.nd rfl (.inl rfl) (pe_op op_add_str (pv 3) (pe_ix ix_str (pe_op op_add_str (pv 1) pe_str) (pe_u c__law_next hr (by first | decide | omega) (by rfl) (pa_cons (pv 0) (pa_cons pe_int pa_nil))) (fun _ _ => rfl))))))
      (pss_cons (ps_if (pt_cmpR (inK K) (pv 3) (pe_u0 c__law_reserved hr (by first | decide | omega) (by rfl)) (by rfl)) (pss_one (ps_ret (pe_op op_add_str (pv 3) pe_str))) pss_nil)
      (pss_one (ps_ret (pv 3)))))), fun H1 size f1 dr1 z0 z1 => ?_⟩
      refine ⟨_, rfl, _, rfl, d, c, 53, rfl, dr1, by decide, by decide, fun H2 r f2 _ dr2 r0 r1 => ?_⟩
      obtain ⟨k, rfl⟩ := Int.eq_ofNat_of_zero_le r0
      have hk : k < LAWL.length := by rw [LAWL_len]; omega
      rw [LAWL_S]
      refine ⟨_, _, LAWL[k], rfl, rfl, by rw [S_len', LAWL_len]; decide, atI_nat (show LAWL[k]? = _ from List.getElem?_eq_getElem hk), ?_⟩
      -- one sign more, size times
      refine ⟨_, rfl, _, rfl, by omega, by omega, ?_⟩
      refine for_range (lo := 0) (n := size.toNat) (fun i σ Hi => Fd d H Hi ∧ Dr Hi d c ∧ ∃ (r : List Nat) (z : Option V), σ = [some (.ref d), some (.str ⟨LAWL.toArray⟩), some (.int size), some (.str ⟨(LAWL[k] :: r).toArray⟩), z] ∧ r.length = i ∧ ∀ x ∈ r, x ∈ LET ++ DIG) ⟨f1.trans f2, dr2, [], none, rfl, rfl, fun _ h => by cases h⟩ (fun i σ Hi hi hp => ?_) (fun σ Hn hp => ?_)
      · obtain ⟨fi, di, r, z, rfl, hr1, hr2⟩ := hp
        refine ⟨_, rfl, _, rfl, _, _, rfl, rfl, by rw [S_len', LAWL_len]; decide, ?_⟩
        rw [DIG_S, show (⟨LAWL.toArray⟩ : Str) ++ ⟨DIG.toArray⟩ = ⟨(LAWL ++ DIG).toArray⟩ from SX.S_cat LAWL DIG]
        refine ⟨_, rfl, d, c, 63, rfl, di, by decide, by decide, fun H3 r3 f3 _ dr3 r30 r31 => ?_⟩
        obtain ⟨k3, rfl⟩ := Int.eq_ofNat_of_zero_le r30
        have hk3 : k3 < (LAWL ++ DIG).length := by rw [List.length_append, LAWL_len, DIG_len]; omega
        refine ⟨_, _, (LAWL ++ DIG)[k3], rfl, rfl, by rw [S_len', List.length_append, LAWL_len, DIG_len]; decide, atI_nat (show (LAWL ++ DIG)[k3]? = _ from List.getElem?_eq_getElem hk3), ?_⟩
        refine ⟨_, _, rfl, rfl, ?_, ?_⟩
        · rw [S_len', List.length_cons, hr1]
          exact Nat.le_trans (m := 100) (by show i + 1 + 1 ≤ 100; omega) (by decide)
        · rw [show (⟨(LAWL[k] :: r).toArray⟩ : Str) ++ ⟨#[(LAWL ++ DIG)[k3]]⟩ = ⟨((LAWL[k] :: r) ++ [(LAWL ++ DIG)[k3]]).toArray⟩ from SX.S_cat _ _]
          refine ⟨fi.trans f3, dr3, r ++ [(LAWL ++ DIG)[k3]], _, rfl, by rw [List.length_append, hr1]; rfl, fun x hx => ?_⟩
          rcases List.mem_append.mp hx with hx | hx
          · exact hr2 x hx
          · rw [List.mem_singleton.mp hx]
            rcases List.mem_append.mp (List.getElem_mem hk3) with h | h
            · exact List.mem_append_left _ (LAWL_in _ h)
            · exact List.mem_append_right _ h
      · obtain ⟨fi, di, r, z, rfl, hr1, hr2⟩ := hp
        have hc : LAWL[k] ∈ LET := LAWL_in _ (List.getElem_mem hk)
        refine ⟨_, rfl, rfl, fun H3 p s3 np e3 => ?_⟩
        have di3 := di.ext s3
        have f3 : Fd d H H3 := fi.trans (Fd.of s3)
        refine ⟨p, _, rfl, .inl (.of e3), rfl, res_flat, _, rfl, ite2 (fun e => ?_) (fun e => ?_)⟩
        · have hl := res_in e
          refine ⟨_, rfl, _, _, rfl, rfl, by rw [S_len']; exact Nat.le_trans (m := 100) (by show _ + 1 ≤ 100; omega) (by decide), ?_⟩
          rw [show (⟨(LAWL[k] :: r).toArray⟩ : Str) ++ Str.ofString "_" = ⟨((LAWL[k] :: r) ++ [95]).toArray⟩ from SX.S_cat _ _]
          refine q H3 _ f3 di3 ⟨LAWL[k], r ++ [95], rfl, hc, fun x hx => ?_, ?_⟩
          · rcases List.mem_append.mp hx with hx | hx
            · exact hr2 x hx
            · rw [List.mem_singleton.mp hx]
              decide +kernel
          · rw [List.length_append, List.length_singleton]
            omega
        · exact ⟨_, rfl, q H3 _ f3 di3 ⟨LAWL[k], r, rfl, hc, hr2, by rw [List.length_cons, hr1]; omega⟩⟩
    refine ⟨_, (pss_cons (ps_set (i := 1) sc__law_name.nd rfl (.inl rfl) pe_str)
      (pss_cons (ps_set (i := 2) sc__law_name.nd rfl (.inl rfl) (pe_u c__law_next hr (by first | decide | omega) (by rfl) (pa_cons (pv 0) (pa_cons pe_int pa_nil))))
      (pss_cons (ps_if (pt_cmpR op_eq (pe_u c__law_next hr (by first | decide | omega) (by rfl) (pa_cons (pv 0) (pa_cons pe_int pa_nil))) pe_int (nomark _)) (pss_one (ps_set (i := 2) sc__law_name.nd rfl (.inl rfl) pe_int)) pss_nil)
      ht))), ?_⟩
    refine ⟨_, rfl, d, c, 4, rfl, dr, by decide, by decide, fun H2 r f2 _ dr2 r0 r1 => ?_⟩
    refine ⟨_, rfl, d, c, 9, rfl, dr2, by decide, by decide, fun H3 r5 f3 _ dr3 _ _ => ⟨rfl, _, rfl, ite2 (fun e => ?_) (fun e => ?_)⟩⟩
    · exact hq H3 19 (f2.trans f3) dr3 (by decide) (by decide)
    · exact hq H3 r (f2.trans f3) dr3 r0 (by omega)
end
def CHS : List Nat := (Str.ofString "'abcdefghijklmnopqrstuvwxyz ABCDEFGHIJKLMNOPQRSTUVWXYZ0123456789!\"#$&()*+,-./:;<=>?@\x5b\\]^_`{|}~\t").cps.toList
theorem CHS_S : Str.ofString "'abcdefghijklmnopqrstuvwxyz ABCDEFGHIJKLMNOPQRSTUVWXYZ0123456789!\"#$&()*+,-./:;<=>?@\x5b\\]^_`{|}~\t" = ⟨CHS.toArray⟩ := (SX.S_tl _).symm
theorem CHS_len : CHS.length = 95 := by decide +kernel
theorem CHS_nl : ∀ c ∈ CHS, c ≠ 10 := by decide +kernel
theorem sum_one : ∀ l : List Nat, ((l.map fun x => (⟨#[x]⟩ : Str)).map (·.length)).sum = l.length
  | [] => rfl
  | x :: l => by
    rw [List.map_cons, List.map_cons, List.sum_cons, sum_one l, List.length_cons]
    show 1 + l.length = _
    omega
theorem flat_one : ∀ l : List Nat, ((l.map fun x => (⟨#[x]⟩ : Str)).map TL.tl).flatten = l
  | [] => rfl
  | x :: l => by
    rw [List.map_cons, List.map_cons, List.flatten_cons, flat_one l]
    rfl
section
variable {P : Program} {w : World} {K : PySem.W.Frag} {mg : Str → Option Value} {base : Heap}
theorem ok_string {f : Addr} {fd : FuncData} (F : Fun K "_law_string" "_law_string" s__law_string f fd) (M : Mg mg) (c__law_next : Cl P w K mg base 1 "_law_next" sp_next) : FnOk P w K mg base CX0 2 f fd ["draw"] (sp_string CHS) := by
  refine F.ok sc__law_string (fun vs H Q E h => ?_) (fun cdv A outer s H vs Q E hr h => ?_)
  · obtain ⟨d, c, rfl, _⟩ := h
    rfl
  · obtain ⟨d, c, rfl, dr, q⟩ := h
    obtain ⟨t, ht, hq⟩ : ∃ t, PSs (cxOf CX0 P w K mg base N__law_string "_law_string" (defScope s__law_string) f cdv A outer s H E).nox ((defBody s__law_string).drop 3) t ∧ ∀ (H1 : Hp) (size : Int), Fd d H H1 → Dr H1 d c → 0 ≤ size → size ≤ 100 → t { nx := fun _ H' => Q .non H', rt := Q } [some (.ref d), some (.str ⟨CHS.toArray⟩), some (.int size), none] H1 := by
      refine ⟨_, (pss_one (ps_ret (pe_join pe_str (pe_lc (own := [("k", 3)]) (g := gName 3) (tt := tYes) rfl sc__law_string.nd (pi_range1 (by rfl) M.range (pa_cons (pv 2) pa_nil)) (blkOk_by (N := N__law_string) (sc := defScope s__law_string) (by decide +kernel)) (fun _ _ _ _ _ => (pg_name (i := 3) sc__law_string.nd rfl (.inl rfl))) (fun _ _ _ _ _ => pts_nil) (fun _ _ _ _ _ => (pe_ix ix_str (pv 1) (pe_u c__law_next hr (by first | decide | omega) (by rfl) (pa_cons (pv 0) (pa_cons (pe_callB call_len_str (by rfl) M.len PySem.boot_len (pa_cons (pv 1) pa_nil)) pa_nil))) (fun _ _ => rfl))))))), fun H1 size f1 dr1 z0 z1 => ?_⟩
      refine ⟨⟨_, rfl⟩, _, rfl, _, rfl, by omega, by omega, fun D nD => ?_⟩
      refine lc_range (lo := 0) (n := size.toNat) (fun i Hi => D ≠ d ∧ D ≠ c ∧ Fd d H1 Hi ∧ Dr Hi d c ∧ ∃ l : List Nat, l.length = i ∧ (∀ x ∈ l, x ∈ CHS) ∧ Hi D = some (.lst ((l.map fun x => (⟨#[x]⟩ : Str)).map V.str))) ⟨dr1.nd nD, dr1.nc nD, Fd.new nD, dr1.ext (same_upd nD), [], rfl, (fun _ h => by cases h), upd_same⟩ (fun i Hi hi hp => ?_) (fun Hn hp => ?_)
      · obtain ⟨nDd, nDc, fi, di, l, hl, hx, eD⟩ := hp
        refine ⟨rfl, ?_⟩
        refine ⟨_, rfl, _, rfl, _, rfl, _, rfl, by rw [S_len', CHS_len]; decide, ?_⟩
        rw [S_len']
        refine ⟨d, c, _, rfl, di, by rw [CHS_len]; decide, by rw [CHS_len]; decide, fun H' r f' _ dr' r0 r1 => ?_⟩
        obtain ⟨k, rfl⟩ := Int.eq_ofNat_of_zero_le r0
        have hk : k < CHS.length := by omega
        have eD' := f' _ _ nDd eD
        refine ⟨_, _, CHS[k], rfl, rfl, by rw [S_len', CHS_len]; decide, atI_nat (show CHS[k]? = _ from List.getElem?_eq_getElem hk), _, eD', ?_, nDd, nDc, ?_, dr'.upd nDd nDc, l ++ [CHS[k]], ?_, ?_, ?_⟩
        · rw [List.length_map, List.length_map, hl]
          exact Nat.lt_of_lt_of_le (m := 1000) (by omega) (by decide)
        · intro b o nb e
          have nbD : b ≠ D := ne_of_none e nD
          rw [upd_ne nbD]
          exact f' _ _ nb (fi _ _ nb e)
        · rw [List.length_append, hl]
          rfl
        · intro y hy
          rcases List.mem_append.mp hy with hy | hy
          · exact hx y hy
          · rw [List.mem_singleton.mp hy]
            exact List.getElem_mem hk
        · rw [upd_same, List.map_append, List.map_append]
          rfl
      · obtain ⟨nDd, nDc, fi, di, l, hl, hx, eD⟩ := hp
        have hz := sum_one l
        refine ⟨_, D, l.map fun x => (⟨#[x]⟩ : Str), rfl, rfl, .inl (.of eD), ?_, ?_⟩
        · rw [hz, List.length_map, hl]
          show size.toNat + size.toNat * 0 ≤ 16777216
          omega
        · rw [show Txt.join (Str.ofString "") (l.map fun x => (⟨#[x]⟩ : Str)) = ⟨(((l.map fun x => (⟨#[x]⟩ : Str)).map TL.tl).flatten).toArray⟩ from join0 _, flat_one]
          exact q Hn l (f1.trans fi) di (by omega) hx
    refine ⟨_, (pss_cons (ps_set (i := 1) sc__law_string.nd rfl (.inr rfl) pe_str)
      (pss_cons (ps_set (i := 2) sc__law_string.nd rfl (.inl rfl) (pe_u c__law_next hr (by first | decide | omega) (by rfl) (pa_cons (pv 0) (pa_cons pe_int pa_nil))))
      (pss_cons (ps_if (pt_cmpR op_eq (pe_u c__law_next hr (by first | decide | omega) (by rfl) (pa_cons (pv 0) (pa_cons pe_int pa_nil))) pe_int (nomark _)) (pss_one (ps_set (i := 2) sc__law_string.nd rfl (.inl rfl) (pe_op op_add pe_int (pv 2)))) pss_nil)
      ht))), ?_⟩
    rw [CHS_S]
    refine ⟨_, rfl, d, c, 5, rfl, dr, by decide, by decide, fun H2 r f2 _ dr2 r0 r1 => ?_⟩
    refine ⟨_, rfl, d, c, 11, rfl, dr2, by decide, by decide, fun H3 r5 f3 _ dr3 _ _ => ⟨rfl, _, rfl, ite2 (fun e => ?_) (fun e => ?_)⟩⟩
    · refine ⟨_, rfl, _, _, rfl, rfl, ?_⟩
      exact hq H3 (96 + r) (f2.trans f3) dr3 (by omega) (by omega)
    · exact hq H3 r (f2.trans f3) dr3 r0 (by omega)
theorem ok_quoted {f : Addr} {fd : FuncData} (F : Fun K "_law_quoted" "_law_quoted" s__law_quoted f fd) : FnOk P w K mg base CX0 1 f fd ["value"] sp_quoted := by
  refine F.ok sc__law_quoted (fun vs H Q E h => ?_) (fun cdv A outer s H vs Q E hr h => ?_)
  · obtain ⟨l, rfl, _⟩ := h
    rfl
  · obtain ⟨l, rfl, hl, q⟩ := h
    have hd := dbl_len l
    refine ⟨_, (pss_one (ps_ret (pe_op op_add_str (pe_opG op_add_str peg_str (pet_rpl (pv 0) (by decide))) pe_str))), ?_⟩
    refine ⟨_, rfl, ⟨l.toArray⟩, rfl, by rw [S_len']; show l.length + (l.length + 1) * 2 ≤ 16777216; omega, ?_⟩
    rw [show Txt.replace ⟨l.toArray⟩ (Str.ofString "'") (Str.ofString "''") = ⟨(dbl l).toArray⟩ by
      have := rpl_S l [39] [39, 39] (by decide) (by decide)
      rw [dbl_rpl l []] at this
      exact this]
    refine ⟨_, _, rfl, rfl, by show 1 + (⟨(dbl l).toArray⟩ : Str).length ≤ sizeLine; rw [S_len']; exact Nat.le_trans (m := 10000) (by omega) (by decide), ?_⟩
    rw [show Str.ofString "'" ++ (⟨(dbl l).toArray⟩ : Str) = ⟨(39 :: dbl l).toArray⟩ from SX.S_cat [39] (dbl l)]
    refine ⟨_, _, rfl, rfl, by rw [S_len', List.length_cons]; exact Nat.le_trans (m := 10000) (by show _ + 1 ≤ 10000; omega) (by decide), ?_⟩
    rw [show (⟨(39 :: dbl l).toArray⟩ : Str) ++ Str.ofString "'" = ⟨(39 :: (dbl l ++ [39])).toArray⟩ from SX.S_cat (39 :: dbl l) [39]]
    exact q
theorem ok_number {f : Addr} {fd : FuncData} (F : Fun K "_law_number" "_law_number" s__law_number f fd) (M : Mg mg) (c__law_next : Cl P w K mg base 1 "_law_next" sp_next) : FnOk P w K mg base CX0 2 f fd ["draw"] sp_number := by
  refine F.ok sc__law_number (fun vs H Q E h => ?_) (fun cdv A outer s H vs Q E hr h => ?_)
  · obtain ⟨d, c, rfl, _⟩ := h
    rfl
  · obtain ⟨d, c, rfl, dr, q⟩ := h
    have fin : ∀ (H1 : Hp) (n : Int), Fd d H H1 → Dr H1 d c → Q (.int (n % 10 ^ 15)) H1 := fun H1 n f1 d1 => by
      have h0 : 0 ≤ n % 10 ^ 15 := Int.emod_nonneg _ (by decide)
      have h1 : n % 10 ^ 15 < 10 ^ 15 := Int.emod_lt_of_pos _ (by decide)
      obtain ⟨k, hk⟩ := Int.eq_ofNat_of_zero_le h0
      rw [hk]
      exact q H1 k f1 d1 (by omega)
    refine ⟨_, (pss_cons (ps_set (i := 1) sc__law_number.nd rfl (.inl rfl) (pe_u c__law_next hr (by first | decide | omega) (by rfl) (pa_cons (pv 0) (pa_cons pe_int pa_nil))))
      (pss_cons (ps_if (pt_cmpR op_eq (pe_u c__law_next hr (by first | decide | omega) (by rfl) (pa_cons (pv 0) (pa_cons pe_int pa_nil))) pe_int (nomark _)) (pss_one (ps_for PassesOwn.never rfl (pi_range1 (by rfl) M.range (pa_cons pe_int pa_nil)) (pg_name (i := 2) sc__law_number.nd rfl (.inl rfl)) (pss_one (ps_set (i := 1) sc__law_number.nd rfl (.inl rfl) (pe_op op_add (pe_op op_mul (pv 1) pe_int) (pe_u c__law_next hr (by first | decide | omega) (by rfl) (pa_cons (pv 0) (pa_cons pe_int pa_nil)))))))) pss_nil)
      (pss_one (ps_ret (pe_op op_mod (pv 1) (pe_op op_pow pe_int pe_int)))))), ?_⟩
    refine ⟨_, rfl, d, c, 12, rfl, dr, by decide, by decide, fun H2 r f2 _ dr2 r0 r1 => ?_⟩
    refine ⟨_, rfl, d, c, 6, rfl, dr2, by decide, by decide, fun H3 r5 f3 _ dr3 _ _ => ⟨rfl, _, rfl, ite2 (fun e => ?_) (fun e => ?_)⟩⟩
    · refine ⟨_, rfl, by decide, by decide, ?_⟩
      refine for_range (lo := 0) (n := (14 : Int).toNat) (fun i σ Hi => Fd d H Hi ∧ Dr Hi d c ∧ ∃ (n : Int) (z : Option V), σ = [some (.ref d), some (.int n), z]) ⟨f2.trans f3, dr3, r, none, rfl⟩ (fun i σ Hi hi hp => ?_) (fun σ Hn hp => ?_)
      · obtain ⟨fi, di, n, z, rfl⟩ := hp
        refine ⟨_, rfl, _, _, rfl, rfl, .inr ⟨by decide, by decide⟩, ?_⟩
        refine ⟨_, rfl, d, c, 10, rfl, di, by decide, by decide, fun H4 r4 f4 _ dr4 _ _ => ?_⟩
        exact ⟨_, _, rfl, rfl, fi.trans f4, dr4, _, _, rfl⟩
      · obtain ⟨fi, di, n, z, rfl⟩ := hp
        refine ⟨_, rfl, _, _, rfl, rfl, ⟨by decide, by decide, by decide⟩, _, _, rfl, rfl, by show (0 : Int) < 10 ^ (15 : Int).toNat; decide, ?_⟩
        exact fin Hn n fi di
    · refine ⟨_, rfl, _, _, rfl, rfl, ⟨by decide, by decide, by decide⟩, _, _, rfl, rfl, by show (0 : Int) < 10 ^ (15 : Int).toNat; decide, ?_⟩
      exact fin H3 r (f2.trans f3) dr3
end
/-! ### a written token, a gap behind it -/
def GapHd (g : List Nat) : Prop := ∃ c r, g = c :: r ∧ c ∉ LET ++ DIG ∧ c ≠ 39 ∧ c ≠ 61
/-- written so, whatever gap is behind it -/
def TokOk (kv : Kv) (wr : List Nat) : Prop := (∃ c r, wr = c :: r ∧ isBl c = false ∧ c ≠ 35) ∧ wr.length ≤ 210 ∧ ∀ g, GapHd g → tok (wr ++ g) = some (kv, g)
theorem run_app (m wr g : List Nat) (h : ∀ x ∈ wr, x ∈ m) (hg : ∃ c r, g = c :: r ∧ c ∉ m) : runOf m (wr ++ g) = wr := by
  obtain ⟨c, r, rfl, hc⟩ := hg
  induction wr with
  | nil =>
    unfold runOf
    rw [List.nil_append, List.takeWhile_cons_of_neg (by simpa using hc)]
  | cons x wr ih =>
    have ih := ih fun y hy => h y (List.mem_cons_of_mem _ hy)
    unfold runOf at ih ⊢
    rw [List.cons_append, List.takeWhile_cons_of_pos (by simpa using h x (List.mem_cons_self ..)), ih]
theorem LET_bl : ∀ c ∈ LET, isBl c = false ∧ c ≠ 35 := by decide +kernel
theorem DIG_bl : ∀ c ∈ DIG, isBl c = false ∧ c ≠ 35 := by decide +kernel
theorem DIG_LET : ∀ c ∈ DIG, c ∉ LET := by decide +kernel
theorem tok_name {l : List Nat} (h : NameOk l) : TokOk (.word l) l := by
  obtain ⟨c, r, rfl, hc, hr, hl⟩ := h
  refine ⟨⟨c, r, rfl, LET_bl c hc⟩, by omega, fun g hg => ?_⟩
  obtain ⟨x, y, rfl, hx, _, _⟩ := hg
  have e : runOf (LET ++ DIG) ((c :: r) ++ x :: y) = c :: r := run_app _ _ _ (fun z hz => by
    rcases List.mem_cons.mp hz with rfl | hz
    · exact List.mem_append_left _ hc
    · exact hr z hz) ⟨x, y, rfl, hx⟩
  show tokC c (r ++ x :: y) = _
  unfold tokC
  rw [← List.cons_append, e, if_pos hc, if_pos hl, List.drop_left]
theorem tok_num {l : List Nat} {n : Nat} (h0 : l ≠ []) (h : ∀ x ∈ l, x ∈ DIG) (hl : l.length ≤ 15) (hn : NumText.digitsVal l = n) : TokOk (.num n) l := by
  obtain ⟨c, r, rfl⟩ : ∃ c r, l = c :: r := by
    cases l with
    | nil => exact absurd rfl h0
    | cons c r => exact ⟨c, r, rfl⟩
  have hc := h c (List.mem_cons_self ..)
  refine ⟨⟨c, r, rfl, DIG_bl c hc⟩, by omega, fun g hg => ?_⟩
  obtain ⟨x, y, rfl, hx, _, _⟩ := hg
  have e : runOf DIG ((c :: r) ++ x :: y) = c :: r := run_app _ _ _ h ⟨x, y, rfl, fun z => hx (List.mem_append_right _ z)⟩
  show tokC c (r ++ x :: y) = _
  unfold tokC
  rw [← List.cons_append, e, if_neg (DIG_LET c hc), if_pos hc, if_pos hl, List.drop_left, hn]
theorem te_app : ∀ (v g : List Nat), (∀ x ∈ v, x ≠ 10) → (∃ c r, g = c :: r ∧ c ≠ 39) → te (dbl v ++ (39 :: g)) = some g
  | [], g, _, hg => by
    obtain ⟨c, r, rfl, hc⟩ := hg
    show te (39 :: c :: r) = _
    unfold te
    rw [if_neg (by decide), if_pos rfl]
    split
    · rename_i heq
      exact absurd (List.cons.inj heq).1 hc
    · rfl
  | x :: v, g, h, hg => by
    have ih := te_app v g (fun y hy => h y (List.mem_cons_of_mem _ hy)) hg
    have hx := h x (List.mem_cons_self ..)
    unfold dbl
    by_cases h39 : x = 39
    · rw [if_pos h39]
      show te (39 :: 39 :: (dbl v ++ 39 :: g)) = _
      unfold te
      rw [if_neg (by decide), if_pos rfl]
      exact ih
    · rw [if_neg h39]
      show te (x :: (dbl v ++ 39 :: g)) = _
      unfold te
      rw [if_neg hx, if_neg h39]
      exact ih
theorem tok_text {v : List Nat} (h : ∀ x ∈ v, x ∈ CHS) (hl : v.length ≤ 100) : TokOk (.text v) (39 :: (dbl v ++ [39])) := by
  have hd := dbl_len v
  refine ⟨⟨39, _, rfl, rfl, by decide⟩, by simp only [List.length_cons, List.length_append, List.length_nil]; omega, fun g hg => ?_⟩
  obtain ⟨x, y, rfl, hx, hx39, _⟩ := hg
  have et : te (dbl v ++ (39 :: x :: y)) = some (x :: y) := te_app v (x :: y) (fun z hz => CHS_nl z (h z hz)) ⟨x, y, rfl, hx39⟩
  have e0 : 39 :: (dbl v ++ [39]) ++ (x :: y) = 39 :: (dbl v ++ (39 :: x :: y)) := by simp
  rw [e0]
  show tokC 39 (dbl v ++ (39 :: x :: y)) = _
  unfold tokC
  rw [if_neg (by decide +kernel), if_neg (by decide +kernel), if_pos rfl, et]
  have er : (dbl v ++ (39 :: x :: y)).take ((dbl v ++ (39 :: x :: y)).length - (x :: y).length - 1) = dbl v := by
    have : (dbl v ++ (39 :: x :: y)).length - (x :: y).length - 1 = (dbl v).length := by
      simp only [List.length_append, List.length_cons]
      omega
    rw [this, List.take_left]
  dsimp only
  rw [er, und_dbl', if_pos hl]
theorem tok_sign {g : List Nat} (h : g ∈ SGN) : TokOk (.sign g) g := by
  have hh : (∃ c r, g = c :: r ∧ isBl c = false ∧ c ≠ 35 ∧ c ∉ LET ∧ c ∉ DIG ∧ c ≠ 39) ∧ g.length ≤ 2 := by
    revert g
    have : ∀ g ∈ SGN, (match g with | [] => false | c :: r => !isBl c && decide (c ≠ 35) && decide (c ∉ LET) && decide (c ∉ DIG) && decide (c ≠ 39)) = true ∧ g.length ≤ 2 := by decide +kernel
    intro g hg
    obtain ⟨h1, h2⟩ := this g hg
    cases g with
    | nil => cases h1
    | cons c r =>
      simp only [Bool.and_eq_true, Bool.not_eq_true', decide_eq_true_eq] at h1
      exact ⟨⟨c, r, rfl, h1.1.1.1.1, h1.1.1.1.2, h1.1.1.2, h1.1.2, h1.2⟩, h2⟩
  obtain ⟨⟨c, r, rfl, b1, b2, b3, b4, b5⟩, hl⟩ := hh
  refine ⟨⟨c, r, rfl, b1, b2⟩, by omega, fun k hk => ?_⟩
  obtain ⟨x, y, rfl, _, _, hx⟩ := hk
  show tokC c (r ++ x :: y) = _
  unfold tokC
  rw [if_neg b3, if_neg b4, if_neg b5, ← List.cons_append]
  have hx' : (61 == x) = false := by simpa using fun z : 61 = x => hx z.symm
  have e : SGN.find? (fun g => g.isPrefixOf ((c :: r) ++ x :: y)) = some (c :: r) := by
    generalize hg : c :: r = g at h
    clear hg b1 b2 b3 b4 b5 hl
    simp only [SGN, List.mem_cons, List.not_mem_nil, or_false] at h
    rcases h with rfl | rfl | rfl | rfl | rfl | rfl | rfl | rfl | rfl | rfl | rfl | rfl | rfl | rfl <;> simp [SGN, List.isPrefixOf, hx']
  rw [e]
  dsimp only
  rw [List.drop_left]
theorem res_name : ∀ x ∈ RES, NameOk x.cps.toList := by
  have : ∀ x ∈ RES, (match x.cps.toList with | [] => false | c :: r => decide (c ∈ LET) && r.all (fun y => decide (y ∈ LET ++ DIG)) && decide ((c :: r).length ≤ 20)) = true := by decide +kernel
  intro x hx
  have h := this x hx
  cases e : x.cps.toList with
  | nil => rw [e] at h; cases h
  | cons c r =>
    rw [e] at h
    simp only [Bool.and_eq_true, decide_eq_true_eq, List.all_eq_true] at h
    exact ⟨c, r, rfl, h.1.1, h.1.2, h.2⟩
theorem num_dig (n : Nat) : ∀ x ∈ TL.numL n, x ∈ DIG := fun x hx => by
  have h := TL.numL_digits n x hx
  have : ∀ k, k < 10 → (48 + k) ∈ DIG := by decide +kernel
  have h2 := this (x - 48) (by omega)
  rwa [show 48 + (x - 48) = x by omega] at h2
def valV : Kv → V
  | .word l => .str ⟨l.toArray⟩
  | .num n => .int n
  | .text l => .str ⟨l.toArray⟩
  | .sign l => .str ⟨l.toArray⟩
theorem val_dp {K : PySem.W.Frag} {H : Hp} (kv : Kv) : Dp K H (valV kv) kv.val := by
  cases kv with
  | word l => exact .str _
  | num n => exact .int _
  | text l => exact .str _
  | sign l => exact .str _
def sp_ltok : Sp := fun vs H Q _ => ∃ (d c : Addr), vs = [.ref d] ∧ Dr H d c ∧ ∀ H' p (kv : Kv) (wr : List Nat), Fd d H H' → Dr H' d c → TokOk kv wr → H' p = some (.tup [.str kv.kd, valV kv, .str ⟨wr.toArray⟩]) → Q (.ref p) H'
section
variable {P : Program} {w : World} {K : PySem.W.Frag} {mg : Str → Option Value} {base : Heap}
theorem ok_ltok {f : Addr} {fd : FuncData} (F : Fun K "_law_token" "_law_token" s__law_token f fd) (M : Mg mg) (c__law_next : Cl P w K mg base 1 "_law_next" sp_next) (c__law_reserved : Cl P w K mg base 1 "_law_reserved" sp_res) (c__law_name : Cl P w K mg base 2 "_law_name" sp_name) (c__law_number : Cl P w K mg base 2 "_law_number" sp_number) (c__law_string : Cl P w K mg base 2 "_law_string" (sp_string CHS)) (c__law_quoted : Cl P w K mg base 1 "_law_quoted" sp_quoted) : FnOk P w K mg base CX0 3 f fd ["draw"] sp_ltok := by
  refine F.ok sc__law_token (fun vs H Q E h => ?_) (fun cdv A outer s H vs Q E hr h => ?_)
  · obtain ⟨d, c, rfl, _⟩ := h
    rfl
  · obtain ⟨d, c, rfl, dr, q⟩ := h
    have fin : ∀ (H1 : Hp) (p : Addr) (kv : Kv) (wr : List Nat), Fd d H H1 → Dr H1 d c → TokOk kv wr → H1 p = none → Q (.ref p) (upd H1 p (.tup [.str kv.kd, valV kv, .str ⟨wr.toArray⟩])) := fun H1 p kv wr f1 d1 ok np =>
      q _ p kv wr (f1.trans (Fd.new np)) (d1.ext (same_upd np)) ok upd_same
    refine ⟨_, (pss_cons (ps_set (i := 1) sc__law_token.nd rfl (.inl rfl) (pe_u c__law_next hr (by first | decide | omega) (by rfl) (pa_cons (pv 0) (pa_cons pe_int pa_nil))))
      (pss_cons (ps_if (pt_cmpR op_eq (pv 1) pe_int (nomark _)) (pss_cons (ps_set (i := 2) sc__law_token.nd rfl (.inl rfl) (pe_u c__law_name hr (by first | decide | omega) (by rfl) (pa_cons (pv 0) pa_nil)))
      (pss_one (ps_ret (pe_tup (pa_cons pe_str (pa_cons (pv 2) (pa_cons (pv 2) pa_nil))))))) pss_nil)
      (pss_cons (ps_if (pt_cmpR op_eq (pv 1) pe_int (nomark _)) (pss_cons (ps_set (i := 2) sc__law_token.nd rfl (.inl rfl) (pe_ix (ix_listK K) (pe_u0 c__law_reserved hr (by first | decide | omega) (by rfl)) (pe_u c__law_next hr (by first | decide | omega) (by rfl) (pa_cons (pv 0) (pa_cons pe_int pa_nil))) (fun _ _ => rfl)))
      (pss_one (ps_ret (pe_tup (pa_cons pe_str (pa_cons (pv 2) (pa_cons (pv 2) pa_nil))))))) pss_nil)
      (pss_cons (ps_if (pt_cmpR op_eq (pv 1) pe_int (nomark _)) (pss_cons (ps_set (i := 3) sc__law_token.nd rfl (.inl rfl) (pe_u c__law_number hr (by first | decide | omega) (by rfl) (pa_cons (pv 0) pa_nil)))
      (pss_cons (ps_set (i := 4) sc__law_token.nd rfl (.inl rfl) (pe_callTy call_str_int (by rfl) M.str (by decide +kernel) (pa_cons (pv 3) pa_nil)))
      (pss_cons (ps_if (PW.pt (pw_and (pt_cmpR op_lt (pe_callB call_len_str (by rfl) M.len PySem.boot_len (pa_cons (pv 4) pa_nil)) pe_int (nomark _)) (pw_and1 (pt_cmpR op_eq (pe_u c__law_next hr (by first | decide | omega) (by rfl) (pa_cons (pv 0) (pa_cons pe_int pa_nil))) pe_int (nomark _))))) (pss_one (ps_set (i := 4) sc__law_token.nd rfl (.inl rfl) (pe_op op_add_str pe_str (pv 4)))) pss_nil)
      (pss_one (ps_ret (pe_tup (pa_cons pe_str (pa_cons (pv 3) (pa_cons (pv 4) pa_nil))))))))) pss_nil)
      (pss_cons (ps_if (pt_cmpR op_eq (pv 1) pe_int (nomark _)) (pss_cons (ps_set (i := 5) sc__law_token.nd rfl (.inl rfl) (pe_u c__law_string hr (by first | decide | omega) (by rfl) (pa_cons (pv 0) pa_nil)))
      (pss_one (ps_ret (pe_tup (pa_cons pe_str (pa_cons (pv 5) (pa_cons (pe_u c__law_quoted hr (by first | decide | omega) (by rfl) (pa_cons (pv 5) pa_nil)) pa_nil))))))) pss_nil)
      (pss_cons (ps_set (i := 6) sc__law_token.nd rfl (.inl rfl) (pe_lst (pa_cons pe_str (pa_cons pe_str (pa_cons pe_str (pa_cons pe_str (pa_cons pe_str (pa_cons pe_str (pa_cons pe_str (pa_cons pe_str (pa_cons pe_str (pa_cons pe_str (pa_cons pe_str (pa_cons pe_str (pa_cons pe_str (pa_cons pe_str pa_nil))))))))))))))))
      (pss_cons (ps_set (i := 7) sc__law_token.nd rfl (.inl rfl) (pe_ix (ix_listK K) (pv 6) (pe_u c__law_next hr (by first | decide | omega) (by rfl) (pa_cons (pv 0) (pa_cons pe_int pa_nil))) (fun _ _ => rfl)))
      (pss_one (ps_ret (pe_tup (pa_cons pe_str (pa_cons (pv 7) (pa_cons (pv 7) pa_nil))))))))))))), ?_⟩
    refine ⟨_, rfl, d, c, 5, rfl, dr, by decide, by decide, fun H1 r f1 _ dr1 r0 r1 => ?_⟩
    refine ⟨_, rfl, rfl, _, rfl, ite2 (fun e => ?_) (fun e => ?_)⟩
    · -- a name
      refine ⟨_, rfl, d, c, rfl, dr1, fun H2 l f2 dr2 ok => ?_⟩
      exact ⟨_, rfl, _, rfl, by show 3 ≤ sizeLine; decide, fun p np => fin H2 p (.word l) l (f1.trans f2) dr2 (tok_name ok) np⟩
    refine ⟨_, rfl, rfl, _, rfl, ite2 (fun e2 => ?_) (fun e2 => ?_)⟩
    · -- a reserved word
      refine ⟨rfl, fun H2 p s2 np2 e3 => ?_⟩
      have dr2 := dr1.ext s2
      refine ⟨_, rfl, d, c, 37, rfl, dr2, by decide, by decide, fun H3 k f3 _ dr3 k0 k1 => ?_⟩
      obtain ⟨j, rfl⟩ := Int.eq_ofNat_of_zero_le k0
      have hj : j < RES.length := by show j < 37; omega
      have hpd : p ≠ d := dr1.nd np2
      refine ⟨p, _, _, .str RES[j], rfl, rfl, .of (f3 _ _ hpd e3), atI_nat (by rw [List.getElem?_map, List.getElem?_eq_getElem hj]; rfl), ?_⟩
      rw [show RES[j] = ⟨(RES[j].cps.toList).toArray⟩ from (SX.S_tl _).symm]
      exact ⟨_, rfl, _, rfl, by show 3 ≤ sizeLine; decide, fun p np => fin H3 p (.word _) _ ((f1.trans (Fd.of s2)).trans f3) dr3 (tok_name (res_name _ (List.getElem_mem hj))) np⟩
    refine ⟨_, rfl, rfl, _, rfl, ite2 (fun e3 => ?_) (fun e3 => ?_)⟩
    · -- a number
      refine ⟨_, rfl, d, c, rfl, dr1, fun H2 n f2 dr2 hn => ?_⟩
      have nl : (TL.numL n).length ≤ 15 := TL.numL_len (by decide) hn
      refine ⟨_, rfl, _, rfl, ?_, ?_⟩
      · show n.log2 < 1920
        refine Nat.lt_of_lt_of_le (m := 64) ?_ (by decide)
        by_cases hz : n = 0
        · subst hz; decide
        · rw [Nat.log2_lt hz]
          exact Nat.lt_trans hn (by decide)
      rw [SX.num_S n]
      refine ⟨_, rfl, _, rfl, by rw [SX.S_len]; exact Nat.le_trans nl (by decide), _, _, rfl, rfl, _, rfl, ?_⟩
      rw [SX.S_len]
      refine ite2 (fun e4 => ?_) (fun e4 => ?_)
      · have h13 : (((TL.numL n).length : Nat) : Int) < 13 := of_decide_eq_true e4
        refine ⟨_, rfl, d, c, 3, rfl, dr2, by decide, by decide, fun H3 k f3 _ dr3 _ _ => ⟨rfl, _, rfl, ite2 (fun e5 => ?_) (fun e5 => ?_)⟩⟩
        · refine ⟨_, rfl, _, _, rfl, rfl, by show 2 + (SX.S (TL.numL n)).length ≤ sizeLine; rw [SX.S_len]; exact Nat.le_trans (m := 20) (by omega) (by decide), ?_⟩
          rw [show Str.ofString "00" ++ SX.S (TL.numL n) = ⟨(48 :: 48 :: TL.numL n).toArray⟩ from SX.S_cat [48, 48] _]
          refine ⟨_, rfl, _, rfl, by show 3 ≤ sizeLine; decide, fun p np => fin H3 p (.num n) _ ((f1.trans f2).trans f3) dr3 (tok_num (by simp) (fun x hx => ?_) (by simp only [List.length_cons]; omega) ?_) np⟩
          · rcases List.mem_cons.mp hx with rfl | hx
            · decide +kernel
            · rcases List.mem_cons.mp hx with rfl | hx
              · decide +kernel
              · exact num_dig n x hx
          · show NumText.digitsVal (TL.numL n) = n
            exact TL.numL_val n
        · exact ⟨_, rfl, _, rfl, by show 3 ≤ sizeLine; decide, fun p np => fin H3 p (.num n) _ ((f1.trans f2).trans f3) dr3 (tok_num (TL.numL_ne n) (num_dig n) nl (TL.numL_val n)) np⟩
      · refine iteF ?_
        exact ⟨_, rfl, _, rfl, by show 3 ≤ sizeLine; decide, fun p np => fin H2 p (.num n) _ (f1.trans f2) dr2 (tok_num (TL.numL_ne n) (num_dig n) nl (TL.numL_val n)) np⟩
    refine ⟨_, rfl, rfl, _, rfl, ite2 (fun e4 => ?_) (fun e4 => ?_)⟩
    · -- a text
      refine ⟨_, rfl, d, c, rfl, dr1, fun H2 l f2 dr2 hl hx => ?_⟩
      refine ⟨_, rfl, _, rfl, l, rfl, by omega, ?_⟩
      exact ⟨by show 3 ≤ sizeLine; decide, fun p np => fin H2 p (.text l) _ (f1.trans f2) dr2 (tok_text hx hl) np⟩
    · -- a sign
      refine ⟨by show 14 ≤ sizeLine; decide, fun p np => ?_⟩
      have dr2 := dr1.ext (same_upd np (o := .lst (SGN.map fun g => V.str ⟨g.toArray⟩)))
      have hpd : p ≠ d := dr1.nd np
      refine ⟨_, rfl, _, rfl, d, c, 14, rfl, dr2, by decide, by decide, fun H3 k f3 _ dr3 k0 k1 => ?_⟩
      obtain ⟨j, rfl⟩ := Int.eq_ofNat_of_zero_le k0
      have hj : j < SGN.length := by show j < 14; omega
      refine ⟨p, SGN.map fun g => V.str ⟨g.toArray⟩, _, .str ⟨SGN[j].toArray⟩, rfl, rfl, .of (f3 _ _ hpd upd_same), atI_nat (by rw [List.getElem?_map, List.getElem?_eq_getElem hj]; rfl), ?_⟩
      exact ⟨_, rfl, _, rfl, by show 3 ≤ sizeLine; decide, fun p2 np2 => fin H3 p2 (.sign SGN[j]) _ ((f1.trans (Fd.new np)).trans f3) dr3 (tok_sign (List.getElem_mem hj)) np2⟩
end

/-! ### the law -/
def GAPS : List (List Nat) := [[32], [10], [9, 32], [35, 32, 120, 32, 39, 121, 10], [32, 32, 32]]
theorem gap_skip {g : List Nat} (h : g ∈ GAPS) (tail : List Nat) : skip (g ++ tail) = skip tail ∧ GapHd (g ++ tail) ∧ g.length ≤ 7 := by
  simp only [GAPS, List.mem_cons, List.not_mem_nil, or_false] at h
  have b : ∀ (c : Nat) (r : List Nat), isBl c = true → skip (c :: r) = skip r := fun c r hc => by rw [skip_cons, if_pos hc]
  rcases h with rfl | rfl | rfl | rfl | rfl
  · exact ⟨b _ _ rfl, ⟨32, tail, rfl, by decide +kernel, by decide, by decide⟩, by decide⟩
  · exact ⟨b _ _ rfl, ⟨10, tail, rfl, by decide +kernel, by decide, by decide⟩, by decide⟩
  · exact ⟨(b _ _ rfl).trans (b _ _ rfl), ⟨9, 32 :: tail, rfl, by decide +kernel, by decide, by decide⟩, by decide⟩
  · refine ⟨?_, ⟨35, _, rfl, by decide +kernel, by decide, by decide⟩, by decide⟩
    show skip (35 :: 32 :: 120 :: 32 :: 39 :: 121 :: 10 :: tail) = _
    rw [skip_cons, if_neg (by decide), if_pos rfl]
    exact b 10 tail rfl
  · exact ⟨((b _ _ rfl).trans (b _ _ rfl)).trans (b _ _ rfl), ⟨32, 32 :: 32 :: tail, rfl, by decide +kernel, by decide, by decide⟩, by decide⟩
def LInv (l : List Nat) (ts : List (Kv × Nat)) : Prop := ∀ (tail : List Nat) (T : List (Kv × Nat)), Lx (l.length + tail.length) (skip tail) T → Lx (l.length + tail.length) (skip (l ++ tail)) (ts ++ T)
theorem LInv.start {g : List Nat} (h : g ∈ GAPS) : LInv g [] := fun tail T hx => by
  rw [(gap_skip h tail).1]
  exact hx
theorem LInv.step {l : List Nat} {ts : List (Kv × Nat)} {kv : Kv} {wr g : List Nat} (h : LInv l ts) (ok : TokOk kv wr) (hg : g ∈ GAPS) : LInv (l ++ wr ++ g) (ts ++ [(kv, l.length)]) := fun tail T hx => by
  obtain ⟨⟨c, r, rfl, b1, b2⟩, _, ht⟩ := ok
  obtain ⟨g1, g2, _⟩ := gap_skip hg tail
  have e0 : l ++ (c :: r) ++ g ++ tail = l ++ ((c :: r) ++ (g ++ tail)) := by simp only [List.append_assoc]
  have en : (l ++ (c :: r) ++ g).length + tail.length = l.length + ((c :: r) ++ (g ++ tail)).length := by
    simp only [List.length_append]
    omega
  rw [e0, List.append_assoc ts, en]
  rw [en] at hx
  refine h ((c :: r) ++ (g ++ tail)) ((kv, l.length) :: T) ?_
  have es : skip ((c :: r) ++ (g ++ tail)) = (c :: r) ++ (g ++ tail) := by
    show skip (c :: (r ++ (g ++ tail))) = _
    rw [skip_cons, if_neg (by rw [b1]; exact Bool.false_ne_true), if_neg b2]
    rfl
  rw [es]
  have eo : l.length = l.length + ((c :: r) ++ (g ++ tail)).length - ((c :: r) ++ (g ++ tail)).length := by omega
  have hl := Lx.cons (n := l.length + ((c :: r) ++ (g ++ tail)).length) (s := (c :: r) ++ (g ++ tail)) (ts := T) (ht (g ++ tail) g2) (by rw [g1]; exact hx)
  rw [← eo] at hl
  exact hl
theorem LInv.fin {l : List Nat} {ts : List (Kv × Nat)} (h : LInv l ts) (tail : List Nat) (ht : skip tail = []) : Lx (l ++ tail).length (skip (l ++ tail)) ts := by
  have := h tail [] (by rw [ht]; exact .nil)
  rw [List.append_nil, ← List.length_append] at this
  exact this
theorem toks_sh (ts : List (Kv × Nat)) (h : ts.length ≤ 100000) : Sh 2 (.list (ts.map tokD)) := by
  refine .lst (by rw [List.length_map]; exact h) fun d hd => ?_
  obtain ⟨t, _, rfl⟩ := List.mem_map.mp hd
  obtain ⟨kv, o⟩ := t
  refine .tup (by show 3 ≤ 100000; decide) fun x hx => ?_
  rcases List.mem_cons.mp hx with rfl | hx
  · exact .str _
  · rcases List.mem_cons.mp hx with rfl | hx
    · cases kv
      · exact .str _
      · exact .int _
      · exact .str _
      · exact .str _
    · rw [List.mem_singleton.mp hx]
      exact .int _
def sp_law (K : PySem.W.Frag) : Sp := fun vs H Q _ => ∃ (a : Addr) (ns : List Int), vs = [.ref a] ∧ SqL K H a (ns.map V.int) ∧ ns.length ≤ 63 ∧ ∀ H', Q (.bl true) H'
section
variable {P : Program} {w : World} {K : PySem.W.Frag} {mg : Str → Option Value} {base : Heap}
theorem ok_law {f : Addr} {fd : FuncData} (F : Fun K "law" "law" s_law f fd) (M : Mg mg) (c__law_draw : Cl P w K mg base 1 "_law_draw" (sp_draw K)) (c__law_next : Cl P w K mg base 1 "_law_next" sp_next) (c__law_same : Cl P w K mg base 4 "_law_same" (sp_same K 3)) (c__law_token : Cl P w K mg base 3 "_law_token" sp_ltok) (c_tokens : Cl P w K mg base 4 "tokens" (sp_tok K)) : FnOk P w K mg base CX0 5 f fd ["script"] (sp_law K) := by
  refine F.ok sc_law (fun vs H Q E h => ?_) (fun cdv A outer s H vs Q E hr h => ?_)
  · obtain ⟨a, ns, rfl, _⟩ := h
    rfl
  · obtain ⟨a, ns, rfl, hS, _, q⟩ := h
    obtain ⟨t, ht, hq⟩ : ∃ t, PSs (cxOf CX0 P w K mg base N_law "law" (defScope s_law) f cdv A outer s H E).nox ((defBody s_law).drop 6) t ∧ ∀ (H1 : Hp) (l : List Nat) (ts : List (Kv × Nat)) (U : Addr) (xs : List V) (y1 y2 y5 y6 y7 y8 : Option V), l.length ≤ 10000 → Lx l.length (skip l) ts → ts.length ≤ 1000 → H1 U = some (.lst xs) → DpAll K H1 xs (ts.map tokD) → t { nx := fun _ H' => Q .non H', rt := Q } [some (.ref a), y1, y2, some (.str ⟨l.toArray⟩), some (.ref U), y5, y6, y7, y8] H1 := by
      refine ⟨_, (pss_cons (ps_if (pt_cmpR op_gt (pe_callB call_len_str (by rfl) M.len PySem.boot_len (pa_cons (pv 3) pa_nil)) pe_int (nomark _)) (pss_one (ps_ret pe_bl)) pss_nil)
      (pss_one (ps_ret (pe_u c__law_same hr (by first | decide | omega) (by rfl) (pa_cons (pe_u c_tokens hr (by first | decide | omega) (by rfl) (pa_cons (pv 3) pa_nil)) (pa_cons (pv 4) pa_nil)))))), fun H1 l ts U xs y1 y2 y5 y6 y7 y8 hl hx ht eU da => ?_⟩
      refine ⟨_, rfl, _, rfl, by rw [S_len']; exact Nat.le_trans hl (by decide), _, _, rfl, rfl, _, rfl, ite2 (fun e => ?_) (fun e => ?_)⟩
      · exact q _
      · refine ⟨_, rfl, l, ts, rfl, by omega, hx, fun H2 p s2 dp => ?_⟩
        refine ⟨_, rfl, _, _, _, 2, rfl, rfl, toks_sh ts (by omega), dp, .lst (.of (s2 _ _ eU)) (DpAll.ext s2 _ _ da), fun H' _ => q H'⟩
    refine ⟨_, (pss_cons (ps_set (i := 1) sc_law.nd rfl (.inl rfl) (pe_u c__law_draw hr (by first | decide | omega) (by rfl) (pa_cons (pv 0) pa_nil)))
      (pss_cons (ps_set (i := 2) sc_law.nd rfl (.inl rfl) (pe_lst (pa_cons pe_str (pa_cons pe_str (pa_cons pe_str (pa_cons pe_str (pa_cons pe_str pa_nil)))))))
      (pss_cons (ps_set (i := 3) sc_law.nd rfl (.inl rfl) (pe_ix (ix_listK K) (pv 2) (pe_u c__law_next hr (by first | decide | omega) (by rfl) (pa_cons (pv 1) (pa_cons pe_int pa_nil))) (fun _ _ => rfl)))
      (pss_cons (ps_set (i := 4) sc_law.nd rfl (.inl rfl) (pe_lst pa_nil))
      (pss_cons (ps_for PassesOwn.never rfl (pi_range1 (by rfl) M.range (pa_cons (pe_u c__law_next hr (by first | decide | omega) (by rfl) (pa_cons (pv 1) (pa_cons pe_int pa_nil))) pa_nil)) (pg_name (i := 5) sc_law.nd rfl (.inl rfl)) (pss_cons (ps_asg (pe_u c__law_token hr (by first | decide | omega) (by rfl) (pa_cons (pv 1) pa_nil)) (pg_tup (by rfl) (pgs_cons (pg_name (i := 6) sc_law.nd rfl (.inl rfl)) (pgs_cons (pg_name (i := 7) sc_law.nd rfl (.inl rfl)) (pgs_cons (pg_name (i := 8) sc_law.nd rfl (.inl rfl)) pgs_nil)))))
      (pss_cons (ps_expr (pe_bmK K PySem.F.plainAttrs_list PySem.F.slot_list_append PySem.F.type_list_append mt_append (pv 4) (pa_cons (pe_tup (pa_cons (pv 6) (pa_cons (pv 7) (pa_cons (pe_callB call_len_str (by rfl) M.len PySem.boot_len (pa_cons (pv 3) pa_nil)) pa_nil)))) pa_nil)))
      (pss_one (ps_set (i := 3) sc_law.nd rfl (.inl rfl) (pe_op op_add_str (pe_op op_add_str (pv 3) (pv 8)) (pe_ix (ix_listK K) (pv 2) (pe_u c__law_next hr (by first | decide | omega) (by rfl) (pa_cons (pv 1) (pa_cons pe_int pa_nil))) (fun _ _ => rfl))))))))
      (pss_cons (ps_if (pt_cmpR op_eq (pe_u c__law_next hr (by first | decide | omega) (by rfl) (pa_cons (pv 1) (pa_cons pe_int pa_nil))) pe_int (nomark _)) (pss_one (ps_set (i := 3) sc_law.nd rfl (.inl rfl) (pe_op op_add_str (pv 3) pe_str))) pss_nil)
      ht)))))), ?_⟩
    refine ⟨_, rfl, a, ns, rfl, hS, fun H1 d c s1 nd dr => ?_⟩
    refine ⟨by show 5 ≤ sizeLine; decide, fun gp ngp => ?_⟩
    have dr1 := dr.ext (same_upd ngp (o := .lst (GAPS.map fun g => V.str ⟨g.toArray⟩)))
    have egp : (upd H1 gp (.lst (GAPS.map fun g => V.str ⟨g.toArray⟩))) gp = some (.lst (GAPS.map fun g => V.str ⟨g.toArray⟩)) := upd_same
    have ngd : gp ≠ d := dr.nd ngp
    have pick : ∀ (k : Int), 0 ≤ k → k < 5 → ∃ g ∈ GAPS, atI (GAPS.map fun g => V.str ⟨g.toArray⟩) k = some (.str ⟨g.toArray⟩) := fun k k0 k1 => by
      obtain ⟨j, rfl⟩ := Int.eq_ofNat_of_zero_le k0
      have hj : j < GAPS.length := by show j < 5; omega
      exact ⟨GAPS[j], List.getElem_mem hj, atI_nat (by rw [List.getElem?_map, List.getElem?_eq_getElem hj]; rfl)⟩
    refine ⟨_, rfl, _, rfl, d, c, 5, rfl, dr1, by decide, by decide, fun H2 k f2 _ dr2 k0 k1 => ?_⟩
    obtain ⟨g0, hg0, at0⟩ := pick k k0 k1
    have egp2 := f2 _ _ ngd egp
    refine ⟨gp, _, _, _, rfl, rfl, .of egp2, at0, ?_⟩
    -- due
    refine ⟨Nat.zero_le _, fun U nU => ?_⟩
    have nUd := dr2.nd nU
    have nUc := dr2.nc nU
    have ngU : gp ≠ U := ne_of_none egp2 nU
    have dr3 := dr2.ext (same_upd nU (o := .lst []))
    refine ⟨_, rfl, d, c, 15, rfl, dr3, by decide, by decide, fun H4 m f4 _ dr4 m0 m1 => ⟨_, rfl, by omega, by omega, ?_⟩⟩
    have hg7 := (gap_skip hg0 []).2.2
    refine for_range (lo := 0) (n := m.toNat) (fun i σ Hi => Dr Hi d c ∧ Hi gp = some (.lst (GAPS.map fun g => V.str ⟨g.toArray⟩)) ∧ ∃ (l : List Nat) (ts : List (Kv × Nat)) (xs : List V) (y5 y6 y7 y8 : Option V), σ = [some (.ref a), some (.ref d), some (.ref gp), some (.str ⟨l.toArray⟩), some (.ref U), y5, y6, y7, y8] ∧ l.length ≤ 7 + i * 220 ∧ ts.length = i ∧ LInv l ts ∧ Hi U = some (.lst xs) ∧ DpAll K Hi xs (ts.map tokD))
      ⟨dr4, f4 _ _ ngd (same_upd nU _ _ egp2), g0, [], [], none, none, none, none, rfl, by omega, rfl, LInv.start hg0, f4 _ _ nUd upd_same, .nil⟩ (fun i σ Hi hi hp => ?_) (fun σ Hn hp => ?_)
    · obtain ⟨di, egi, l, ts, xs, y5, y6, y7, y8, rfl, hl, hts, hinv, eU, da⟩ := hp
      have hi15 : i < 15 := by omega
      have zl : (⟨l.toArray⟩ : Str).length ≤ sizeLine := by rw [S_len']; exact Nat.le_trans (m := 10000) (by omega) (by decide)
      refine ⟨_, rfl, d, c, rfl, di, fun H5 p kv wr f5 dr5 ok ep => ?_⟩
      have hwr := ok.2.1
      refine ⟨p, _, rfl, .of ep, rfl, _, _, rfl, _, _, rfl, _, _, rfl, rfl, ?_⟩
      have eU5 := f5 _ _ nUd eU
      refine ⟨_, rfl, .inl ⟨rfl, _, .of eU5⟩, _, rfl, _, rfl, _, rfl, _, rfl, zl, by show 3 ≤ sizeLine; decide, fun p2 np2 => ?_⟩
      rw [S_len']
      have s6 := same_upd np2 (o := .tup [.str kv.kd, valV kv, .int ((l.length : Nat) : Int)])
      have eU6 := s6 _ _ eU5
      have xl : xs.length = i := by rw [DpAll.len da, List.length_map, hts]
      have da6 : DpAll K (upd (upd H5 p2 (.tup [.str kv.kd, valV kv, .int ((l.length : Nat) : Int)])) U (.lst (xs ++ [.ref p2]))) (xs ++ [.ref p2]) ((ts ++ [(kv, l.length)]).map tokD) := by
        rw [List.map_append]
        have da5 : DpAll K H5 xs (ts.map tokD) := DpAll.fd di.lst f5 _ _ (toks_only _) da
        refine DpAll.snoc (DpAll.away eU6 _ _ (toks_only _) (DpAll.ext s6 _ _ da5)) ?_
        exact Dp.away eU6 _ _ (by cases kv <;> rfl) (.tup (.of upd_same) (.cons (.str _) (.cons (val_dp kv) (.cons (.int _) .nil))))
      refine ⟨U, xs, _, rfl, rfl, eU6, by rw [xl]; exact Nat.lt_of_lt_of_le (m := 20) (by omega) (by decide), ?_⟩
      have eg7 : (upd (upd H5 p2 (.tup [.str kv.kd, valV kv, .int ((l.length : Nat) : Int)])) U (.lst (xs ++ [.ref p2]))) gp = some (.lst (GAPS.map fun g => V.str ⟨g.toArray⟩)) := by
        rw [upd_ne ngU]
        exact s6 _ _ (f5 _ _ ngd egi)
      have dr7 := (dr5.ext s6).upd nUd nUc (o := .lst (xs ++ [.ref p2]))
      have eU7 : (upd (upd H5 p2 (.tup [.str kv.kd, valV kv, .int ((l.length : Nat) : Int)])) U (.lst (xs ++ [.ref p2]))) U = some (.lst (xs ++ [.ref p2])) := upd_same
      generalize upd (upd H5 p2 (.tup [.str kv.kd, valV kv, .int ((l.length : Nat) : Int)])) U (.lst (xs ++ [.ref p2])) = H7 at da6 eg7 dr7 eU7
      refine ⟨_, rfl, _, rfl, _, _, rfl, rfl, by rw [S_len', S_len']; exact Nat.le_trans (m := 10000) (by omega) (by decide), ?_⟩
      rw [show (⟨l.toArray⟩ : Str) ++ ⟨wr.toArray⟩ = ⟨(l ++ wr).toArray⟩ from SX.S_cat l wr]
      refine ⟨_, rfl, _, rfl, d, c, 5, rfl, dr7, by decide, by decide, fun H8 k f8 _ dr8 k0 k1 => ?_⟩
      obtain ⟨g, hg, atg⟩ := pick k k0 k1
      have hgl := (gap_skip hg []).2.2
      have eg8 := f8 _ _ ngd eg7
      refine ⟨gp, _, _, _, rfl, rfl, .of eg8, atg, _, _, rfl, rfl, by rw [S_len', S_len', List.length_append]; exact Nat.le_trans (m := 10000) (by omega) (by decide), ?_⟩
      rw [show (⟨(l ++ wr).toArray⟩ : Str) ++ ⟨g.toArray⟩ = ⟨(l ++ wr ++ g).toArray⟩ from SX.S_cat (l ++ wr) g]
      refine ⟨dr8, eg8, l ++ wr ++ g, ts ++ [(kv, l.length)], xs ++ [.ref p2], _, _, _, _, rfl, ?_, ?_, hinv.step ok hg, f8 _ _ nUd eU7, ?_⟩
      · rw [List.length_append, List.length_append]
        omega
      · rw [List.length_append, hts]
        rfl
      · exact DpAll.fd dr7.lst f8 _ _ (toks_only _) da6
    · obtain ⟨di, egi, l, ts, xs, y5, y6, y7, y8, rfl, hl, hts, hinv, eU, da⟩ := hp
      have hm : m.toNat < 15 := by omega
      refine ⟨_, rfl, d, c, 3, rfl, di, by decide, by decide, fun H5 k f5 _ dr5 _ _ => ⟨rfl, _, rfl, ite2 (fun e => ?_) (fun e => ?_)⟩⟩
      · refine ⟨_, rfl, _, _, rfl, rfl, by show (⟨l.toArray⟩ : Str).length + 9 ≤ sizeLine; rw [S_len']; exact Nat.le_trans (m := 10000) (by omega) (by decide), ?_⟩
        rw [show (⟨l.toArray⟩ : Str) ++ Str.ofString "# the end" = ⟨(l ++ [35, 32, 116, 104, 101, 32, 101, 110, 100]).toArray⟩ from SX.S_cat l _]
        refine hq H5 _ ts U xs _ _ _ _ _ _ (by rw [List.length_append]; show l.length + 9 ≤ 10000; omega) (hinv.fin _ ?_) (by omega) (f5 _ _ nUd eU) ?_
        · rw [skip_cons, if_neg (by decide), if_pos rfl]
          rfl
        · exact DpAll.fd di.lst f5 _ _ (toks_only _) da
      · have hf := hinv.fin [] rfl
        rw [List.append_nil] at hf
        refine hq H5 l ts U xs _ _ _ _ _ _ (by omega) hf (by omega) (f5 _ _ nUd eU) (DpAll.fd di.lst f5 _ _ (toks_only _) da)
end

theorem all_mk {l : PySem.W.OpenLaw} {w : World} {K : PySem.W.Frag} {h : Heap} {mg : Str → Option Value} {fa : Addr} (X : K.In h) (G : h.Ns mainGlobals mg) (hfa : mg "law" = some (.ref fa))
    {od0 an0 : Option Addr} {sl0 : Array (Option Value)} {oc0 kV0 dc0 pm0 cd0 ct0 : Value} {f0 : Addr}
    {od1 an1 : Option Addr} {sl1 : Array (Option Value)} {oc1 kV1 dc1 pm1 cd1 ct1 : Value} {f1 : Addr}
    {od2 an2 : Option Addr} {sl2 : Array (Option Value)} {oc2 kV2 dc2 pm2 cd2 ct2 : Value} {f2 : Addr}
    {od3 an3 : Option Addr} {sl3 : Array (Option Value)} {oc3 kV3 dc3 pm3 cd3 ct3 : Value} {f3 : Addr}
    {od4 an4 : Option Addr} {sl4 : Array (Option Value)} {oc4 kV4 dc4 pm4 cd4 ct4 : Value} {f4 : Addr}
    {od5 an5 : Option Addr} {sl5 : Array (Option Value)} {oc5 kV5 dc5 pm5 cd5 ct5 : Value} {f5 : Addr}
    {od6 an6 : Option Addr} {sl6 : Array (Option Value)} {oc6 kV6 dc6 pm6 cd6 ct6 : Value} {f6 : Addr}
    {od7 an7 : Option Addr} {sl7 : Array (Option Value)} {oc7 kV7 dc7 pm7 cd7 ct7 : Value} {f7 : Addr}
    {od8 an8 : Option Addr} {sl8 : Array (Option Value)} {oc8 kV8 dc8 pm8 cd8 ct8 : Value} {f8 : Addr}
    {od9 an9 : Option Addr} {sl9 : Array (Option Value)} {oc9 kV9 dc9 pm9 cd9 ct9 : Value} {f9 : Addr}
    {od10 an10 : Option Addr} {sl10 : Array (Option Value)} {oc10 kV10 dc10 pm10 cd10 ct10 : Value} {f10 : Addr}
    {od11 an11 : Option Addr} {sl11 : Array (Option Value)} {oc11 kV11 dc11 pm11 cd11 ct11 : Value} {f11 : Addr}
    {od12 an12 : Option Addr} {sl12 : Array (Option Value)} {oc12 kV12 dc12 pm12 cd12 ct12 : Value} {f12 : Addr}
    {od13 an13 : Option Addr} {sl13 : Array (Option Value)} {oc13 kV13 dc13 pm13 cd13 ct13 : Value} {f13 : Addr}
    {od14 an14 : Option Addr} {sl14 : Array (Option Value)} {oc14 kV14 dc14 pm14 cd14 ct14 : Value} {f14 : Addr}
    {od15 an15 : Option Addr} {sl15 : Array (Option Value)} {oc15 kV15 dc15 pm15 cd15 ct15 : Value} {f15 : Addr}
    {od16 an16 : Option Addr} {sl16 : Array (Option Value)} {oc16 kV16 dc16 pm16 cd16 ct16 : Value} {f16 : Addr}
    {od17 an17 : Option Addr} {sl17 : Array (Option Value)} {oc17 kV17 dc17 pm17 cd17 ct17 : Value} {f17 : Addr}
    {od18 an18 : Option Addr} {sl18 : Array (Option Value)} {oc18 kV18 dc18 pm18 cd18 ct18 : Value} {f18 : Addr}
    {od19 an19 : Option Addr} {sl19 : Array (Option Value)} {oc19 kV19 dc19 pm19 cd19 ct19 : Value} {f19 : Addr}
    (a0 : PySem.W.nsIn K mainGlobals "tokens" = some (some (.ref f0))) (l0 : K.lookup f0 = some ⟨oc0, od0, .func (PySem.W.fnOf "tokens" "tokens" (defArgs s_tokens) (defBody s_tokens) (defScope s_tokens) .none kV0 dc0 pm0 an0 cd0 ct0), sl0⟩) (c0 : PySem.W.codeIn K cd0 "tokens" = true) (k0 : PySem.W.keepIn K (.ref f0) = true)
    (a1 : PySem.W.nsIn K mainGlobals "behind_gap" = some (some (.ref f1))) (l1 : K.lookup f1 = some ⟨oc1, od1, .func (PySem.W.fnOf "behind_gap" "behind_gap" (defArgs s_behind_gap) (defBody s_behind_gap) (defScope s_behind_gap) .none kV1 dc1 pm1 an1 cd1 ct1), sl1⟩) (c1 : PySem.W.codeIn K cd1 "behind_gap" = true) (k1 : PySem.W.keepIn K (.ref f1) = true)
    (a2 : PySem.W.nsIn K mainGlobals "behind_comment" = some (some (.ref f2))) (l2 : K.lookup f2 = some ⟨oc2, od2, .func (PySem.W.fnOf "behind_comment" "behind_comment" (defArgs s_behind_comment) (defBody s_behind_comment) (defScope s_behind_comment) .none kV2 dc2 pm2 an2 cd2 ct2), sl2⟩) (c2 : PySem.W.codeIn K cd2 "behind_comment" = true) (k2 : PySem.W.keepIn K (.ref f2) = true)
    (a3 : PySem.W.nsIn K mainGlobals "read_token" = some (some (.ref f3))) (l3 : K.lookup f3 = some ⟨oc3, od3, .func (PySem.W.fnOf "read_token" "read_token" (defArgs s_read_token) (defBody s_read_token) (defScope s_read_token) .none kV3 dc3 pm3 an3 cd3 ct3), sl3⟩) (c3 : PySem.W.codeIn K cd3 "read_token" = true) (k3 : PySem.W.keepIn K (.ref f3) = true)
    (a4 : PySem.W.nsIn K mainGlobals "read_word" = some (some (.ref f4))) (l4 : K.lookup f4 = some ⟨oc4, od4, .func (PySem.W.fnOf "read_word" "read_word" (defArgs s_read_word) (defBody s_read_word) (defScope s_read_word) .none kV4 dc4 pm4 an4 cd4 ct4), sl4⟩) (c4 : PySem.W.codeIn K cd4 "read_word" = true) (k4 : PySem.W.keepIn K (.ref f4) = true)
    (a5 : PySem.W.nsIn K mainGlobals "read_number" = some (some (.ref f5))) (l5 : K.lookup f5 = some ⟨oc5, od5, .func (PySem.W.fnOf "read_number" "read_number" (defArgs s_read_number) (defBody s_read_number) (defScope s_read_number) .none kV5 dc5 pm5 an5 cd5 ct5), sl5⟩) (c5 : PySem.W.codeIn K cd5 "read_number" = true) (k5 : PySem.W.keepIn K (.ref f5) = true)
    (a6 : PySem.W.nsIn K mainGlobals "read_text" = some (some (.ref f6))) (l6 : K.lookup f6 = some ⟨oc6, od6, .func (PySem.W.fnOf "read_text" "read_text" (defArgs s_read_text) (defBody s_read_text) (defScope s_read_text) .none kV6 dc6 pm6 an6 cd6 ct6), sl6⟩) (c6 : PySem.W.codeIn K cd6 "read_text" = true) (k6 : PySem.W.keepIn K (.ref f6) = true)
    (a7 : PySem.W.nsIn K mainGlobals "read_sign" = some (some (.ref f7))) (l7 : K.lookup f7 = some ⟨oc7, od7, .func (PySem.W.fnOf "read_sign" "read_sign" (defArgs s_read_sign) (defBody s_read_sign) (defScope s_read_sign) .none kV7 dc7 pm7 an7 cd7 ct7), sl7⟩) (c7 : PySem.W.codeIn K cd7 "read_sign" = true) (k7 : PySem.W.keepIn K (.ref f7) = true)
    (a8 : PySem.W.nsIn K mainGlobals "behind_run" = some (some (.ref f8))) (l8 : K.lookup f8 = some ⟨oc8, od8, .func (PySem.W.fnOf "behind_run" "behind_run" (defArgs s_behind_run) (defBody s_behind_run) (defScope s_behind_run) .none kV8 dc8 pm8 an8 cd8 ct8), sl8⟩) (c8 : PySem.W.codeIn K cd8 "behind_run" = true) (k8 : PySem.W.keepIn K (.ref f8) = true)
    (a9 : PySem.W.nsIn K mainGlobals "behind_text" = some (some (.ref f9))) (l9 : K.lookup f9 = some ⟨oc9, od9, .func (PySem.W.fnOf "behind_text" "behind_text" (defArgs s_behind_text) (defBody s_behind_text) (defScope s_behind_text) .none kV9 dc9 pm9 an9 cd9 ct9), sl9⟩) (c9 : PySem.W.codeIn K cd9 "behind_text" = true) (k9 : PySem.W.keepIn K (.ref f9) = true)
    (a10 : PySem.W.nsIn K mainGlobals "_law_draw" = some (some (.ref f10))) (l10 : K.lookup f10 = some ⟨oc10, od10, .func (PySem.W.fnOf "_law_draw" "_law_draw" (defArgs s__law_draw) (defBody s__law_draw) (defScope s__law_draw) .none kV10 dc10 pm10 an10 cd10 ct10), sl10⟩) (c10 : PySem.W.codeIn K cd10 "_law_draw" = true) (k10 : PySem.W.keepIn K (.ref f10) = true)
    (a11 : PySem.W.nsIn K mainGlobals "_law_next" = some (some (.ref f11))) (l11 : K.lookup f11 = some ⟨oc11, od11, .func (PySem.W.fnOf "_law_next" "_law_next" (defArgs s__law_next) (defBody s__law_next) (defScope s__law_next) .none kV11 dc11 pm11 an11 cd11 ct11), sl11⟩) (c11 : PySem.W.codeIn K cd11 "_law_next" = true) (k11 : PySem.W.keepIn K (.ref f11) = true)
    (a12 : PySem.W.nsIn K mainGlobals "_law_reserved" = some (some (.ref f12))) (l12 : K.lookup f12 = some ⟨oc12, od12, .func (PySem.W.fnOf "_law_reserved" "_law_reserved" (defArgs s__law_reserved) (defBody s__law_reserved) (defScope s__law_reserved) .none kV12 dc12 pm12 an12 cd12 ct12), sl12⟩) (c12 : PySem.W.codeIn K cd12 "_law_reserved" = true) (k12 : PySem.W.keepIn K (.ref f12) = true)
    (a13 : PySem.W.nsIn K mainGlobals "_law_name" = some (some (.ref f13))) (l13 : K.lookup f13 = some ⟨oc13, od13, .func (PySem.W.fnOf "_law_name" "_law_name" (defArgs s__law_name) (defBody s__law_name) (defScope s__law_name) .none kV13 dc13 pm13 an13 cd13 ct13), sl13⟩) (c13 : PySem.W.codeIn K cd13 "_law_name" = true) (k13 : PySem.W.keepIn K (.ref f13) = true)
    (a14 : PySem.W.nsIn K mainGlobals "_law_string" = some (some (.ref f14))) (l14 : K.lookup f14 = some ⟨oc14, od14, .func (PySem.W.fnOf "_law_string" "_law_string" (defArgs s__law_string) (defBody s__law_string) (defScope s__law_string) .none kV14 dc14 pm14 an14 cd14 ct14), sl14⟩) (c14 : PySem.W.codeIn K cd14 "_law_string" = true) (k14 : PySem.W.keepIn K (.ref f14) = true)
    (a15 : PySem.W.nsIn K mainGlobals "_law_quoted" = some (some (.ref f15))) (l15 : K.lookup f15 = some ⟨oc15, od15, .func (PySem.W.fnOf "_law_quoted" "_law_quoted" (defArgs s__law_quoted) (defBody s__law_quoted) (defScope s__law_quoted) .none kV15 dc15 pm15 an15 cd15 ct15), sl15⟩) (c15 : PySem.W.codeIn K cd15 "_law_quoted" = true) (k15 : PySem.W.keepIn K (.ref f15) = true)
    (a16 : PySem.W.nsIn K mainGlobals "_law_number" = some (some (.ref f16))) (l16 : K.lookup f16 = some ⟨oc16, od16, .func (PySem.W.fnOf "_law_number" "_law_number" (defArgs s__law_number) (defBody s__law_number) (defScope s__law_number) .none kV16 dc16 pm16 an16 cd16 ct16), sl16⟩) (c16 : PySem.W.codeIn K cd16 "_law_number" = true) (k16 : PySem.W.keepIn K (.ref f16) = true)
    (a17 : PySem.W.nsIn K mainGlobals "_law_same" = some (some (.ref f17))) (l17 : K.lookup f17 = some ⟨oc17, od17, .func (PySem.W.fnOf "_law_same" "_law_same" (defArgs s__law_same) (defBody s__law_same) (defScope s__law_same) .none kV17 dc17 pm17 an17 cd17 ct17), sl17⟩) (c17 : PySem.W.codeIn K cd17 "_law_same" = true) (k17 : PySem.W.keepIn K (.ref f17) = true)
    (a18 : PySem.W.nsIn K mainGlobals "_law_token" = some (some (.ref f18))) (l18 : K.lookup f18 = some ⟨oc18, od18, .func (PySem.W.fnOf "_law_token" "_law_token" (defArgs s__law_token) (defBody s__law_token) (defScope s__law_token) .none kV18 dc18 pm18 an18 cd18 ct18), sl18⟩) (c18 : PySem.W.codeIn K cd18 "_law_token" = true) (k18 : PySem.W.keepIn K (.ref f18) = true)
    (a19 : PySem.W.nsIn K mainGlobals "law" = some (some (.ref f19))) (l19 : K.lookup f19 = some ⟨oc19, od19, .func (PySem.W.fnOf "law" "law" (defArgs s_law) (defBody s_law) (defScope s_law) .none kV19 dc19 pm19 an19 cd19 ct19), sl19⟩) (c19 : PySem.W.codeIn K cd19 "law" = true) (k19 : PySem.W.keepIn K (.ref f19) = true)
    {a_BLANKS : Addr} {dd_BLANKS : Option Addr} {n_BLANKS : Nat} {sl_BLANKS : Array (Option Value)} {tk_BLANKS_0 tk_BLANKS_1 tk_BLANKS_2 : Tok} (w_BLANKS : PySem.W.nsIn K mainGlobals "BLANKS" = some (some (.ref a_BLANKS))) (v_BLANKS : K.lookup a_BLANKS = some ⟨.type "tuple", dd_BLANKS, .seq #[.str (PySem.Str.ofString " ") tk_BLANKS_0, .str (PySem.Str.ofString "\t") tk_BLANKS_1, .str (PySem.Str.ofString "\n") tk_BLANKS_2] n_BLANKS, sl_BLANKS⟩) {a_SIGNS : Addr} {dd_SIGNS : Option Addr} {n_SIGNS : Nat} {sl_SIGNS : Array (Option Value)} {tk_SIGNS_0 tk_SIGNS_1 tk_SIGNS_2 tk_SIGNS_3 tk_SIGNS_4 tk_SIGNS_5 tk_SIGNS_6 tk_SIGNS_7 tk_SIGNS_8 tk_SIGNS_9 tk_SIGNS_10 tk_SIGNS_11 tk_SIGNS_12 tk_SIGNS_13 : Tok} (w_SIGNS : PySem.W.nsIn K mainGlobals "SIGNS" = some (some (.ref a_SIGNS))) (v_SIGNS : K.lookup a_SIGNS = some ⟨.type "tuple", dd_SIGNS, .seq #[.str (PySem.Str.ofString "<=") tk_SIGNS_0, .str (PySem.Str.ofString ">=") tk_SIGNS_1, .str (PySem.Str.ofString "!=") tk_SIGNS_2, .str (PySem.Str.ofString "(") tk_SIGNS_3, .str (PySem.Str.ofString ")") tk_SIGNS_4, .str (PySem.Str.ofString ";") tk_SIGNS_5, .str (PySem.Str.ofString ",") tk_SIGNS_6, .str (PySem.Str.ofString ".") tk_SIGNS_7, .str (PySem.Str.ofString "<") tk_SIGNS_8, .str (PySem.Str.ofString ">") tk_SIGNS_9, .str (PySem.Str.ofString "=") tk_SIGNS_10, .str (PySem.Str.ofString "+") tk_SIGNS_11, .str (PySem.Str.ofString "-") tk_SIGNS_12, .str (PySem.Str.ofString "*") tk_SIGNS_13] n_SIGNS, sl_SIGNS⟩) {tk_DIGITS : Tok} (w_DIGITS : PySem.W.nsIn K mainGlobals "DIGITS" = some (some (.str (PySem.Str.ofString "0123456789") tk_DIGITS))) {tk_LETTERS : Tok} (w_LETTERS : PySem.W.nsIn K mainGlobals "LETTERS" = some (some (.str (PySem.Str.ofString "abcdefghijklmnopqrstuvwxyz_ABCDEFGHIJKLMNOPQRSTUVWXYZ") tk_LETTERS))) {tk_MOST_WORD : Tok} (w_MOST_WORD : PySem.W.nsIn K mainGlobals "MOST_WORD" = some (some (.int 20 tk_MOST_WORD))) {tk_MOST_NUMBER : Tok} (w_MOST_NUMBER : PySem.W.nsIn K mainGlobals "MOST_NUMBER" = some (some (.int 15 tk_MOST_NUMBER))) {tk_MOST_TEXT : Tok} (w_MOST_TEXT : PySem.W.nsIn K mainGlobals "MOST_TEXT" = some (some (.int 100 tk_MOST_TEXT))) (z_abs : PySem.W.nsIn K mainGlobals "abs" = some none) (z_all : PySem.W.nsIn K mainGlobals "all" = some none) (z_bool : PySem.W.nsIn K mainGlobals "bool" = some none) (z_int : PySem.W.nsIn K mainGlobals "int" = some none) (z_isinstance : PySem.W.nsIn K mainGlobals "isinstance" = some none) (z_len : PySem.W.nsIn K mainGlobals "len" = some none) (z_list : PySem.W.nsIn K mainGlobals "list" = some none) (z_range : PySem.W.nsIn K mainGlobals "range" = some none) (z_str : PySem.W.nsIn K mainGlobals "str" = some none) (z_tuple : PySem.W.nsIn K mainGlobals "tuple" = some none) :
    ∃ fd : FuncData, (∀ (s : Shared) (v : Value), BindsTo s fd ⟨[v], []⟩ [("script", v)]) ∧ ∀ base : Heap, K.In base → base.Ns mainGlobals mg → FnOk l.prog w K mg base CX0 5 fa fd ["script"] (sp_law K) := by
  have e := hfa.symm.trans (PySem.W.mg_of X G a19)
  cases e
  have F_tokens := fun_mk (st := s_tokens) l0 c0 k0
  have b_tokens := F_tokens.binds (ps := ["source"]) fun _ _ _ _ _ _ us hl => match us, hl with | [_], _ => rfl
  have g_tokens := PySem.W.mg_of X G a0
  have F_behind_gap := fun_mk (st := s_behind_gap) l1 c1 k1
  have b_behind_gap := F_behind_gap.binds (ps := ["source", "start"]) fun _ _ _ _ _ _ us hl => match us, hl with | [_, _], _ => rfl
  have g_behind_gap := PySem.W.mg_of X G a1
  have F_behind_comment := fun_mk (st := s_behind_comment) l2 c2 k2
  have b_behind_comment := F_behind_comment.binds (ps := ["source", "start"]) fun _ _ _ _ _ _ us hl => match us, hl with | [_, _], _ => rfl
  have g_behind_comment := PySem.W.mg_of X G a2
  have F_read_token := fun_mk (st := s_read_token) l3 c3 k3
  have b_read_token := F_read_token.binds (ps := ["source", "start"]) fun _ _ _ _ _ _ us hl => match us, hl with | [_, _], _ => rfl
  have g_read_token := PySem.W.mg_of X G a3
  have F_read_word := fun_mk (st := s_read_word) l4 c4 k4
  have b_read_word := F_read_word.binds (ps := ["source", "start"]) fun _ _ _ _ _ _ us hl => match us, hl with | [_, _], _ => rfl
  have g_read_word := PySem.W.mg_of X G a4
  have F_read_number := fun_mk (st := s_read_number) l5 c5 k5
  have b_read_number := F_read_number.binds (ps := ["source", "start"]) fun _ _ _ _ _ _ us hl => match us, hl with | [_, _], _ => rfl
  have g_read_number := PySem.W.mg_of X G a5
  have F_read_text := fun_mk (st := s_read_text) l6 c6 k6
  have b_read_text := F_read_text.binds (ps := ["source", "start"]) fun _ _ _ _ _ _ us hl => match us, hl with | [_, _], _ => rfl
  have g_read_text := PySem.W.mg_of X G a6
  have F_read_sign := fun_mk (st := s_read_sign) l7 c7 k7
  have b_read_sign := F_read_sign.binds (ps := ["source", "start"]) fun _ _ _ _ _ _ us hl => match us, hl with | [_, _], _ => rfl
  have g_read_sign := PySem.W.mg_of X G a7
  have F_behind_run := fun_mk (st := s_behind_run) l8 c8 k8
  have b_behind_run := F_behind_run.binds (ps := ["source", "start", "members"]) fun _ _ _ _ _ _ us hl => match us, hl with | [_, _, _], _ => rfl
  have g_behind_run := PySem.W.mg_of X G a8
  have F_behind_text := fun_mk (st := s_behind_text) l9 c9 k9
  have b_behind_text := F_behind_text.binds (ps := ["source", "start"]) fun _ _ _ _ _ _ us hl => match us, hl with | [_, _], _ => rfl
  have g_behind_text := PySem.W.mg_of X G a9
  have F__law_draw := fun_mk (st := s__law_draw) l10 c10 k10
  have b__law_draw := F__law_draw.binds (ps := ["script"]) fun _ _ _ _ _ _ us hl => match us, hl with | [_], _ => rfl
  have g__law_draw := PySem.W.mg_of X G a10
  have F__law_next := fun_mk (st := s__law_next) l11 c11 k11
  have b__law_next := F__law_next.binds (ps := ["draw", "many"]) fun _ _ _ _ _ _ us hl => match us, hl with | [_, _], _ => rfl
  have g__law_next := PySem.W.mg_of X G a11
  have F__law_reserved := fun_mk (st := s__law_reserved) l12 c12 k12
  have b__law_reserved := F__law_reserved.binds (ps := []) fun _ _ _ _ _ _ us hl => match us, hl with | [], _ => rfl
  have g__law_reserved := PySem.W.mg_of X G a12
  have F__law_name := fun_mk (st := s__law_name) l13 c13 k13
  have b__law_name := F__law_name.binds (ps := ["draw"]) fun _ _ _ _ _ _ us hl => match us, hl with | [_], _ => rfl
  have g__law_name := PySem.W.mg_of X G a13
  have F__law_string := fun_mk (st := s__law_string) l14 c14 k14
  have b__law_string := F__law_string.binds (ps := ["draw"]) fun _ _ _ _ _ _ us hl => match us, hl with | [_], _ => rfl
  have g__law_string := PySem.W.mg_of X G a14
  have F__law_quoted := fun_mk (st := s__law_quoted) l15 c15 k15
  have b__law_quoted := F__law_quoted.binds (ps := ["value"]) fun _ _ _ _ _ _ us hl => match us, hl with | [_], _ => rfl
  have g__law_quoted := PySem.W.mg_of X G a15
  have F__law_number := fun_mk (st := s__law_number) l16 c16 k16
  have b__law_number := F__law_number.binds (ps := ["draw"]) fun _ _ _ _ _ _ us hl => match us, hl with | [_], _ => rfl
  have g__law_number := PySem.W.mg_of X G a16
  have F__law_same := fun_mk (st := s__law_same) l17 c17 k17
  have b__law_same := F__law_same.binds (ps := ["actual", "due"]) fun _ _ _ _ _ _ us hl => match us, hl with | [_, _], _ => rfl
  have g__law_same := PySem.W.mg_of X G a17
  have F__law_token := fun_mk (st := s__law_token) l18 c18 k18
  have b__law_token := F__law_token.binds (ps := ["draw"]) fun _ _ _ _ _ _ us hl => match us, hl with | [_], _ => rfl
  have g__law_token := PySem.W.mg_of X G a18
  have F_law := fun_mk (st := s_law) l19 c19 k19
  have M : Mg mg := ⟨PySem.W.mg_none_of X G z_abs, PySem.W.mg_none_of X G z_all, PySem.W.mg_none_of X G z_bool, PySem.W.mg_none_of X G z_int, PySem.W.mg_none_of X G z_isinstance, PySem.W.mg_none_of X G z_len, PySem.W.mg_none_of X G z_list, PySem.W.mg_none_of X G z_range, PySem.W.mg_none_of X G z_str, PySem.W.mg_none_of X G z_tuple⟩
  exact ⟨PySem.W.fnOf "law" "law" (defArgs s_law) (defBody s_law) (defScope s_law) .none kV19 dc19 pm19 an19 cd19 ct19, fun s v => .of_eq rfl, fun base _ _ => by
  have GG : Gl K mg a_BLANKS a_SIGNS := ⟨⟨_, PySem.W.mg_of X G w_BLANKS, rfl⟩, ⟨_, PySem.W.mg_of X G w_SIGNS, rfl⟩, ⟨_, PySem.W.mg_of X G w_DIGITS, _, rfl⟩, ⟨_, PySem.W.mg_of X G w_LETTERS, _, rfl⟩, ⟨_, PySem.W.mg_of X G w_MOST_WORD, _, rfl⟩, ⟨_, PySem.W.mg_of X G w_MOST_NUMBER, _, rfl⟩, ⟨_, PySem.W.mg_of X G w_MOST_TEXT, _, rfl⟩,
    fun H => .inr ⟨_, _, _, v_BLANKS, rfl, rfl, by show 3 ≤ sizeLine; decide, .cons ⟨_, rfl⟩ (.cons ⟨_, rfl⟩ (.cons ⟨_, rfl⟩ .nil))⟩,
    fun H => .inr ⟨_, _, _, v_SIGNS, rfl, rfl, by show 14 ≤ sizeLine; decide, .cons ⟨_, rfl⟩ (.cons ⟨_, rfl⟩ (.cons ⟨_, rfl⟩ (.cons ⟨_, rfl⟩ (.cons ⟨_, rfl⟩ (.cons ⟨_, rfl⟩ (.cons ⟨_, rfl⟩ (.cons ⟨_, rfl⟩ (.cons ⟨_, rfl⟩ (.cons ⟨_, rfl⟩ (.cons ⟨_, rfl⟩ (.cons ⟨_, rfl⟩ (.cons ⟨_, rfl⟩ (.cons ⟨_, rfl⟩ .nil)))))))))))))⟩⟩
  have N := FnOk.cl (P := l.prog) (w := w) (base := base) (ok_next F__law_next M) F__law_next g__law_next b__law_next
  have RE := FnOk.cl (P := l.prog) (w := w) (base := base) (mg := mg) (ok_res F__law_reserved) F__law_reserved g__law_reserved b__law_reserved
  have NA := FnOk.cl (ok_name F__law_name M N RE) F__law_name g__law_name b__law_name
  have NU := FnOk.cl (ok_number F__law_number M N) F__law_number g__law_number b__law_number
  have ST := FnOk.cl (ok_string F__law_string M N) F__law_string g__law_string b__law_string
  have QU := FnOk.cl (P := l.prog) (w := w) (base := base) (mg := mg) (ok_quoted F__law_quoted) F__law_quoted g__law_quoted b__law_quoted
  have LT := FnOk.cl (ok_ltok F__law_token M N RE NA NU ST QU) F__law_token g__law_token b__law_token
  have RU := FnOk.cl (P := l.prog) (w := w) (base := base) (ok_run F_behind_run M) F_behind_run g_behind_run b_behind_run
  have CM := FnOk.cl (P := l.prog) (w := w) (base := base) (ok_cmt F_behind_comment M) F_behind_comment g_behind_comment b_behind_comment
  have GA := FnOk.cl (ok_gap F_behind_gap M GG CM) F_behind_gap g_behind_gap b_behind_gap
  have BT := FnOk.cl (P := l.prog) (w := w) (base := base) (ok_btx F_behind_text M) F_behind_text g_behind_text b_behind_text
  have RW := FnOk.cl (ok_rw F_read_word M GG RU) F_read_word g_read_word b_read_word
  have RN := FnOk.cl (ok_rn F_read_number M GG RU) F_read_number g_read_number b_read_number
  have RT := FnOk.cl (ok_rt F_read_text M GG BT) F_read_text g_read_text b_read_text
  have RS := FnOk.cl (P := l.prog) (w := w) (base := base) (ok_rs F_read_sign M GG) F_read_sign g_read_sign b_read_sign
  have RK := FnOk.cl (ok_rtok F_read_token M GG RW RN RT RS) F_read_token g_read_token b_read_token
  have TK := FnOk.cl (ok_tok F_tokens M GA RK) F_tokens g_tokens b_tokens
  exact ok_law F_law M (FnOk.cl (ok_draw F__law_draw M) F__law_draw g__law_draw b__law_draw) N (cl_same F__law_same M g__law_same b__law_same 3) LT TK⟩
end Lw
open PySem PySem.W PyProof.Rows
set_option maxHeartbeats 0 in
theorem PySem.Challenge.cw_lineworks_k01_tokens_holds : PySem.Challenge.rw_lineworks_k01_tokens.Holds := by
  w_on; o_law; k_head; (case hw => w_witness2)
  k_fill
  refine L2.walk_of (l := PySem.Challenge.rw_lineworks_k01_tokens) (n := 63) (k := 5) (x := "script") (CX := fun _ => L2.CX0) (sp := fun w => Lw.sp_law _) rfl (by decide) rfl ⟨rfl, by decide, by decide⟩ (fun w h Y => PySem.W.kIn_of Y) ?F (fun _ _ a ns hl _ hS => ⟨a, ns, rfl, hS, hl, fun _ => rfl⟩) (fun _ _ _ _ _ h => h)
  case F =>
    intro w mg fa h KX G hmg
    refine' Lw.all_mk KX G hmg ?a0 ?l0 ?c0 ?k0 ?a1 ?l1 ?c1 ?k1 ?a2 ?l2 ?c2 ?k2 ?a3 ?l3 ?c3 ?k3 ?a4 ?l4 ?c4 ?k4 ?a5 ?l5 ?c5 ?k5 ?a6 ?l6 ?c6 ?k6 ?a7 ?l7 ?c7 ?k7 ?a8 ?l8 ?c8 ?k8 ?a9 ?l9 ?c9 ?k9 ?a10 ?l10 ?c10 ?k10 ?a11 ?l11 ?c11 ?k11 ?a12 ?l12 ?c12 ?k12 ?a13 ?l13 ?c13 ?k13 ?a14 ?l14 ?c14 ?k14 ?a15 ?l15 ?c15 ?k15 ?a16 ?l16 ?c16 ?k16 ?a17 ?l17 ?c17 ?k17 ?a18 ?l18 ?c18 ?k18 ?a19 ?l19 ?c19 ?k19 ?w_BLANKS ?v_BLANKS ?w_SIGNS ?v_SIGNS ?w_DIGITS ?w_LETTERS ?w_MOST_WORD ?w_MOST_NUMBER ?w_MOST_TEXT ?z_abs ?z_all ?z_bool ?z_int ?z_isinstance ?z_len ?z_list ?z_range ?z_str ?z_tuple
    (case a0 => k_is); (case l0 => k_is); (case c0 => k_is); (case k0 => k_is)
    (case a1 => k_is); (case l1 => k_is); (case c1 => k_is); (case k1 => k_is)
    (case a2 => k_is); (case l2 => k_is); (case c2 => k_is); (case k2 => k_is)
    (case a3 => k_is); (case l3 => k_is); (case c3 => k_is); (case k3 => k_is)
    (case a4 => k_is); (case l4 => k_is); (case c4 => k_is); (case k4 => k_is)
    (case a5 => k_is); (case l5 => k_is); (case c5 => k_is); (case k5 => k_is)
    (case a6 => k_is); (case l6 => k_is); (case c6 => k_is); (case k6 => k_is)
    (case a7 => k_is); (case l7 => k_is); (case c7 => k_is); (case k7 => k_is)
    (case a8 => k_is); (case l8 => k_is); (case c8 => k_is); (case k8 => k_is)
    (case a9 => k_is); (case l9 => k_is); (case c9 => k_is); (case k9 => k_is)
    (case a10 => k_is); (case l10 => k_is); (case c10 => k_is); (case k10 => k_is)
    (case a11 => k_is); (case l11 => k_is); (case c11 => k_is); (case k11 => k_is)
    (case a12 => k_is); (case l12 => k_is); (case c12 => k_is); (case k12 => k_is)
    (case a13 => k_is); (case l13 => k_is); (case c13 => k_is); (case k13 => k_is)
    (case a14 => k_is); (case l14 => k_is); (case c14 => k_is); (case k14 => k_is)
    (case a15 => k_is); (case l15 => k_is); (case c15 => k_is); (case k15 => k_is)
    (case a16 => k_is); (case l16 => k_is); (case c16 => k_is); (case k16 => k_is)
    (case a17 => k_is); (case l17 => k_is); (case c17 => k_is); (case k17 => k_is)
    (case a18 => k_is); (case l18 => k_is); (case c18 => k_is); (case k18 => k_is)
    (case a19 => k_is); (case l19 => k_is); (case c19 => k_is); (case k19 => k_is)
    (case w_BLANKS => k_is)
    (case v_BLANKS => k_is)
    (case w_SIGNS => k_is)
    (case v_SIGNS => k_is)
    (case w_DIGITS => k_is)
    (case w_LETTERS => k_is)
    (case w_MOST_WORD => k_is)
    (case w_MOST_NUMBER => k_is)
    (case w_MOST_TEXT => k_is)
    (case z_abs => k_is); (case z_all => k_is); (case z_bool => k_is); (case z_int => k_is); (case z_isinstance => k_is); (case z_len => k_is); (case z_list => k_is); (case z_range => k_is); (case z_str => k_is); (case z_tuple => k_is)


