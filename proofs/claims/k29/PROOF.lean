import PyProof.Rows.All
import Wide.All
import OpenK.AllK
import Wide.FinOn
import HandS.ForMost
import HandS.Wide
import HandS.IsInst
import HandS.Codes
import HandS.More
import HandS.DictComp
import HandS.Deep
import HandS.Flow
import HandS.SortInts
import PySem.Challenge.RW_lineworks_k29_falling_goes_by_the_operat
set_option Elab.async false
set_option linter.all false
set_option maxRecDepth 100000
namespace Lw
open PySem PySem.Spec PyProof.Rows L2
def topS (i : Nat) : Stmt := PySem.Challenge.pw_lineworks_k29_falling_goes_by_the_operat.main.body.getD i (.Pass ⟨0, 0, 0, 0⟩)
abbrev s_has_totals : Stmt := topS 1
abbrev N_has_totals : List Str := ["operation"]
theorem sc_has_totals : FnScope N_has_totals ["operation"] (defScope s_has_totals) := ⟨rfl, rfl, rfl, by decide +kernel, rfl, by decide +kernel, by decide +kernel⟩
abbrev s_uses : Stmt := topS 3
abbrev N_uses : List Str := ["plan", "tables", "steps", "operation"]
theorem sc_uses : FnScope N_uses ["plan"] (defScope s_uses) := ⟨rfl, rfl, rfl, by decide +kernel, rfl, by decide +kernel, by decide +kernel⟩
abbrev s_falling : Stmt := topS 4
abbrev N_falling : List Str := ["plans", "known", "plan", "operation"]
theorem sc_falling : FnScope N_falling ["plans"] (defScope s_falling) := ⟨rfl, rfl, rfl, by decide +kernel, rfl, by decide +kernel, by decide +kernel⟩
abbrev s_may_rise : Stmt := topS 5
abbrev N_may_rise : List Str := ["operation", "known", "word"]
theorem sc_may_rise : FnScope N_may_rise ["operation", "known"] (defScope s_may_rise) := ⟨rfl, rfl, rfl, by decide +kernel, rfl, by decide +kernel, by decide +kernel⟩
abbrev s__law_draw : Stmt := topS 7
abbrev N__law_draw : List Str := ["script"]
theorem sc__law_draw : FnScope N__law_draw ["script"] (defScope s__law_draw) := ⟨rfl, rfl, rfl, by decide +kernel, rfl, by decide +kernel, by decide +kernel⟩
abbrev s__law_next : Stmt := topS 8
abbrev N__law_next : List Str := ["draw", "many", "found", "cell"]
theorem sc__law_next : FnScope N__law_next ["draw", "many"] (defScope s__law_next) := ⟨rfl, rfl, rfl, by decide +kernel, rfl, by decide +kernel, by decide +kernel⟩
abbrev s__law_same : Stmt := topS 9
abbrev N__law_same : List Str := ["actual", "due", "k"]
theorem sc__law_same : FnScope N__law_same ["actual", "due"] (defScope s__law_same) := ⟨rfl, rfl, rfl, by decide +kernel, rfl, by decide +kernel, by decide +kernel⟩
abbrev s__law_leaf : Stmt := topS 10
abbrev N__law_leaf : List Str := ["draw", "plan", "steps", "tables", "index"]
theorem sc__law_leaf : FnScope N__law_leaf ["draw", "plan", "steps"] (defScope s__law_leaf) := ⟨rfl, rfl, rfl, by decide +kernel, rfl, by decide +kernel, by decide +kernel⟩
abbrev s__law_one_column : Stmt := topS 11
abbrev N__law_one_column : List Str := ["plan"]
theorem sc__law_one_column : FnScope N__law_one_column ["plan"] (defScope s__law_one_column) := ⟨rfl, rfl, rfl, by decide +kernel, rfl, by decide +kernel, by decide +kernel⟩
abbrev s__law_grow : Stmt := topS 12
abbrev N__law_grow : List Str := ["draw", "plan", "steps", "depth", "form", "width", "falls", "first", "keys", "totals", "more", "also", "second"]
theorem sc__law_grow : FnScope N__law_grow ["draw", "plan", "steps", "depth"] (defScope s__law_grow) := ⟨rfl, rfl, rfl, by decide +kernel, rfl, by decide +kernel, by decide +kernel⟩
abbrev s_law : Stmt := topS 13
abbrev N_law : List Str := ["script", "draw", "steps", "plans", "k", "plan", "tables", "named", "width", "falls", "index"]
theorem sc_law : FnScope N_law ["script"] (defScope s_law) := ⟨rfl, rfl, rfl, by decide +kernel, rfl, by decide +kernel, by decide +kernel⟩
/-! ### heaps and calls -/
theorem same_upd {H : Hp} {p : Addr} {o : HO} (h : H p = none) : Same H (upd H p o) := fun b x e => by
  rw [upd_ne (ne_of_none e h)]
  exact e
/-- what stood stands, but for the object at d -/
def Fd (d : Addr) (H H' : Hp) : Prop := ∀ b o, b ≠ d → H b = some o → H' b = some o
theorem Fd.refl (d : Addr) (H : Hp) : Fd d H H := fun _ _ _ e => e
theorem Fd.trans {d : Addr} {H H1 H2 : Hp} (a : Fd d H H1) (b : Fd d H1 H2) : Fd d H H2 := fun c o n e => b c o n (a c o n e)
theorem Fd.of {d : Addr} {H H' : Hp} (a : Same H H') : Fd d H H' := fun b o _ e => a b o e
theorem Fd.new {d : Addr} {H : Hp} {p : Addr} {o : HO} (h : H p = none) : Fd d H (upd H p o) := Fd.of (same_upd h)
theorem Fd.at {d : Addr} {H : Hp} {o : HO} : Fd d H (upd H d o) := fun b x n e => by
  rw [upd_ne n]
  exact e
/-- a def that may be called by its name -/
structure Cl (P : Program) (w : World) (K : PySem.W.Frag) (mg : Str → Option Value) (base : Heap) (k : Nat) (x : Str) (sp : Sp) : Prop where
  ex : ∃ (f : Addr) (fd : FuncData) (ps : List Str), FnOk P w K mg base CX0 k f fd ps sp ∧ mg x = some (.ref f) ∧ PySem.W.keepIn K (.ref f) = true ∧ Binds K fd ps []
section
variable {X : Cx} {k j : Nat} {x : Str} {sp : Sp} {p pos : Pos} {e : Expr} {es : List Expr} {t : TA}
theorem pe_u (c : Cl X.prog X.w X.K X.mg X.base k x sp) (hr : Room j X.A) (hk : k ≤ j) (hg : Gl X x) (ha : PA X (e :: es) t)
    (hdb : (x == ("__debug__" : Str)) = false := by decide) (he : starEach (e :: es) X.env = (false, eval e X.env) :: starEach es X.env := by rfl) (hpl : (backTo pos (starEach es X.env)).any (·.1) = false := by rfl) :
    PE X (.Call (.Name x p) (e :: es) [] pos) (tCall sp [] E0 t) := by
  obtain ⟨f, fd, ps, F, hm, kp, b⟩ := c.ex
  exact pe_call F (hr.mono hk) hg hm kp b .nil pass0 ha hdb he hpl
theorem pe_u0 (c : Cl X.prog X.w X.K X.mg X.base k x sp) (hr : Room j X.A) (hk : k ≤ j) (hg : Gl X x) (hdb : (x == ("__debug__" : Str)) = false := by decide) : PE X (.Call (.Name x p) [] [] pos) (tCall sp [] E0 tNil) := by
  obtain ⟨f, fd, ps, F, hm, kp, b⟩ := c.ex
  exact pe_call0 F (hr.mono hk) hg hm kp b .nil pass0 hdb
end
theorem FnOk.cl {P : Program} {w : World} {K : PySem.W.Frag} {mg : Str → Option Value} {base : Heap} {k : Nat} {x q : Str} {st : Stmt} {f : Addr} {fd : FuncData} {ps : List Str} {sp : Sp} (h : FnOk P w K mg base CX0 k f fd ps sp) (F : Fun K x q st f fd) (g : mg x = some (.ref f)) (b : Binds K fd ps []) : Cl P w K mg base k x sp := ⟨f, fd, ps, h, g, F.kp, b⟩
/-! ### rules with the written part named (within a comprehension) -/
section
variable {X : Cx} (K : PySem.W.Frag)
theorem ix_listK (h : X.K = K := by rfl) : IxR X (rIxL K) := by subst h; exact ix_list
theorem ix_tupK (h : X.K = K := by rfl) : IxR X (rIxT K) := by subst h; exact ix_tup
theorem ix_seqK (h : X.K = K := by rfl) : IxR X (rIx K) := by subst h; exact ix_seq
theorem len_seqK (h : X.K = K := by rfl) : CallR X (.builtin "len") (fun xs H Q => ∃ p ys, xs = [.ref p] ∧ (SqL K H p ys ∨ SqT K H p ys) ∧ Q (.int ys.length) H) := by subst h; exact call_len_seq
theorem isiK (h : X.K = K := by rfl) : CallR X (.builtin "isinstance") (rIsi K) := by subst h; exact call_isi
theorem isiTK (h : X.K = K := by rfl) : CallR X (.builtin "isinstance") (rIsiT K) := by subst h; exact call_isiT
theorem allK (hc : X.calm = true) (h : X.K = K := by rfl) : CallR X (.builtin "all") (rAll K) := by subst h; exact cr_all hc
theorem listK (h : X.K = K := by rfl) : CallR X (.type "list") (fun xs H Q => ∃ p ys, xs = [.ref p] ∧ (SqL K H p ys ∨ SqT K H p ys) ∧ ∀ l, H l = none → Q (.ref l) (upd H l (.lst ys))) := by subst h; exact call_list_of
theorem tupleK (h : X.K = K := by rfl) : CallR X (.type "tuple") (fun xs H Q => ∃ p ys, xs = [.ref p] ∧ ((SqL K H p ys ∧ ∀ l, H l = none → Q (.ref l) (upd H l (.tup ys))) ∨ (SqT K H p ys ∧ Q (.ref p) H))) := by subst h; exact call_tuple_of
theorem inK (h : X.K = K := by rfl) : OpR X (compareOp .In) (rIn K false) := by subst h; exact op_in_seq
theorem notInK (h : X.K = K := by rfl) : OpR X (compareOp .NotIn) (rIn K true) := by subst h; exact op_notIn_seq
theorem pe_bmK {T : String} {name : Str} {id : String} {r : V → List V → Hp → VK → Prop} {o e : Expr} {es : List Expr} {to : TE} {t : TA} {apos cpos : Pos} (pa : PlainAttrs T) (slot : Slot T name id) (hty : typeOf (.builtin id) = pure (.type "method_descriptor")) (hm : MtR X id r) (ho : PE X o to) (ha : PA X (e :: es) t) (hK : X.K = K := by rfl)
    (hbase : attributeBase o name X.env (eval o X.env) = eval o X.env := by rfl)
    (hfew : ((backTo cpos (starEach (e :: es) X.env)).all (fun x => !x.1) && (backToKw cpos (keywordEach [] X.env)).all (fun x => x.1.isSome)
      && decide ((e :: es).length + ([] : List Keyword).length + (if ([] : List Keyword).isEmpty then 0 else 1) < 30)) = true := by rfl)
    (hline : (apos.endLine == cpos.line) = true := by rfl) (hs : starEach (e :: es) X.env = (false, eval e X.env) :: starEach es X.env := by rfl) (hplain : (backTo cpos (starEach es X.env)).any (·.1) = false := by rfl) :
    PE X (.Call (.Attribute o name apos) (e :: es) [] cpos) (tBM K T r to t) := by subst hK; exact pe_bm pa slot hty hm ho ha hbase hfew hline hs hplain
theorem pt_truthK {a : Expr} {ta : TE} (ha : PE X a ta) (he : ∀ whole, isTrue a X.env whole = (do let v ← whole; standAt a.pos; holding [v] (truthy v))) (h : X.K = K := by rfl) : PT X a (fun σ H Q => ta σ H fun x H' => ∃ k, TruV K x H' k ∧ Q k H') := by subst h; exact pt_truth ha he
theorem eqDK (hu : X.A.units + 64 < cLine) (h : X.K = K := by rfl) : OpR X (compareOp .Eq) (rEqD K) := by subst h; exact op_eqD hu
theorem neDK (hu : X.A.units + 64 < cLine) (h : X.K = K := by rfl) : OpR X (compareOp .NotEq) (rNeD K) := by subst h; exact op_neD hu
end
/-- over the signs of a text -/
theorem for_strs {x : Str} {g : TG} {tb : TS} {D : Ends} {σ : L2.St} {H : Hp} (Pv : Nat → L2.St → Hp → Prop) (h0 : Pv 0 σ H)
    (hs : ∀ i c σ H, x.cps.toList[i]? = some c → Pv i σ H → g (.str ⟨#[c]⟩) σ H fun σ2 H2 => tb { D with nx := Pv (i + 1), ct := Pv (i + 1), bk := D.nx } σ2 H2) (hd : ∀ σ H, Pv x.cps.toList.length σ H → D.nx σ H) :
    ∃ W : Nat → Nat → L2.St → Hp → Prop, (∃ m, W 0 m σ H) ∧ ∀ i m σ H, W i m σ H →
      ((Its x).stop i H ∧ D.nx σ H) ∨ ((Its x).go i H ∧ ∃ N : L2.St → Hp → Prop, (∀ σ' H', N σ' H' → ∃ m', m' < m ∧ W (i + 1) m' σ' H') ∧ ∀ v H', (Its x).yld i H v H' → g v σ H' fun σ2 H2 => tb { D with nx := N, ct := N, bk := D.nx } σ2 H2) := by
  have es : x.cps.toList.length = x.cps.size := by simp
  refine ⟨fun i m σ H => m = x.cps.size - i ∧ i ≤ x.cps.size ∧ Pv i σ H, ⟨x.cps.size, by simp, Nat.zero_le _, h0⟩, ?_⟩
  rintro i m σ H ⟨rfl, hi, p⟩
  by_cases hlt : i < x.cps.size
  · refine .inr ⟨hlt, Pv (i + 1), fun σ' H' p' => ⟨x.cps.size - (i + 1), by omega, rfl, hlt, p'⟩, fun v H' y => ?_⟩
    obtain ⟨e, c, hc, rfl⟩ := y
    subst e
    exact hs i c σ _ (by rw [Array.getElem?_toList]; exact hc) p
  · have e : i = x.cps.size := by omega
    subst e
    exact .inl ⟨Nat.le_refl _, hd σ H (by rw [es]; exact p)⟩
theorem joinL0 : ∀ ps : List (List Nat), TL.joinL [] ps = ps.flatten
  | [] => rfl
  | [p] => by
    show p = p ++ []
    rw [List.append_nil]
  | p :: q :: r => by
    show p ++ ([] ++ TL.joinL [] (q :: r)) = p ++ (q :: r).flatten
    rw [joinL0 (q :: r), List.nil_append]
theorem join0 (ys : List Str) : Txt.join ⟨#[]⟩ ys = ⟨((ys.map TL.tl).flatten).toArray⟩ := by
  refine TL.ext_tl ?_
  rw [TL.join_eq, TL.tl_join]
  show TL.joinL [] _ = _
  rw [joinL0]
theorem flat_len : ∀ ys : List Str, ((ys.map TL.tl).flatten).length = (ys.map (·.length)).sum
  | [] => rfl
  | y :: ys => by
    rw [List.map_cons, List.flatten_cons, List.length_append, flat_len ys, List.map_cons, List.sum_cons]
    show y.cps.toList.length + _ = _
    rw [Array.length_toList]
    rfl
theorem S_len' (l : List Nat) : (⟨l.toArray⟩ : Str).length = l.length := by simp [Str.length]
theorem cut_to (l : List Nat) {o : Nat} (h : o ≤ l.length) : cutS ⟨l.toArray⟩ none (some (o : Int)) = ⟨(l.take o).toArray⟩ := by
  unfold cutS
  rw [HT.sIx_none, HT.sIx_nat, S_len', Nat.sub_zero, Nat.min_eq_left h]
  show (⟨((l.drop 0).take o).toArray⟩ : Str) = _
  rw [List.drop_zero]
theorem str1 (c : Nat) (d : Nat) : decide (V.str ⟨#[c]⟩ = V.str ⟨#[d]⟩) = decide (c = d) := by
  by_cases h : c = d
  · subst h
    rw [decide_eq_true rfl, decide_eq_true rfl]
  · rw [decide_eq_false h, decide_eq_false]
    intro e
    have e1 := V.str.inj e
    have e2 := Array.toList_inj.mpr (Str.mk.inj e1)
    exact h (by simpa using e2)
def tx (l : List Nat) : V := .str ⟨l.toArray⟩
/-- a comprehension's scope within another scope -/
def relS (scope sc : Scope) : Scope := { scope with names := scope.names.map fun (n, k) => if (k == .free && sc.kind == .function && sc.names.lookup n == some .cell) then (n, .cell) else (n, k) }
theorem anyK {X : Cx} (K : PySem.W.Frag) (hc : X.calm = true) (h : X.K = K := by rfl) : CallR X (.builtin "any") (rAny K) := by subst h; exact cr_any hc
theorem pi_listK {X : Cx} (K : PySem.W.Frag) {l tg : Expr} {tl : TE} (hl : PE X l tl) (h : X.K = K := by rfl) : PI X tg l (iList K tl) := by subst h; exact pi_list hl
theorem pi_tupK {X : Cx} (K : PySem.W.Frag) {l tg : Expr} {tl : TE} (hl : PE X l tl) (h : X.K = K := by rfl) : PI X tg l (iTup K tl) := by subst h; exact pi_tup hl

structure Mg (mg : Str → Option Value) : Prop where
  abs : mg "abs" = none
  all : mg "all" = none
  bool : mg "bool" = none
  int : mg "int" = none
  isinstance : mg "isinstance" = none
  len : mg "len" = none
  list : mg "list" = none
  range : mg "range" = none
  sorted : mg "sorted" = none
  str : mg "str" = none
  tuple : mg "tuple" = none
/-! ### the law's draws: a list of the script's copy, a place in it, what is left of a great number, a seed -/
def Dr (H : Hp) (d c : Addr) : Prop := c ≠ d ∧ ∃ (ns : List Int) (pos rest seed : Int), H d = some (.lst [.ref c, .int pos, .int rest, .int seed]) ∧ H c = some (.lst (ns.map V.int)) ∧ 0 ≤ pos ∧ 0 ≤ rest ∧ 0 ≤ seed ∧ seed < 2147483647
theorem Dr.ext {H H' : Hp} {d c : Addr} (h : Dr H d c) (e : Same H H') : Dr H' d c := by
  obtain ⟨n, ns, pos, rest, seed, h1, h2, r⟩ := h
  exact ⟨n, ns, pos, rest, seed, e _ _ h1, e _ _ h2, r⟩
theorem Dr.upd {H : Hp} {d c p : Addr} {o : HO} (h : Dr H d c) (n1 : p ≠ d) (n2 : p ≠ c) : Dr (upd H p o) d c := by
  obtain ⟨n, ns, pos, rest, seed, h1, h2, r⟩ := h
  exact ⟨n, ns, pos, rest, seed, by rw [upd_ne n1.symm]; exact h1, by rw [upd_ne n2.symm]; exact h2, r⟩
theorem Dr.nd {H : Hp} {d c p : Addr} (h : Dr H d c) (n : H p = none) : p ≠ d := by
  obtain ⟨_, ns, pos, rest, seed, h1, _⟩ := h
  exact (ne_of_none h1 n).symm
theorem Dr.nc {H : Hp} {d c p : Addr} (h : Dr H d c) (n : H p = none) : p ≠ c := by
  obtain ⟨_, ns, pos, rest, seed, _, h2, _⟩ := h
  exact (ne_of_none h2 n).symm
theorem Dr.lst {H : Hp} {d c : Addr} (h : Dr H d c) : ∃ zs, H d = some (.lst zs) := by
  obtain ⟨_, ns, pos, rest, seed, h1, _⟩ := h
  exact ⟨_, h1⟩
theorem Dr.lift {H H' : Hp} {d c d' c' : Addr} (_h : Dr H d c) (h' : Dr H' d' c') : Dr H' d' c' := h'
def sp_draw (K : PySem.W.Frag) : Sp := fun vs H Q _ => ∃ (a : Addr) (ns : List Int), vs = [.ref a] ∧ SqL K H a (ns.map V.int) ∧ ∀ H' d c, Same H H' → H d = none → Dr H' d c → Q (.ref d) H'
/-- a draw: some number below many -/
def sp_next : Sp := fun vs H Q _ => ∃ (d c : Addr) (many : Int), vs = [.ref d, .int many] ∧ Dr H d c ∧ 1 ≤ many ∧ many < 2 ^ 64 ∧ ∀ H' r, Fd d H H' → (∀ p, p ≠ d → H' p = H p) → Dr H' d c → 0 ≤ r → r < many → Q (.int r) H'
section
variable {P : Program} {w : World} {K : PySem.W.Frag} {mg : Str → Option Value} {base : Heap}
theorem ok_draw {f : Addr} {fd : FuncData} (F : Fun K "_law_draw" "_law_draw" s__law_draw f fd) (M : Mg mg) : FnOk P w K mg base CX0 1 f fd ["script"] (sp_draw K) := by
  refine F.ok sc__law_draw (fun vs H Q E h => ?_) (fun cdv A outer s H vs Q E hr h => ?_)
  · obtain ⟨a, ns, rfl, _⟩ := h
    rfl
  · obtain ⟨a, ns, rfl, hS, q⟩ := h
    refine ⟨_, (pss_one (ps_ret (pe_lst (pa_cons (pe_callTy (listK K) (by rfl) M.list (by decide +kernel) (pa_cons (pv 0) pa_nil)) (pa_cons pe_int (pa_cons pe_int (pa_cons pe_int pa_nil))))))), ?_⟩
    refine ⟨_, rfl, a, _, rfl, .inl hS, fun c nc => ?_⟩
    refine ⟨by show 4 ≤ sizeLine; decide, fun d nd => ?_⟩
    have hc : (upd H c (.lst (ns.map V.int))) c = some (.lst (ns.map V.int)) := upd_same
    have ncd : c ≠ d := ne_of_none hc nd
    have s1 := (same_upd nc (o := .lst (ns.map V.int))).trans (same_upd nd (o := .lst [.ref c, .int 0, .int 0, .int 17]))
    refine q _ d c s1 ((same_upd nc).free nd) ⟨ncd, ns, 0, 0, 17, upd_same, ?_, by decide, by decide, by decide, by decide⟩
    rw [upd_ne ncd]
    exact hc
theorem next_aux {H : Hp} {d c : Addr} {xs' : List V} {pos rest seed : Int} {ns : List Int} (hn : c ≠ d) (h2 : H c = some (.lst (ns.map V.int))) (hx : xs' = [.ref c, .int pos, .int rest, .int seed]) (h0 : 0 ≤ pos) (h1 : 0 ≤ rest) (h3 : 0 ≤ seed) (h4 : seed < 2147483647) : Dr (upd H d (.lst xs')) d c := by
  subst hx
  refine ⟨hn, ns, pos, rest, seed, upd_same, ?_, h0, h1, h3, h4⟩
  rw [upd_ne hn]
  exact h2
theorem ok_next {f : Addr} {fd : FuncData} (F : Fun K "_law_next" "_law_next" s__law_next f fd) (M : Mg mg) : FnOk P w K mg base CX0 1 f fd ["draw", "many"] sp_next := by
  refine F.ok sc__law_next (fun vs H Q E h => ?_) (fun cdv A outer s H vs Q E hr h => ?_)
  · obtain ⟨d, c, many, rfl, _⟩ := h
    rfl
  · obtain ⟨d, c, many, rfl, ⟨ncd, ns, pos, rest, seed, h1, h2, h0, h3, h4, h5⟩, hm1, hm2, q⟩ := h
    have hdv : ∀ x : Int, CDivW x many := fun x => wide_div (b := 64) (by omega) (by omega) (by decide) (by decide)
    have hcd : d ≠ c := ncd.symm
    have L0 : SqL K H d [.ref c, .int pos, .int rest, .int seed] := .of h1
    have at0 : ∀ (a b e g : V), atI [a, b, e, g] (0 : Int) = some a := fun a b e g => atI_nat (j := 0) rfl
    have at1 : ∀ (a b e g : V), atI [a, b, e, g] (1 : Int) = some b := fun a b e g => atI_nat (j := 1) rfl
    have at2 : ∀ (a b e g : V), atI [a, b, e, g] (2 : Int) = some e := fun a b e g => atI_nat (j := 2) rfl
    have at3 : ∀ (a b e g : V), atI [a, b, e, g] (3 : Int) = some g := fun a b e g => atI_nat (j := 3) rfl
    have fr : ∀ (H0 : Hp) (o : HO), (∀ p, p ≠ d → H0 p = H p) → (∀ p, p ≠ d → (upd H0 d o) p = H p) := fun H0 o e p n => by rw [upd_ne n]; exact e p n
    have fF : ∀ (H0 : Hp), (∀ p, p ≠ d → H0 p = H p) → Fd d H H0 := fun H0 e b o n h => by rw [e b n]; exact h
    -- the last row's value
    have last : ∀ (seed' : Int), 0 ≤ seed' → seed' < 2147483647 → ∀ H0 : Hp, (∀ p, p ≠ d → H0 p = H p) → (∃ pos rest, H0 d = some (.lst [.ref c, .int pos, .int rest, .int seed']) ∧ 0 ≤ pos ∧ 0 ≤ rest) → Q (.int ((seed' * 69621 % 2147483629 / 7) % many)) H0 := by
      intro seed' g0 g1 H0 e ⟨pos', rest', g2, g3, g4⟩
      exact q H0 _ (fF _ e) e ⟨ncd, ns, pos', rest', seed', g2, by rw [e c ncd]; exact h2, g3, g4, g0, g1⟩ (Int.emod_nonneg _ (by omega)) (Int.emod_lt_of_pos _ (by omega))
    refine ⟨_, (pss_cons (ps_if (pt_cmpR op_gt (pe_ix (ix_listK K) (pv 0) pe_int (fun _ _ => rfl)) pe_int (nomark _)) (pss_cons (ps_set (i := 2) sc__law_next.nd rfl (.inl rfl) (pe_op op_mod (pe_callTy call_int1 (by rfl) M.int (by decide +kernel) (pa_cons (pe_ix (ix_listK K) (pv 0) pe_int (fun _ _ => rfl)) pa_nil)) (pv 1)))
      (pss_cons (ps_asg (pe_op op_fdivW (pe_ix (ix_listK K) (pv 0) pe_int (fun _ _ => rfl)) (pv 1)) (pg_sub (pv 0) pe_int set_list))
      (pss_one (ps_ret (pv 2))))) pss_nil)
      (pss_cons (ps_if (pt_cmpR op_lt (pe_ix (ix_listK K) (pv 0) pe_int (fun _ _ => rfl)) (pe_callB (len_seqK K) (by rfl) M.len PySem.boot_len (pa_cons (pe_ix (ix_listK K) (pv 0) pe_int (fun _ _ => rfl)) pa_nil)) (nomark _)) (pss_cons (ps_set (i := 3) sc__law_next.nd rfl (.inl rfl) (pe_callB call_abs (by rfl) M.abs (by decide +kernel) (pa_cons (pe_ix (ix_listK K) (pe_ix (ix_listK K) (pv 0) pe_int (fun _ _ => rfl)) (pe_ix (ix_listK K) (pv 0) pe_int (fun _ _ => rfl)) (fun _ _ => rfl)) pa_nil)))
      (pss_cons (ps_asg (pe_op op_add (pe_ix (ix_listK K) (pv 0) pe_int (fun _ _ => rfl)) pe_int) (pg_sub (pv 0) pe_int set_list))
      (pss_cons (ps_if (pt_cmpR op_ge (pv 3) (pe_op op_pow pe_int pe_int) (nomark _)) (pss_cons (ps_asg (pe_op op_fdivW (pv 3) (pv 1)) (pg_sub (pv 0) pe_int set_list))
      (pss_one (ps_ret (pe_op op_mod (pe_callTy call_int1 (by rfl) M.int (by decide +kernel) (pa_cons (pv 3) pa_nil)) (pv 1))))) pss_nil)
      (pss_one (ps_asg (pe_op op_mod (pe_callTy call_int1 (by rfl) M.int (by decide +kernel) (pa_cons (pe_op op_add (pe_op op_add (pe_op op_mul (pe_ix (ix_listK K) (pv 0) pe_int (fun _ _ => rfl)) pe_int) (pv 3)) pe_int) pa_nil)) pe_int) (pg_sub (pv 0) pe_int set_list)))))) (pss_one (ps_asg (pe_op op_mod (pe_callTy call_int1 (by rfl) M.int (by decide +kernel) (pa_cons (pe_op op_add (pe_op op_mul (pe_ix (ix_listK K) (pv 0) pe_int (fun _ _ => rfl)) pe_int) pe_int) pa_nil)) pe_int) (pg_sub (pv 0) pe_int set_list))))
      (pss_one (ps_ret (pe_op op_mod (pe_op op_fdivW (pe_callTy call_int1 (by rfl) M.int (by decide +kernel) (pa_cons (pe_op op_mod (pe_op op_mul (pe_ix (ix_listK K) (pv 0) pe_int (fun _ _ => rfl)) pe_int) pe_int) pa_nil)) pe_int) (pv 1)))))), ?_⟩
    refine ⟨_, rfl, d, _, 2, .int rest, rfl, rfl, L0, at2 .., ?_⟩
    refine ⟨_, _, rfl, rfl, _, rfl, ite2 (fun e => ?_) (fun e => ?_)⟩
    · -- draw[2] > 0
      have hr0 : 0 < rest := of_decide_eq_true e
      refine ⟨_, rfl, d, _, 2, .int rest, rfl, rfl, L0, at2 .., .inl ⟨_, rfl, ?_⟩⟩
      refine ⟨_, rfl, _, _, rfl, rfl, by omega, ?_⟩
      refine ⟨_, rfl, d, _, 2, .int rest, rfl, rfl, L0, at2 .., ?_⟩
      refine ⟨_, rfl, _, _, rfl, rfl, hdv _, ?_⟩
      refine ⟨_, rfl, d, _, 2, 2, rfl, rfl, h1, rfl, ?_⟩
      refine ⟨_, rfl, ?_⟩
      have e1 := fr H (.lst ([.ref c, .int pos, .int rest, .int seed].set 2 (.int (rest / many)))) (fun _ _ => rfl)
      exact q _ _ (fF _ e1) e1 (next_aux ncd h2 rfl h0 (Int.ediv_nonneg h3 (by omega)) h4 h5) (Int.emod_nonneg _ (by omega)) (Int.emod_lt_of_pos _ (by omega))
    · refine ⟨_, rfl, d, _, 1, .int pos, rfl, rfl, L0, at1 .., ?_⟩
      refine ⟨_, rfl, d, _, 0, .ref c, rfl, rfl, L0, at0 .., ?_⟩
      refine ⟨c, _, rfl, .inl (.of h2), ?_⟩
      refine ⟨_, _, rfl, rfl, _, rfl, ite2 (fun e2 => ?_) (fun e2 => ?_)⟩
      · have hp : pos < ((ns.map V.int).length : Int) := of_decide_eq_true e2
        rw [List.length_map] at hp
        obtain ⟨i, rfl⟩ := Int.eq_ofNat_of_zero_le h0
        have hi : i < ns.length := by omega
        have hat : atI (ns.map V.int) ((i : Nat) : Int) = some (.int ns[i]) := atI_nat (by rw [List.getElem?_map, List.getElem?_eq_getElem hi]; rfl)
        -- cell = abs(..)
        refine ⟨_, rfl, d, _, 0, .ref c, rfl, rfl, L0, at0 .., ?_⟩
        refine ⟨_, rfl, d, _, 1, _, rfl, rfl, L0, at1 .., ?_⟩
        refine ⟨c, _, _, _, rfl, rfl, .of h2, hat, ?_⟩
        refine ⟨_, rfl, ?_⟩
        have hcell : (0 : Int) ≤ (if ns[i] < 0 then -ns[i] else ns[i]) := by split <;> omega
        generalize (if ns[i] < 0 then -ns[i] else ns[i]) = cell at hcell
        -- draw[1] = draw[1] + 1
        refine ⟨_, rfl, d, _, 1, _, rfl, rfl, L0, at1 .., ?_⟩
        refine ⟨_, _, rfl, rfl, ?_⟩
        refine ⟨_, rfl, d, _, 1, 1, rfl, rfl, h1, rfl, ?_⟩
        have hd1 : (upd H d (.lst ([.ref c, .int ((i : Nat) : Int), .int rest, .int seed].set 1 (.int ((i : Nat) + 1))))) d = some (.lst [.ref c, .int ((i : Nat) + 1), .int rest, .int seed]) := upd_same
        have e1 := fr H (.lst ([.ref c, .int ((i : Nat) : Int), .int rest, .int seed].set 1 (.int ((i : Nat) + 1)))) (fun _ _ => rfl)
        generalize upd H d (.lst ([.ref c, .int ((i : Nat) : Int), .int rest, .int seed].set 1 (.int ((i : Nat) + 1)))) = H1 at hd1 e1
        have h2' : H1 c = some (.lst (ns.map V.int)) := by rw [e1 c ncd]; exact h2
        -- cell >= 10 ** 18
        refine ⟨_, rfl, _, _, rfl, rfl, ⟨by decide, by decide, by decide⟩, ?_⟩
        refine ⟨_, _, rfl, rfl, _, rfl, ite2 (fun e3 => ?_) (fun e3 => ?_)⟩
        · refine ⟨_, rfl, _, rfl, _, _, rfl, rfl, hdv _, ?_⟩
          refine ⟨_, rfl, d, _, 2, 2, rfl, rfl, hd1, rfl, ?_⟩
          refine ⟨_, rfl, .inl ⟨_, rfl, ?_⟩⟩
          refine ⟨_, rfl, _, _, rfl, rfl, by omega, ?_⟩
          have e5 := fr H1 (.lst ([.ref c, .int ((i : Nat) + 1), .int rest, .int seed].set 2 (.int (cell / many)))) e1
          exact q _ _ (fF _ e5) e5 (next_aux ncd h2' rfl (by omega) (Int.ediv_nonneg hcell (by omega)) h4 h5) (Int.emod_nonneg _ (by omega)) (Int.emod_lt_of_pos _ (by omega))
        · -- draw[3] = ..
          refine ⟨_, rfl, d, _, 3, .int seed, rfl, rfl, .of hd1, at3 .., ?_⟩
          refine ⟨_, _, rfl, rfl, .inl ⟨by omega, by omega⟩, ?_⟩
          refine ⟨_, rfl, _, _, rfl, rfl, ?_⟩
          refine ⟨_, _, rfl, rfl, .inl ⟨_, rfl, ?_⟩⟩
          refine ⟨_, _, rfl, rfl, by show (0 : Int) < 2147483647; decide, ?_⟩
          refine ⟨_, rfl, d, _, 3, 3, rfl, rfl, hd1, rfl, ?_⟩
          have hs0 : 0 ≤ (seed * 48271 + cell + 11) % 2147483647 := Int.emod_nonneg _ (by decide)
          have hs1 : (seed * 48271 + cell + 11) % 2147483647 < 2147483647 := Int.emod_lt_of_pos _ (by decide)
          have e5 := fr H1 (.lst ([.ref c, .int ((i : Nat) + 1), .int rest, .int seed].set 3 (.int ((seed * 48271 + cell + 11) % 2147483647)))) e1
          have hd5 : (upd H1 d (.lst ([.ref c, .int ((i : Nat) + 1), .int rest, .int seed].set 3 (.int ((seed * 48271 + cell + 11) % 2147483647))))) d = some (.lst [.ref c, .int ((i : Nat) + 1), .int rest, .int ((seed * 48271 + cell + 11) % 2147483647)]) := upd_same
          dsimp only
          generalize (seed * 48271 + cell + 11) % 2147483647 = seed' at hs0 hs1 e5 hd5 ⊢
          refine ⟨_, rfl, d, _, 3, .int seed', rfl, rfl, .of hd5, at3 .., ?_⟩
          refine ⟨_, _, rfl, rfl, .inl ⟨by omega, by omega⟩, ?_⟩
          refine ⟨_, _, rfl, rfl, by show (0 : Int) < 2147483629; decide, .inl ⟨_, rfl, ?_⟩⟩
          refine ⟨_, _, rfl, rfl, ⟨by decide, by decide⟩, ?_⟩
          refine ⟨_, rfl, _, _, rfl, rfl, by omega, ?_⟩
          exact last seed' hs0 hs1 _ e5 ⟨_, _, hd5, by omega, h3⟩
      · -- draw[3] = ..
        refine ⟨_, rfl, d, _, 3, .int seed, rfl, rfl, L0, at3 .., ?_⟩
        refine ⟨_, _, rfl, rfl, .inl ⟨by omega, by omega⟩, ?_⟩
        refine ⟨_, _, rfl, rfl, .inl ⟨_, rfl, ?_⟩⟩
        refine ⟨_, _, rfl, rfl, by show (0 : Int) < 2147483647; decide, ?_⟩
        refine ⟨_, rfl, d, _, 3, 3, rfl, rfl, h1, rfl, ?_⟩
        have hs0 : 0 ≤ (seed * 48271 + 12345) % 2147483647 := Int.emod_nonneg _ (by decide)
        have hs1 : (seed * 48271 + 12345) % 2147483647 < 2147483647 := Int.emod_lt_of_pos _ (by decide)
        have e5 := fr H (.lst ([.ref c, .int pos, .int rest, .int seed].set 3 (.int ((seed * 48271 + 12345) % 2147483647)))) (fun _ _ => rfl)
        have hd5 : (upd H d (.lst ([.ref c, .int pos, .int rest, .int seed].set 3 (.int ((seed * 48271 + 12345) % 2147483647))))) d = some (.lst [.ref c, .int pos, .int rest, .int ((seed * 48271 + 12345) % 2147483647)]) := upd_same
        dsimp only
        generalize (seed * 48271 + 12345) % 2147483647 = seed' at hs0 hs1 e5 hd5 ⊢
        refine ⟨_, rfl, d, _, 3, .int seed', rfl, rfl, .of hd5, at3 .., ?_⟩
        refine ⟨_, _, rfl, rfl, .inl ⟨by omega, by omega⟩, ?_⟩
        refine ⟨_, _, rfl, rfl, by show (0 : Int) < 2147483629; decide, .inl ⟨_, rfl, ?_⟩⟩
        refine ⟨_, _, rfl, rfl, ⟨by decide, by decide⟩, ?_⟩
        refine ⟨_, rfl, _, _, rfl, rfl, by omega, ?_⟩
        exact last seed' hs0 hs1 _ e5 ⟨_, _, hd5, h0, h3⟩
end

/-! ### data in the heap -/
theorem SqT.ext {K : PySem.W.Frag} {H H' : Hp} {a : Addr} {xs : List V} (e : Same H H') (h : SqT K H a xs) : SqT K H' a xs := by
  rcases h with (h | ⟨o, h⟩) | h
  · exact .inl (.inl (e _ _ h))
  · exact .inl (.inr ⟨o, e _ _ h⟩)
  · exact .inr h
mutual
theorem Dp.ext {K : PySem.W.Frag} {H H' : Hp} (e : Same H H') : ∀ (d : PyData) (v : V), Dp K H v d → Dp K H' v d
  | .none, _, h => by cases h; exact .non
  | .bool b, _, h => by cases h; exact .bl b
  | .int i, _, h => by cases h; exact .int i
  | .str x, _, h => by cases h; exact .str x
  | .list ds, _, h => by
    cases h with
    | lst hs ha => exact .lst (e.seq hs) (DpAll.ext e ds _ ha)
  | .tuple ds, _, h => by
    cases h with
    | tup hs ha => exact .tup (SqT.ext e hs) (DpAll.ext e ds _ ha)
  | .dict _, _, h => by cases h
theorem DpAll.ext {K : PySem.W.Frag} {H H' : Hp} (e : Same H H') : ∀ (ds : List PyData) (vs : List V), DpAll K H vs ds → DpAll K H' vs ds
  | [], _, h => by cases h; exact .nil
  | d :: ds, _, h => by
    cases h with
    | cons h1 h2 => exact .cons (Dp.ext e d _ h1) (DpAll.ext e ds _ h2)
end
theorem DpAll.len {K : PySem.W.Frag} {H : Hp} : ∀ {ds : List PyData} {vs : List V}, DpAll K H vs ds → vs.length = ds.length
  | [], _, h => by cases h; rfl
  | d :: ds, _, h => by
    cases h with
    | cons h1 h2 => exact congrArg (· + 1) (DpAll.len h2)
theorem DpAll.get {K : PySem.W.Frag} {H : Hp} : ∀ {ds : List PyData} {vs : List V} {i : Nat} {d : PyData}, DpAll K H vs ds → ds[i]? = some d → ∃ v, vs[i]? = some v ∧ Dp K H v d
  | [], _, _, _, _, e => by simp at e
  | x :: ds, _, 0, d, h, e => by
    cases h with
    | cons h1 h2 =>
      have e1 : x = d := Option.some.inj e
      subst e1
      exact ⟨_, rfl, h1⟩
  | x :: ds, _, i + 1, d, h, e => by
    cases h with
    | cons h1 h2 =>
      obtain ⟨v, hv, hd⟩ := DpAll.get (i := i) h2 (by simpa using e)
      exact ⟨v, by simpa using hv, hd⟩
theorem tyL {K : PySem.W.Frag} {H : Hp} {a : Addr} {xs : List V} (h : SqL K H a xs) : TyX K H (.ref a) (.type "list") := by
  rcases h with (h | ⟨o, h⟩) | ⟨o, its, n, h, c, _⟩
  · exact .base (.lst h)
  · exact .base (.frz h)
  · exact .kList h c
theorem tyT {K : PySem.W.Frag} {H : Hp} {a : Addr} {xs : List V} (h : SqT K H a xs) : TyX K H (.ref a) (.type "tuple") := by
  rcases h with (h | ⟨o, h⟩) | ⟨o, its, n, h, c, _⟩
  · exact .base (.tup h)
  · exact .fTuple h
  · exact .kTuple h c
mutual
/-- no list within -/
def tupOnly : PyData → Bool
  | .list _ => false
  | .dict _ => false
  | .tuple ds => tupOnlys ds
  | _ => true
def tupOnlys : List PyData → Bool
  | [] => true
  | d :: ds => tupOnly d && tupOnlys ds
end
mutual
theorem Dp.away {K : PySem.W.Frag} {H : Hp} {D : Addr} {zs : List V} {o : HO} (hD : H D = some (.lst zs)) : ∀ (d : PyData) (v : V), tupOnly d = true → Dp K H v d → Dp K (upd H D o) v d
  | .none, _, _, h => by cases h; exact .non
  | .bool b, _, _, h => by cases h; exact .bl b
  | .int i, _, _, h => by cases h; exact .int i
  | .str x, _, _, h => by cases h; exact .str x
  | .list ds, _, e, _ => by unfold tupOnly at e; cases e
  | .tuple ds, _, e, h => by
    unfold tupOnly at e
    cases h with
    | @tup a _ _ hs ha =>
      refine .tup ?_ (DpAll.away hD ds _ e ha)
      rcases hs with (hs | ⟨o', hs⟩) | hs
      · exact .inl (.inl (by rw [upd_ne (ne_of hs hD (fun z => nomatch z))]; exact hs))
      · exact .inl (.inr ⟨o', by rw [upd_ne (ne_of hs hD (fun z => nomatch z))]; exact hs⟩)
      · exact .inr hs
  | .dict _, _, _, h => by cases h
theorem DpAll.away {K : PySem.W.Frag} {H : Hp} {D : Addr} {zs : List V} {o : HO} (hD : H D = some (.lst zs)) : ∀ (ds : List PyData) (vs : List V), tupOnlys ds = true → DpAll K H vs ds → DpAll K (upd H D o) vs ds
  | [], _, _, h => by cases h; exact .nil
  | d :: ds, _, e, h => by
    unfold tupOnlys at e
    rw [Bool.and_eq_true] at e
    cases h with
    | cons h1 h2 => exact .cons (Dp.away hD d _ e.1 h1) (DpAll.away hD ds _ e.2 h2)
end
theorem DpAll.snoc {K : PySem.W.Frag} {H : Hp} : ∀ {ds : List PyData} {xs : List V} {v : V} {d : PyData}, DpAll K H xs ds → Dp K H v d → DpAll K H (xs ++ [v]) (ds ++ [d])
  | [], _, _, _, h, h2 => by cases h; exact .cons h2 .nil
  | _ :: ds, _, _, _, h, h2 => by
    cases h with
    | cons a b => exact .cons a (DpAll.snoc b h2)
theorem at_0 {α : Type} {xs : List α} {i : Nat} {v : α} (h : xs[i]? = some v) : atI xs (0 + (i : Int)) = some v := by
  rw [Int.zero_add]
  exact atI_nat h
mutual
/-- what is made of tuples stands when another list is changed -/
theorem Dp.fd {K : PySem.W.Frag} {H H' : Hp} {D : Addr} (hD : ∃ zs, H D = some (.lst zs)) (e : Fd D H H') : ∀ (d : PyData) (v : V), tupOnly d = true → Dp K H v d → Dp K H' v d
  | .none, _, _, h => by cases h; exact .non
  | .bool b, _, _, h => by cases h; exact .bl b
  | .int i, _, _, h => by cases h; exact .int i
  | .str x, _, _, h => by cases h; exact .str x
  | .list ds, _, e, _ => by unfold tupOnly at e; cases e
  | .tuple ds, _, e', h => by
    unfold tupOnly at e'
    obtain ⟨zs, hz⟩ := hD
    cases h with
    | @tup a _ _ hs ha =>
      refine .tup ?_ (DpAll.fd ⟨zs, hz⟩ e ds _ e' ha)
      rcases hs with (hs | ⟨o', hs⟩) | hs
      · exact .inl (.inl (e _ _ (ne_of hs hz (fun z => nomatch z)) hs))
      · exact .inl (.inr ⟨o', e _ _ (ne_of hs hz (fun z => nomatch z)) hs⟩)
      · exact .inr hs
  | .dict _, _, _, h => by cases h
theorem DpAll.fd {K : PySem.W.Frag} {H H' : Hp} {D : Addr} (hD : ∃ zs, H D = some (.lst zs)) (e : Fd D H H') : ∀ (ds : List PyData) (vs : List V), tupOnlys ds = true → DpAll K H vs ds → DpAll K H' vs ds
  | [], _, _, h => by cases h; exact .nil
  | d :: ds, _, e', h => by
    unfold tupOnlys at e'
    rw [Bool.and_eq_true] at e'
    cases h with
    | cons h1 h2 => exact .cons (Dp.fd hD e d _ e'.1 h1) (DpAll.fd hD e ds _ e'.2 h2)
end

/-! ### data in which lists stand, and what may change beside them -/
mutual
inductive DpL (L : Addr → Prop) (K : PySem.W.Frag) (H : Hp) : V → PyData → Prop
  | non : DpL L K H .non .none
  | bl (b : Bool) : DpL L K H (.bl b) (.bool b)
  | int (i : Int) : DpL L K H (.int i) (.int i)
  | str (x : Str) : DpL L K H (.str x) (.str x)
  | lst {a : Addr} {xs : List V} {ds : List PyData} : L a → H a = some (.lst xs) → DpLs L K H xs ds → DpL L K H (.ref a) (.list ds)
  | tup {a : Addr} {xs : List V} {ds : List PyData} : SqT K H a xs → DpLs L K H xs ds → DpL L K H (.ref a) (.tuple ds)
inductive DpLs (L : Addr → Prop) (K : PySem.W.Frag) (H : Hp) : List V → List PyData → Prop
  | nil : DpLs L K H [] []
  | cons {v : V} {vs : List V} {d : PyData} {ds : List PyData} : DpL L K H v d → DpLs L K H vs ds → DpLs L K H (v :: vs) (d :: ds)
end
def Chg (L : Addr → Prop) (H H' : Hp) : Prop := ∀ b o, H b = some o → (∃ xs, o = .lst xs ∧ ¬ L b) ∨ (∃ C dx fs, o = .ins C dx fs) ∨ H' b = some o
section
variable {L L' : Addr → Prop} {K : PySem.W.Frag} {H H' : Hp}
theorem Chg.of (h : Same H H') : Chg L H H' := fun b o e => .inr (.inr (h b o e))
theorem Chg.fd {p : Addr} (hp : ∃ C dx fs, H p = some (.ins C dx fs)) (h : Fd p H H') : Chg L H H' := fun b o e => by
  by_cases n : b = p
  · subst n
    obtain ⟨C, dx, fs, hz⟩ := hp
    rw [hz] at e
    cases e
    exact .inr (.inl ⟨_, _, _, rfl⟩)
  · exact .inr (.inr (h b o n e))
theorem Chg.at {D : Addr} {zs : List V} {o : HO} (hD : H D = some (.lst zs)) (n : ¬ L D) : Chg L H (upd H D o) := fun b x e => by
  by_cases nb : b = D
  · subst nb
    rw [hD] at e
    cases e
    exact .inl ⟨_, rfl, n⟩
  · exact .inr (.inr (by rw [upd_ne nb]; exact e))
theorem Chg.tup {a : Addr} {xs : List V} (c : Chg L H H') (h : SqT K H a xs) : SqT K H' a xs := by
  rcases h with (h | ⟨o, h⟩) | h
  · rcases c _ _ h with ⟨_, z, _⟩ | ⟨_, _, _, z⟩ | h
    · cases z
    · cases z
    · exact .inl (.inl h)
  · rcases c _ _ h with ⟨_, z, _⟩ | ⟨_, _, _, z⟩ | h
    · cases z
    · cases z
    · exact .inl (.inr ⟨o, h⟩)
  · exact .inr h
mutual
theorem DpL.chg (c : Chg L H H') : ∀ (d : PyData) (v : V), DpL L K H v d → DpL L K H' v d
  | .none, _, h => by cases h; exact .non
  | .bool b, _, h => by cases h; exact .bl b
  | .int i, _, h => by cases h; exact .int i
  | .str x, _, h => by cases h; exact .str x
  | .list ds, _, h => by
    cases h with
    | lst hl hs ha =>
      refine .lst hl ?_ (DpLs.chg c ds _ ha)
      rcases c _ _ hs with ⟨_, _, z⟩ | ⟨_, _, _, z⟩ | h
      · exact absurd hl z
      · cases z
      · exact h
  | .tuple ds, _, h => by
    cases h with
    | tup hs ha => exact .tup (c.tup hs) (DpLs.chg c ds _ ha)
  | .dict _, _, h => by cases h
theorem DpLs.chg (c : Chg L H H') : ∀ (ds : List PyData) (vs : List V), DpLs L K H vs ds → DpLs L K H' vs ds
  | [], _, h => by cases h; exact .nil
  | d :: ds, _, h => by
    cases h with
    | cons h1 h2 => exact .cons (DpL.chg c d _ h1) (DpLs.chg c ds _ h2)
end
mutual
/-- the same under another L, as far as lists stand -/
theorem DpL.wide (w : ∀ a xs, H a = some (.lst xs) → L a → L' a) : ∀ (d : PyData) (v : V), DpL L K H v d → DpL L' K H v d
  | .none, _, h => by cases h; exact .non
  | .bool b, _, h => by cases h; exact .bl b
  | .int i, _, h => by cases h; exact .int i
  | .str x, _, h => by cases h; exact .str x
  | .list ds, _, h => by
    cases h with
    | lst hl hs ha => exact .lst (w _ _ hs hl) hs (DpLs.wide w ds _ ha)
  | .tuple ds, _, h => by
    cases h with
    | tup hs ha => exact .tup hs (DpLs.wide w ds _ ha)
  | .dict _, _, h => by cases h
theorem DpLs.wide (w : ∀ a xs, H a = some (.lst xs) → L a → L' a) : ∀ (ds : List PyData) (vs : List V), DpLs L K H vs ds → DpLs L' K H vs ds
  | [], _, h => by cases h; exact .nil
  | d :: ds, _, h => by
    cases h with
    | cons h1 h2 => exact .cons (DpL.wide w d _ h1) (DpLs.wide w ds _ h2)
end
mutual
theorem DpL.dp : ∀ (d : PyData) (v : V), DpL L K H v d → Dp K H v d
  | .none, _, h => by cases h; exact .non
  | .bool b, _, h => by cases h; exact .bl b
  | .int i, _, h => by cases h; exact .int i
  | .str x, _, h => by cases h; exact .str x
  | .list ds, _, h => by
    cases h with
    | lst _ hs ha => exact .lst (.of hs) (DpLs.dp ds _ ha)
  | .tuple ds, _, h => by
    cases h with
    | tup hs ha => exact .tup hs (DpLs.dp ds _ ha)
  | .dict _, _, h => by cases h
theorem DpLs.dp : ∀ (ds : List PyData) (vs : List V), DpLs L K H vs ds → DpAll K H vs ds
  | [], _, h => by cases h; exact .nil
  | d :: ds, _, h => by
    cases h with
    | cons h1 h2 => exact .cons (DpL.dp d _ h1) (DpLs.dp ds _ h2)
end
mutual
theorem Dp.toL : ∀ (d : PyData) (v : V), tupOnly d = true → Dp K H v d → DpL L K H v d
  | .none, _, _, h => by cases h; exact .non
  | .bool b, _, _, h => by cases h; exact .bl b
  | .int i, _, _, h => by cases h; exact .int i
  | .str x, _, _, h => by cases h; exact .str x
  | .list ds, _, e, _ => by unfold tupOnly at e; cases e
  | .tuple ds, _, e, h => by
    unfold tupOnly at e
    cases h with
    | tup hs ha => exact .tup hs (DpAll.toL ds _ e ha)
  | .dict _, _, _, h => by cases h
theorem DpAll.toL : ∀ (ds : List PyData) (vs : List V), tupOnlys ds = true → DpAll K H vs ds → DpLs L K H vs ds
  | [], _, _, h => by cases h; exact .nil
  | d :: ds, _, e, h => by
    unfold tupOnlys at e
    rw [Bool.and_eq_true] at e
    cases h with
    | cons h1 h2 => exact .cons (Dp.toL d _ e.1 h1) (DpAll.toL ds _ e.2 h2)
end
theorem DpLs.snoc : ∀ {ds : List PyData} {xs : List V} {v : V} {d : PyData}, DpLs L K H xs ds → DpL L K H v d → DpLs L K H (xs ++ [v]) (ds ++ [d])
  | [], _, _, _, h, h2 => by cases h; exact .cons h2 .nil
  | _ :: ds, _, _, _, h, h2 => by
    cases h with
    | cons a b => exact .cons a (DpLs.snoc b h2)
theorem DpLs.len : ∀ {ds : List PyData} {vs : List V}, DpLs L K H vs ds → vs.length = ds.length
  | [], _, h => by cases h; rfl
  | d :: ds, _, h => by
    cases h with
    | cons h1 h2 => exact congrArg (· + 1) (DpLs.len h2)
end

/-! ### x in l of data -/
theorem hu65 {k : Nat} {A : Around} (hr : Room k A) : A.units + 65 < cLine := by have := hr.un; omega
theorem inDK {X : Cx} (K : PySem.W.Frag) (hu : X.A.units + 65 < cLine) (h : X.K = K := by rfl) : OpR X (compareOp .In) (rInD K) := by subst h; exact op_inD hu
theorem notInDK {X : Cx} (K : PySem.W.Frag) (hu : X.A.units + 65 < cLine) (h : X.K = K := by rfl) : OpR X (compareOp .NotIn) (rNotInD K) := by subst h; exact op_notInD hu

/-! ### lists of numbers and of truth values as data -/
theorem dpa_map {K : PySem.W.Frag} {H : Hp} {α : Type} (f : α → V) (g : α → PyData) (h : ∀ a, Dp K H (f a) (g a)) : ∀ l : List α, DpAll K H (l.map f) (l.map g)
  | [] => .nil
  | a :: l => .cons (h a) (dpa_map f g h l)
theorem dp_ints {K : PySem.W.Frag} {H : Hp} {a : Addr} {ps : List Int} (h : SqL K H a (ps.map V.int)) : Dp K H (.ref a) (.list (ps.map PyData.int)) := .lst h (dpa_map _ _ (fun i => .int i) ps)
theorem dp_bls {K : PySem.W.Frag} {H : Hp} {a : Addr} {ps : List Bool} (h : SqL K H a (ps.map V.bl)) : Dp K H (.ref a) (.list (ps.map PyData.bool)) := .lst h (dpa_map _ _ (fun i => .bl i) ps)
theorem flat_shaped {α : Type} (g : α → PyData) (h1 : ∀ a, PyData.canLay0 (g a) = true) (h2 : ∀ a, PyData.depth (g a) = 0) (l : List α) : SeqAt.shaped (.list (l.map g)) = true := by
  have e1 : PyData.canLayAll0 (l.map g) = true := by
    induction l with
    | nil => rfl
    | cons x xs ih =>
      rw [List.map_cons]
      unfold PyData.canLayAll0
      rw [ih, h1]
      rfl
  have e2 : PyData.depthAll (l.map g) = 0 := by
    clear e1
    induction l with
    | nil => rfl
    | cons x xs ih =>
      rw [List.map_cons]
      unfold PyData.depthAll
      rw [ih, h2]
      rfl
  unfold SeqAt.shaped
  rw [Bool.and_eq_true]
  refine ⟨by unfold PyData.canLay0; exact e1, decide_eq_true ?_⟩
  unfold PyData.depth
  omega
theorem ints_shaped (l : List Int) : SeqAt.shaped (.list (l.map PyData.int)) = true := flat_shaped _ (fun _ => rfl) (fun _ => rfl) l
theorem bls_shaped (l : List Bool) : SeqAt.shaped (.list (l.map PyData.bool)) = true := flat_shaped _ (fun _ => rfl) (fun _ => rfl) l
theorem ints_eqv (l : List Int) : PyData.eqv (.list (l.map PyData.int)) (.list (l.map PyData.int)) = true := SeqAt.eqv_refl _ (SeqAt.canLay_of_shaped (ints_shaped l))
theorem andV {c b : Bool} {i : Nat} {σ : L2.St} {H : Hp} {Q : VK} (hs : σ[i]? = some (some (.bl b))) (h : Q (.bl (c && b)) H) : if c = true then tVar i σ H Q else Q (.bl false) H := by
  cases c with
  | true => exact iteT ⟨_, hs, h⟩
  | false => exact iteF h
theorem orV {c b : Bool} {i : Nat} {σ : L2.St} {H : Hp} {Q : VK} (hs : σ[i]? = some (some (.bl b))) (h : Q (.bl (c || b)) H) : if c = true then Q (.bl true) H else tVar i σ H Q := by
  cases c with
  | true => exact iteT h
  | false => exact iteF ⟨_, hs, h⟩
theorem bne_dec (a b : Bool) : (!decide (V.bl a = V.bl b)) = bne a b := by cases a <;> cases b <;> rfl
theorem lay_all : ∀ {ds : List PyData}, (∀ d ∈ ds, d.canLay0 = true ∧ d.depth ≤ 40) → PyData.canLayAll0 ds = true ∧ PyData.depthAll ds ≤ 40
  | [], _ => ⟨rfl, by show 0 ≤ 40; omega⟩
  | d :: ds, h => by
    obtain ⟨h1, h2⟩ := lay_all (ds := ds) fun x hx => h x (List.mem_cons_of_mem _ hx)
    obtain ⟨g1, g2⟩ := h d List.mem_cons_self
    exact ⟨by unfold PyData.canLayAll0; rw [g1, h1]; rfl, by unfold PyData.depthAll; omega⟩
theorem shaped_list {ds : List PyData} (h : ∀ d ∈ ds, d.canLay0 = true ∧ d.depth ≤ 40) : SeqAt.shaped (.list ds) = true := by
  obtain ⟨h1, h2⟩ := lay_all h
  unfold SeqAt.shaped
  rw [Bool.and_eq_true]
  refine ⟨by unfold PyData.canLay0; exact h1, decide_eq_true (by unfold PyData.depth; omega)⟩
theorem shaped_one {d : PyData} (h : d.canLay0 = true ∧ d.depth ≤ 40) : SeqAt.shaped d = true := by
  unfold SeqAt.shaped
  rw [Bool.and_eq_true]
  exact ⟨h.1, decide_eq_true (by omega)⟩

/-! ### two data that are the same -/
/-- data of some depth, their lists not too long -/
inductive Sh : Nat → PyData → Prop
  | non {n : Nat} : Sh n .none
  | bl {n : Nat} (b : Bool) : Sh n (.bool b)
  | int {n : Nat} (i : Int) : Sh n (.int i)
  | str {n : Nat} (x : Str) : Sh n (.str x)
  | lst {n : Nat} {ds : List PyData} (l : ds.length ≤ 100000) (h : ∀ d ∈ ds, Sh n d) : Sh (n + 1) (.list ds)
  | tup {n : Nat} {ds : List PyData} (l : ds.length ≤ 100000) (h : ∀ d ∈ ds, Sh n d) : Sh (n + 1) (.tuple ds)
def tnm : PyData → String
  | .none => "NoneType"
  | .bool _ => "bool"
  | .int _ => "int"
  | .str _ => "str"
  | .list _ => "list"
  | .tuple _ => "tuple"
  | .dict _ => "dict"
theorem tyD {K : PySem.W.Frag} {H : Hp} {v : V} {d : PyData} (h : Dp K H v d) : TyX K H v (.type (tnm d)) := by
  cases h with
  | non => exact .base .non
  | bl b => exact .base (.bl b)
  | int i => exact .base (.int i)
  | str x => exact .base (.str x)
  | lst hs _ => exact tyL hs
  | tup hs _ => exact tyT hs
theorem k_any2 {K : PySem.W.Frag} {tn c1 c2 : String} {r1 r2 : Bool} (h1 : kitB tn c1 = some r1) (h2 : kitB tn c2 = some r2) : PySem.W.kitAny K (.type tn) [.type c1, .type c2] = some (r1 || r2) :=
  kitAny_cons (kit_ty h1) (fun e => by
    rw [e, Bool.false_or]
    exact kitAny_cons (b := r2) (kit_ty h2) (fun e2 => by rw [e2]; exact kitAny_nil) (fun e2 => e2)) (fun e => by rw [e, Bool.true_or])
theorem rep_bl (n : Nat) : (List.replicate n true).all id = true := by
  rw [List.all_replicate]
  simp
def sp_same (K : PySem.W.Frag) (n : Nat) : Sp := fun vs H Q _ => ∃ (x y : V) (D : PyData) (m : Nat), n = m + 1 ∧ vs = [x, y] ∧ Sh m D ∧ Dp K H x D ∧ Dp K H y D ∧ ∀ H', Same H H' → Q (.bl true) H'
section
variable {P : Program} {w : World} {K : PySem.W.Frag} {mg : Str → Option Value} {base : Heap}
theorem ok_same {f : Addr} {fd : FuncData} {n l : Nat} (F : Fun K "_law_same" "_law_same" s__law_same f fd) (M : Mg mg) (c__law_same : Cl P w K mg base l "_law_same" (sp_same K n)) : FnOk P w K mg base CX0 (l + 1) f fd ["actual", "due"] (sp_same K (n + 1)) := by
  refine F.ok sc__law_same (fun vs H Q E h => ?_) (fun cdv A outer s H vs Q E hr h => ?_)
  · obtain ⟨x, y, D, m, _, rfl, _⟩ := h
    rfl
  · obtain ⟨x, y, D, m, em, rfl, sh, hx, hy, q⟩ := h
    refine ⟨_, (pss_cons (ps_if (pt_val (pe_callB (isiTK K) (by rfl) M.isinstance (by decide +kernel) (pa_cons (pv 1) (pa_cons (pe_tup (pa_cons (pe_bltn (v := .ty "list") (by rfl) M.list (by decide +kernel) rfl) (pa_cons (pe_bltn (v := .ty "tuple") (by rfl) M.tuple (by decide +kernel) rfl) pa_nil))) pa_nil)))) (pss_cons (ps_if (PW.pt (pw_or (pt_cmpR op_ne (pe_callB (isiK K) (by rfl) M.isinstance (by decide +kernel) (pa_cons (pv 1) (pa_cons (pe_bltn (v := .ty "list") (by rfl) M.list (by decide +kernel) rfl) pa_nil))) (pe_callB (isiK K) (by rfl) M.isinstance (by decide +kernel) (pa_cons (pv 0) (pa_cons (pe_bltn (v := .ty "list") (by rfl) M.list (by decide +kernel) rfl) pa_nil))) (nomark _)) (pw_or1 (pt_cmpR op_ne (pe_callB (isiK K) (by rfl) M.isinstance (by decide +kernel) (pa_cons (pv 1) (pa_cons (pe_bltn (v := .ty "tuple") (by rfl) M.tuple (by decide +kernel) rfl) pa_nil))) (pe_callB (isiK K) (by rfl) M.isinstance (by decide +kernel) (pa_cons (pv 0) (pa_cons (pe_bltn (v := .ty "tuple") (by rfl) M.tuple (by decide +kernel) rfl) pa_nil))) (nomark _))))) (pss_one (ps_ret pe_bl)) pss_nil)
      (pss_cons (ps_if (pt_cmpR op_ne (pe_callB (len_seqK K) (by rfl) M.len PySem.boot_len (pa_cons (pv 0) pa_nil)) (pe_callB (len_seqK K) (by rfl) M.len PySem.boot_len (pa_cons (pv 1) pa_nil)) (nomark _)) (pss_one (ps_ret pe_bl)) pss_nil)
      (pss_one (ps_ret (pe_callB (allK K rfl) (by rfl) M.all (by decide +kernel) (pa_cons (pe_lc (own := [("k", 2)]) (g := gName 2) (tt := tYes) rfl sc__law_same.nd (pi_range1 (by rfl) M.range (pa_cons (pe_callB (len_seqK K) (by rfl) M.len PySem.boot_len (pa_cons (pv 1) pa_nil)) pa_nil)) (blkOk_by (N := N__law_same) (sc := defScope s__law_same) (by decide +kernel)) (fun _ _ _ _ _ => (pg_name (i := 2) sc__law_same.nd rfl (.inl rfl))) (fun _ _ _ _ _ => pts_nil) (fun _ _ _ _ _ => (pe_u c__law_same hr (by first | decide | omega) (by rfl) (pa_cons (pe_ix (ix_seqK K) (pv 0) (pv 2) (fun _ _ => rfl)) (pa_cons (pe_ix (ix_seqK K) (pv 1) (pv 2) (fun _ _ => rfl)) pa_nil))))) pa_nil)))))) pss_nil)
      (pss_cons (ps_if (pt_cmpR op_isN (pv 1) pe_non (nomark _)) (pss_one (ps_ret (pe_cmpR op_isN (pv 0) pe_non (nomark _)))) pss_nil)
      (pss_cons (ps_if (pt_cmpR op_ne (pe_callB (isiK K) (by rfl) M.isinstance (by decide +kernel) (pa_cons (pv 1) (pa_cons (pe_bltn (v := .ty "bool") (by rfl) M.bool (by decide +kernel) rfl) pa_nil))) (pe_callB (isiK K) (by rfl) M.isinstance (by decide +kernel) (pa_cons (pv 0) (pa_cons (pe_bltn (v := .ty "bool") (by rfl) M.bool (by decide +kernel) rfl) pa_nil))) (nomark _)) (pss_one (ps_ret pe_bl)) pss_nil)
      (pss_cons (ps_if (pt_val (pe_callB (isiK K) (by rfl) M.isinstance (by decide +kernel) (pa_cons (pv 1) (pa_cons (pe_bltn (v := .ty "str") (by rfl) M.str (by decide +kernel) rfl) pa_nil)))) (pss_one (ps_ret (pe_and (pe_callB (isiK K) (by rfl) M.isinstance (by decide +kernel) (pa_cons (pv 0) (pa_cons (pe_bltn (v := .ty "str") (by rfl) M.str (by decide +kernel) rfl) pa_nil))) (pe_one (pe_cmpR op_eq (pv 0) (pv 1) (nomark _)))))) pss_nil)
      (pss_one (ps_ret (pe_and (pe_callB (isiK K) (by rfl) M.isinstance (by decide +kernel) (pa_cons (pv 0) (pa_cons (pe_bltn (v := .ty "int") (by rfl) M.int (by decide +kernel) rfl) pa_nil))) (pe_one (pe_cmpR op_eq (pv 0) (pv 1) (nomark _)))))))))), ?_⟩
    refine ⟨_, rfl, by show 2 ≤ sizeLine; decide, fun p np => ?_⟩
    have s1 : Same H (upd H p (.tup [.ty "list", .ty "tuple"])) := same_upd np
    have h1 : (upd H p (.tup [.ty "list", .ty "tuple"])) p = some (.tup [.ty "list", .ty "tuple"]) := upd_same
    generalize upd H p (.tup [.ty "list", .ty "tuple"]) = H1 at s1 h1
    have hx1 := Dp.ext s1 D x hx
    have hy1 := Dp.ext s1 D y hy
    have key : (∃ (a b : Addr) (xs ys : List V) (ds : List PyData) (k : Nat) (tn : String) (r1 r2 : Bool), x = .ref a ∧ y = .ref b ∧ (SqL K H1 a xs ∧ SqL K H1 b ys ∨ SqT K H1 a xs ∧ SqT K H1 b ys) ∧ DpAll K H1 xs ds ∧ DpAll K H1 ys ds ∧ ds.length ≤ 100000 ∧ m = k + 1 ∧ (∀ d ∈ ds, Sh k d) ∧
        TyX K H1 x (.type tn) ∧ TyX K H1 y (.type tn) ∧ kitB tn "list" = some r1 ∧ kitB tn "tuple" = some r2 ∧ (r1 || r2) = true) ∨
        (∃ (tn : String), TyX K H1 x (.type tn) ∧ TyX K H1 y (.type tn) ∧ kitB tn "list" = some false ∧ kitB tn "tuple" = some false ∧ (x = .non ∧ y = .non ∨ (∃ b, x = .bl b ∧ y = .bl b ∧ tn = "bool") ∨ (∃ i, x = .int i ∧ y = .int i ∧ tn = "int") ∨ (∃ z, x = .str z ∧ y = .str z ∧ tn = "str"))) := by
      cases sh with
      | non => cases hx1; cases hy1; exact .inr ⟨"NoneType", .base .non, .base .non, by decide +kernel, by decide +kernel, .inl ⟨rfl, rfl⟩⟩
      | bl b => cases hx1; cases hy1; exact .inr ⟨"bool", .base (.bl b), .base (.bl b), by decide +kernel, by decide +kernel, .inr (.inl ⟨b, rfl, rfl, rfl⟩)⟩
      | int i => cases hx1; cases hy1; exact .inr ⟨"int", .base (.int i), .base (.int i), by decide +kernel, by decide +kernel, .inr (.inr (.inl ⟨i, rfl, rfl, rfl⟩))⟩
      | str z => cases hx1; cases hy1; exact .inr ⟨"str", .base (.str z), .base (.str z), by decide +kernel, by decide +kernel, .inr (.inr (.inr ⟨z, rfl, rfl, rfl⟩))⟩
      | lst l h =>
        cases hx1 with
        | lst hs ha =>
          cases hy1 with
          | lst hs' ha' => exact .inl ⟨_, _, _, _, _, _, "list", true, false, rfl, rfl, .inl ⟨hs, hs'⟩, ha, ha', l, rfl, h, tyL hs, tyL hs', by decide +kernel, by decide +kernel, rfl⟩
      | tup l h =>
        cases hx1 with
        | tup hs ha =>
          cases hy1 with
          | tup hs' ha' => exact .inl ⟨_, _, _, _, _, _, "tuple", false, true, rfl, rfl, .inr ⟨hs, hs'⟩, ha, ha', l, rfl, h, tyT hs, tyT hs', by decide +kernel, by decide +kernel, rfl⟩
    rcases key with ⟨a, b, xs, ys, ds, k, tn, r1, r2, rfl, rfl, hq, ha, hb, hl, ek, hk, tx, ty, k1, k2, kr⟩ | ⟨tn, tx, ty, k1, k2, hs⟩
    · -- a list or a tuple
      have ex := DpAll.len ha
      have ey := DpAll.len hb
      have hqa : SqL K H1 a xs ∨ SqT K H1 a xs := hq.elim (fun z => .inl z.1) (fun z => .inr z.1)
      have hqb : SqL K H1 b ys ∨ SqT K H1 b ys := hq.elim (fun z => .inl z.2) (fun z => .inr z.2)
      refine ⟨_, _, _, _, _, _, rfl, h1, .cons (.ty _) (.cons (.ty _) .nil), ty, k_any2 k1 k2, ?_⟩
      refine ⟨_, rfl, ?_⟩
      rw [kr]
      refine iteT ?_
      -- the kinds
      refine ⟨_, rfl, ⟨_, _, _, _, _, rfl, .ty _, ty, kit_ty k1, _, rfl, ⟨_, _, _, _, _, rfl, .ty _, tx, kit_ty k1, rfl, _, rfl, ?_⟩⟩⟩
      rw [decide_eq_true (rfl : V.bl r1 = V.bl r1)]
      refine iteF ?_
      refine ⟨_, rfl, ⟨_, _, _, _, _, rfl, .ty _, ty, kit_ty k2, _, rfl, ⟨_, _, _, _, _, rfl, .ty _, tx, kit_ty k2, rfl, _, rfl, ?_⟩⟩⟩
      rw [decide_eq_true (rfl : V.bl r2 = V.bl r2)]
      refine iteF ?_
      -- the lengths
      refine ⟨_, rfl, a, xs, rfl, hqa, ⟨_, rfl, b, ys, rfl, hqb, rfl, _, rfl, ?_⟩⟩
      rw [ex, ey, decide_eq_true (rfl : V.int (ds.length : Int) = V.int (ds.length : Int))]
      refine iteF ?_
      -- by places
      refine ⟨_, rfl, b, ys, rfl, hqb, _, rfl, by omega, by omega, fun D nD => ?_⟩
      rw [ey]
      refine lc_range (lo := 0) (n := ((ds.length : Nat) : Int).toNat) (fun i Hi => Same H1 Hi ∧ Hi D = some (.lst ((List.replicate i true).map V.bl))) ⟨same_upd nD, upd_same⟩ (fun i Hi hi hp => ?_) (fun Hn hp => ?_)
      · obtain ⟨si, eD⟩ := hp
        have hi2 : i < ds.length := by omega
        obtain ⟨va, hva, da⟩ := DpAll.get (DpAll.ext si ds xs ha) (List.getElem?_eq_getElem hi2)
        obtain ⟨vb, hvb, db⟩ := DpAll.get (DpAll.ext si ds ys hb) (List.getElem?_eq_getElem hi2)
        have ia : rIx K (.ref a) (.int (0 + (i : Int))) Hi = rIx K (.ref a) (.int (0 + (i : Int))) Hi := rfl
        refine ⟨rfl, ?_⟩
        have go : ∀ (c : Addr) (zs : List V) (v : V) (Q : VK), (SqL K H1 c zs ∨ SqT K H1 c zs) → zs[i]? = some v → Q v Hi → rIx K (.ref c) (.int (0 + (i : Int))) Hi Q := fun c zs v Q hz hv hQ => by
          rcases hz with hz | hz
          · exact .inl ⟨c, zs, _, v, rfl, rfl, si.seq hz, at_0 hv, hQ⟩
          · exact .inr (.inl ⟨c, zs, _, v, rfl, rfl, SqT.ext si hz, at_0 hv, hQ⟩)
        refine ⟨_, rfl, _, rfl, go a xs va _ hqa hva ⟨_, rfl, _, rfl, go b ys vb _ hqb hvb ?_⟩⟩
        refine ⟨va, vb, ds[i], k, by omega, rfl, hk _ (List.getElem_mem hi2), da, db, fun H' s' => ?_⟩
        refine ⟨_, s' _ _ eD, ?_, fun b o e => ?_, ?_⟩
        · rw [List.length_map, List.length_replicate]
          exact Nat.lt_of_lt_of_le (m := 100000) (by omega) (by decide)
        · have nb : b ≠ D := ne_of_none e nD
          rw [upd_ne nb]
          exact s' _ _ (si _ _ e)
        · rw [upd_same, List.replicate_succ', List.map_append]
          rfl
      · obtain ⟨si, eD⟩ := hp
        refine ⟨D, _, rfl, .of eD, ?_⟩
        rw [rep_bl]
        exact q _ (s1.trans si)
    · -- neither
      refine ⟨_, _, _, _, _, _, rfl, h1, .cons (.ty _) (.cons (.ty _) .nil), ty, k_any2 k1 k2, ?_⟩
      refine ⟨_, rfl, iteF ?_⟩
      rcases hs with ⟨rfl, rfl⟩ | ⟨b, rfl, rfl, rfl⟩ | ⟨i, rfl, rfl, rfl⟩ | ⟨z, rfl, rfl, rfl⟩
      · -- None
        refine ⟨_, rfl, rfl, _, rfl, iteT ?_⟩
        refine ⟨_, rfl, rfl, ?_⟩
        exact q _ s1
      · refine ⟨_, rfl, rfl, _, rfl, iteF ?_⟩
        refine ⟨_, rfl, ⟨_, _, _, _, _, rfl, .ty _, ty, kit_ty (show kitB _ _ = some true by decide +kernel), _, rfl, ⟨_, _, _, _, _, rfl, .ty _, tx, kit_ty (show kitB _ _ = some true by decide +kernel), rfl, _, rfl, iteF ?_⟩⟩⟩
        refine ⟨_, rfl, ⟨_, _, _, _, _, rfl, .ty _, ty, kit_ty (show kitB _ _ = some false by decide +kernel), _, rfl, iteF ?_⟩⟩
        refine ⟨_, rfl, ⟨_, _, _, _, _, rfl, .ty _, tx, kit_ty (show kitB _ _ = some true by decide +kernel), _, rfl, iteT ?_⟩⟩
        refine ⟨_, rfl, _, rfl, by cases b <;> rfl, ?_⟩
        rw [decide_eq_true (rfl : V.bl b = V.bl b)]
        exact q _ s1
      · refine ⟨_, rfl, rfl, _, rfl, iteF ?_⟩
        refine ⟨_, rfl, ⟨_, _, _, _, _, rfl, .ty _, ty, kit_ty (show kitB _ _ = some false by decide +kernel), _, rfl, ⟨_, _, _, _, _, rfl, .ty _, tx, kit_ty (show kitB _ _ = some false by decide +kernel), rfl, _, rfl, iteF ?_⟩⟩⟩
        refine ⟨_, rfl, ⟨_, _, _, _, _, rfl, .ty _, ty, kit_ty (show kitB _ _ = some false by decide +kernel), _, rfl, iteF ?_⟩⟩
        refine ⟨_, rfl, ⟨_, _, _, _, _, rfl, .ty _, tx, kit_ty (show kitB _ _ = some true by decide +kernel), _, rfl, iteT ?_⟩⟩
        refine ⟨_, rfl, _, rfl, rfl, ?_⟩
        rw [decide_eq_true (rfl : V.int i = V.int i)]
        exact q _ s1
      · refine ⟨_, rfl, rfl, _, rfl, iteF ?_⟩
        refine ⟨_, rfl, ⟨_, _, _, _, _, rfl, .ty _, ty, kit_ty (show kitB _ _ = some false by decide +kernel), _, rfl, ⟨_, _, _, _, _, rfl, .ty _, tx, kit_ty (show kitB _ _ = some false by decide +kernel), rfl, _, rfl, iteF ?_⟩⟩⟩
        refine ⟨_, rfl, ⟨_, _, _, _, _, rfl, .ty _, ty, kit_ty (show kitB _ _ = some true by decide +kernel), _, rfl, iteT ?_⟩⟩
        refine ⟨_, rfl, ⟨_, _, _, _, _, rfl, .ty _, tx, kit_ty (show kitB _ _ = some true by decide +kernel), _, rfl, iteT ?_⟩⟩
        refine ⟨_, rfl, _, rfl, rfl, ?_⟩
        rw [decide_eq_true (rfl : V.str z = V.str z)]
        exact q _ s1
/-- no data at all: where the recursion ends -/
theorem ok_same0 {f : Addr} {fd : FuncData} (F : Fun K "_law_same" "_law_same" s__law_same f fd) : FnOk P w K mg base CX0 1 f fd ["actual", "due"] (sp_same K 0) := by
  refine F.ok sc__law_same (fun vs H Q E h => ?_) (fun cdv A outer s H vs Q E hr h => ?_)
  · obtain ⟨x, y, D, m, e, _⟩ := h
    exact absurd e (by omega)
  · obtain ⟨x, y, D, m, e, _⟩ := h
    exact absurd e (by omega)
/-- of any depth -/
theorem cl_same {f : Addr} {fd : FuncData} (F : Fun K "_law_same" "_law_same" s__law_same f fd) (M : Mg mg) (g : mg "_law_same" = some (.ref f)) (b : Binds K fd ["actual", "due"] []) : ∀ n : Nat, Cl P w K mg base (n + 1) "_law_same" (sp_same K n)
  | 0 => FnOk.cl (ok_same0 F) F g b
  | n + 1 => FnOk.cl (ok_same F M (cl_same F M g b n)) F g b
end

/-! ### a name set to a dict by comprehension, on one line -/
section
variable {X : Cx}
theorem ps_setDc {i : Nat} {y : Str} {py : Pos} {kx vx tg iter : Expr} {ifs : List Expr} {scope : Scope} {own : List (Str × Nat)} {pos spos : Pos} {wi : TI} {g : TG} {tt : TT} {tk tv : TE} (hc : X.calm = true) (hN : X.N.Nodup) (hy : X.N[i]? = some y) (hyl : X.env.scope.names.lookup y = some .local)
    (hsw : swapsWith (.DictComp kx vx [⟨tg, iter, ifs, 0⟩] scope pos) (some (.Name y py)) spos.line X.env = pure true) (hi : PI X tg iter wi) (ok : BlkOk X.N X.env.scope scope own)
    (hg : ∀ (s : Shared) (H : Hp) (C : Addr) (cl : List (Str × Addr)) (fp : List Addr), PG (X.blk s H scope (compEnvC scope cl C X.env) fp) tg g) (ht : ∀ (s : Shared) (H : Hp) (C : Addr) (cl : List (Str × Addr)) (fp : List Addr), PTs (X.blk s H scope (compEnvC scope cl C X.env) fp) ifs tt)
    (hk : ∀ (s : Shared) (H : Hp) (C : Addr) (cl : List (Str × Addr)) (fp : List Addr), PE (X.blk s H scope (compEnvC scope cl C X.env) fp) kx tk)
    (he : ∀ (s : Shared) (H : Hp) (C : Addr) (cl : List (Str × Addr)) (fp : List Addr), PE (X.blk s H scope (compEnvC scope cl C X.env) fp) vx tv) (hs : ∀ x, foldedSetIterable iter X.env x = pure x := by intro _; rfl) :
    PS X (.Assign [.Name y py] (.DictComp kx vx [⟨tg, iter, ifs, 0⟩] scope pos) spos) (tAsg (tDc wi g tt tk tv (own.map (·.2))) (gName i)) := by
  refine ⟨fun pins s σ H D I h => ?_⟩
  rw [exec_Assign_Name_used _ _ _ _ hsw]
  refine wpAny_bind (wpAny_standAt (wpAny_bind ?_))
  show wpAny _ X.A (do let _ ← comprehension (.DictComp kx vx [⟨tg, iter, ifs, 0⟩] scope pos) scope X.env (firstIterPos [⟨tg, iter, ifs, 0⟩] pos) newDict false (eval iter X.env) (some (assign (.Name y py) X.env))) _ _ s
  have h : tDc wi g tt tk tv (own.map (·.2)) σ H (fun x H1 => gName i x σ H1 D.nx) := h
  refine wpAny_bind (thn (dc_core (Qf := fun _ s' => SP X pins D .next s') hc hN I hi ok hg ht hk he hs h fun L C s' m H' I' q hn f => ?_) fun _ s' hq => wpAny_pure (wpAny_pure hq))
  show wpAny _ _ (assign (.Name y py) X.env (.ref L)) _ _ _
  refine wpAny_assign_Name (store_ok2 (v := V.ref L) I' hN hy (.inl hyl) rfl (fun s2 I2 ⟨a, sb, ha⟩ => ?_) (.inr hyl))
  obtain ⟨f0, f1, f2, f3, f4, f5⟩ := f
  have haC : C ≠ a := by
    rcases ha with z | z
    · rw [z]; exact f1
    · exact fun e => f4 y a z e.symm
  refine ⟨m, hn.sameBut sb haC, fun h3 sb3 => ?_⟩
  exact ⟨_, H', I2.turned (t' := s2.toks) (fun b o hb e => (sb3.2 b hb).trans e) f0 f1 f3 f4 f5, q⟩
theorem sw_trueD {kx vx : Expr} {gs : List Comprehension} {scope : Scope} {pos py : Pos} {y : Str} {l : Nat} {env : Env} (hk : env.scope.kind = .function) (hy : env.scope.names.lookup y = some .local) (hl : (py.line == pos.line) = true)
    (ha : (scope.names.any fun (n, k) => n == y && (k == .local || k == .cell)) = false) : swapsWith (.DictComp kx vx gs scope pos) (some (.Name y py)) l env = pure true := by
  have ky : env.kindOf y = some .local := hy
  have hb : env.blockKind = .function := by unfold Env.blockKind; rw [hk]; rfl
  unfold swapsWith
  simp only [hb, ky, ha, Expr.pos, hl]
  rfl
end

/-! ### the operations of the plans of k29 -/
theorem pe_notTK {X : Cx} (K : PySem.W.Frag) {a : Expr} {ta : TE} {pos : Pos} (ha : PE X a ta) (h : X.K = K := by rfl) : PE X (.UnaryOp .Not a pos) (tNotT K ta) := by subst h; exact pe_notT ha
theorem sortedK {X : Cx} (K : PySem.W.Frag) (h : X.K = K := by rfl) : CallR X (.builtin "sorted") (rSortedI K) := by subst h; exact cr_sortedI
inductive Op where
  | step (i : Nat)
  | table (i : Nat)
  | group (ks ts : List PyData) (f : Int)
  | other (b : Bool) (w : Str) (r : List PyData)
def Op.d : Op → PyData
  | .step i => .tuple [.str "step", .int (i : Nat)]
  | .table i => .tuple [.str "table", .int (i : Nat)]
  | .group ks ts f => .tuple [.str "group", .list ks, .list ts, .int f]
  | .other _ w r => .tuple (.str w :: r)
def Op.up (fs : List Bool) : Op → Bool
  | .step i => !(fs.getD i false)
  | .table _ => false
  | .group ks ts _ => decide (0 < ts.length) || ks.isEmpty
  | .other b _ _ => b
def WdOk (b : Bool) (w : Str) : Prop := (b = false ∧ (w = "map" ∨ w = "filter" ∨ w = "union" ∨ w = "join")) ∨ (b = true ∧ (w = "minus" ∨ w = "anti"))
theorem WdOk.facts {b : Bool} {w : Str} (h : WdOk b w) : decide (V.str w = V.str "step") = false ∧ decide (V.str w = V.str "group") = false ∧ decide (V.str w = V.str "table") = false ∧ inV (.str w) [.str "minus", .str "anti"] = b ∧ (w == ("table" : Str)) = false ∧ (w == ("step" : Str)) = false := by
  rcases h with ⟨rfl, rfl | rfl | rfl | rfl⟩ | ⟨rfl, rfl | rfl⟩ <;> exact ⟨by decide +kernel, by decide +kernel, by decide +kernel, by decide +kernel, by decide +kernel, by decide +kernel⟩
def Op.ok (n : Nat) (o : Op) : Prop := (o.d.canLay0 = true ∧ o.d.depth ≤ 40) ∧ match o with
  | .step i => i < n
  | .table i => i < 2
  | .group ks ts _ => ks.length ≤ 100 ∧ ts.length ≤ 100
  | .other b w _ => WdOk b w
theorem Op.ok.mono {n m : Nat} {o : Op} (h : o.ok n) (l : n ≤ m) : o.ok m := by
  refine ⟨h.1, ?_⟩
  have h2 := h.2
  cases o with
  | step i => exact Nat.lt_of_lt_of_le h2 l
  | table i => exact h2
  | group ks ts f => exact h2
  | other b w r => exact h2
/-- the values of a tuple's data -/
theorem Dp.tupI {K : PySem.W.Frag} {H : Hp} {v : V} {ds : List PyData} (h : Dp K H v (.tuple ds)) : ∃ p xs, v = .ref p ∧ SqT K H p xs ∧ DpAll K H xs ds := by
  cases h with
  | tup h1 h2 => exact ⟨_, _, rfl, h1, h2⟩
theorem Dp.lstI {K : PySem.W.Frag} {H : Hp} {v : V} {ds : List PyData} (h : Dp K H v (.list ds)) : ∃ p xs, v = .ref p ∧ SqL K H p xs ∧ DpAll K H xs ds := by
  cases h with
  | lst h1 h2 => exact ⟨_, _, rfl, h1, h2⟩
theorem Dp.strI {K : PySem.W.Frag} {H : Hp} {v : V} {x : Str} (h : Dp K H v (.str x)) : v = .str x := by
  cases h
  rfl
theorem Dp.intI {K : PySem.W.Frag} {H : Hp} {v : V} {x : Int} (h : Dp K H v (.int x)) : v = .int x := by
  cases h
  rfl
def Op.word : Op → Str
  | .step _ => "step"
  | .table _ => "table"
  | .group _ _ _ => "group"
  | .other _ w _ => w
/-- an operation's first place -/
theorem op_word {K : PySem.W.Frag} {H : Hp} {v : V} : ∀ {o : Op}, Dp K H v o.d → ∃ p xs, v = .ref p ∧ SqT K H p xs ∧ xs[0]? = some (.str o.word)
  | .step i, h => by
    obtain ⟨p, xs, rfl, hs, ha⟩ := Dp.tupI h
    obtain ⟨z, hz, hd⟩ := DpAll.get (i := 0) ha rfl
    rw [Dp.strI hd] at hz
    exact ⟨p, xs, rfl, hs, hz⟩
  | .table i, h => by
    obtain ⟨p, xs, rfl, hs, ha⟩ := Dp.tupI h
    obtain ⟨z, hz, hd⟩ := DpAll.get (i := 0) ha rfl
    rw [Dp.strI hd] at hz
    exact ⟨p, xs, rfl, hs, hz⟩
  | .group ks ts f, h => by
    obtain ⟨p, xs, rfl, hs, ha⟩ := Dp.tupI h
    obtain ⟨z, hz, hd⟩ := DpAll.get (i := 0) ha rfl
    rw [Dp.strI hd] at hz
    exact ⟨p, xs, rfl, hs, hz⟩
  | .other b w r, h => by
    obtain ⟨p, xs, rfl, hs, ha⟩ := Dp.tupI h
    obtain ⟨z, hz, hd⟩ := DpAll.get (i := 0) ha rfl
    rw [Dp.strI hd] at hz
    exact ⟨p, xs, rfl, hs, hz⟩
theorem op_num {K : PySem.W.Frag} {H : Hp} {v : V} {w : Str} {i : Int} (h : Dp K H v (.tuple [.str w, .int i])) : ∃ p xs, v = .ref p ∧ SqT K H p xs ∧ xs[0]? = some (.str w) ∧ xs[1]? = some (.int i) := by
  obtain ⟨p, xs, rfl, hs, ha⟩ := Dp.tupI h
  obtain ⟨z, hz, hd⟩ := DpAll.get (i := 0) ha rfl
  rw [Dp.strI hd] at hz
  obtain ⟨z2, hz2, hd2⟩ := DpAll.get (i := 1) ha rfl
  rw [Dp.intI hd2] at hz2
  exact ⟨p, xs, rfl, hs, hz, hz2⟩
/-- whether an operation is a table's, a step's -/
def Op.isT (i : Nat) : Op → Bool
  | .table j => j == i
  | _ => false
def Op.isS (i : Nat) : Op → Bool
  | .step j => j == i
  | _ => false
theorem nat_beq (i j : Nat) : (((i : Nat) : Int) == ((j : Nat) : Int)) = (i == j) := by
  rw [Bool.eq_iff_iff, beq_iff_eq, beq_iff_eq]
  omega
theorem op_eqT {n : Nat} (i : Nat) : ∀ {o : Op}, o.ok n → PyData.eqv o.d (.tuple [.str "table", .int (i : Nat)]) = o.isT i
  | .step j, _ => by
    have e : (("step" : Str) == ("table" : Str)) = false := by decide +kernel
    simp only [Op.d, Op.isT, PyData.eqv, PyData.eqvAll, e, Bool.false_and]
  | .table j, _ => by
    have e : (("table" : Str) == ("table" : Str)) = true := by decide +kernel
    simp only [Op.d, Op.isT, PyData.eqv, PyData.eqvAll, e, Bool.true_and, Bool.and_true, nat_beq]
  | .group ks ts f, _ => by
    have e : (("group" : Str) == ("table" : Str)) = false := by decide +kernel
    simp only [Op.d, Op.isT, PyData.eqv, PyData.eqvAll, e, Bool.false_and]
  | .other b w r, h => by
    have e := (WdOk.facts h.2).2.2.2.2.1
    simp only [Op.d, Op.isT, PyData.eqv, PyData.eqvAll, e, Bool.false_and]
theorem op_eqS {n : Nat} (i : Nat) : ∀ {o : Op}, o.ok n → PyData.eqv o.d (.tuple [.str "step", .int (i : Nat)]) = o.isS i
  | .table j, _ => by
    have e : (("table" : Str) == ("step" : Str)) = false := by decide +kernel
    simp only [Op.d, Op.isS, PyData.eqv, PyData.eqvAll, e, Bool.false_and]
  | .step j, _ => by
    have e : (("step" : Str) == ("step" : Str)) = true := by decide +kernel
    simp only [Op.d, Op.isS, PyData.eqv, PyData.eqvAll, e, Bool.true_and, Bool.and_true, nat_beq]
  | .group ks ts f, _ => by
    have e : (("group" : Str) == ("step" : Str)) = false := by decide +kernel
    simp only [Op.d, Op.isS, PyData.eqv, PyData.eqvAll, e, Bool.false_and]
  | .other b w r, h => by
    have e := (WdOk.facts h.2).2.2.2.2.2
    simp only [Op.d, Op.isS, PyData.eqv, PyData.eqvAll, e, Bool.false_and]
theorem any_map_op {n : Nat} {d : PyData} {g : Op → Bool} (hg : ∀ o : Op, o.ok n → PyData.eqv o.d d = g o) : ∀ {ops : List Op}, (∀ o ∈ ops, o.ok n) → (ops.map Op.d).any (fun z => PyData.eqv z d) = ops.any g
  | [], _ => rfl
  | o :: ops, h => by
    rw [List.map_cons, List.any_cons, List.any_cons, hg o (h o List.mem_cons_self), any_map_op hg fun x hx => h x (List.mem_cons_of_mem _ hx)]
/-- the numbers of a plan's tables, of its steps, each once, as they come -/
def nums (g : Op → Option Nat) (ops : List Op) : List Nat := ops.foldl (fun a o => match g o with | some i => if i ∈ a then a else a ++ [i] | none => a) []
def gT : Op → Option Nat
  | .table i => some i
  | _ => none
def gS : Op → Option Nat
  | .step i => some i
  | _ => none
theorem nums_snoc (g : Op → Option Nat) (ops : List Op) (o : Op) : nums g (ops ++ [o]) = match g o with | some i => if i ∈ nums g ops then nums g ops else nums g ops ++ [i] | none => nums g ops := by
  unfold nums
  rw [List.foldl_append]
  rfl
theorem nums_ind {P : List Op → Prop} (h0 : P []) (hs : ∀ l o, P l → P (l ++ [o])) : ∀ l, P l := by
  intro l
  have : ∀ n (l : List Op), l.length = n → P l := by
    intro n
    induction n with
    | zero => intro l h; rw [List.length_eq_zero_iff.mp h]; exact h0
    | succ n ih =>
      intro l h
      have hne : l ≠ [] := by intro e; subst e; cases h
      rw [← List.dropLast_concat_getLast hne]
      refine hs _ _ (ih _ ?_)
      rw [List.length_dropLast, h]
      rfl
  exact this _ l rfl
theorem nums_nd (g : Op → Option Nat) : ∀ ops, (nums g ops).Nodup := by
  refine nums_ind (P := fun l => (nums g l).Nodup) .nil fun l o ih => ?_
  rw [nums_snoc]
  cases g o with
  | none => exact ih
  | some i =>
    show (if i ∈ nums g l then nums g l else nums g l ++ [i]).Nodup
    split
    · exact ih
    · rename_i hn
      refine List.nodup_append.mpr ⟨ih, List.nodup_cons.mpr ⟨List.not_mem_nil, .nil⟩, fun a ha b hb e => ?_⟩
      rw [List.mem_singleton.mp hb] at e
      exact hn (e ▸ ha)
theorem nums_mem (g : Op → Option Nat) (i : Nat) : ∀ ops, i ∈ nums g ops ↔ ∃ o ∈ ops, g o = some i := by
  refine nums_ind (P := fun l => i ∈ nums g l ↔ ∃ o ∈ l, g o = some i) (by simp [nums]) fun l o ih => ?_
  rw [nums_snoc]
  cases hg : g o with
  | none =>
    show i ∈ nums g l ↔ _
    rw [ih]
    constructor
    · rintro ⟨x, hx, e⟩
      exact ⟨x, List.mem_append_left _ hx, e⟩
    · rintro ⟨x, hx, e⟩
      rcases List.mem_append.mp hx with h | h
      · exact ⟨x, h, e⟩
      · rw [List.mem_singleton.mp h, hg] at e
        cases e
  | some j =>
    show i ∈ (if j ∈ nums g l then nums g l else nums g l ++ [j]) ↔ _
    constructor
    · intro h
      have h' : i ∈ nums g l ∨ i = j := by
        split at h
        · exact .inl h
        · rcases List.mem_append.mp h with h | h
          · exact .inl h
          · exact .inr (List.mem_singleton.mp h)
      rcases h' with h | rfl
      · obtain ⟨x, hx, e⟩ := ih.mp h
        exact ⟨x, List.mem_append_left _ hx, e⟩
      · exact ⟨o, List.mem_append_right _ List.mem_cons_self, hg⟩
    · rintro ⟨x, hx, e⟩
      rcases List.mem_append.mp hx with h | h
      · have h2 := ih.mpr ⟨x, h, e⟩
        split
        · exact h2
        · exact List.mem_append_left _ h2
      · rw [List.mem_singleton.mp h, hg] at e
        cases e
        split
        · assumption
        · exact List.mem_append_right _ List.mem_cons_self
theorem nd_lt : ∀ (m : Nat) (l : List Nat), l.Nodup → (∀ x ∈ l, x < m) → l.length ≤ m
  | 0, [], _, _ => Nat.le_refl _
  | 0, x :: _, _, h => absurd (h x List.mem_cons_self) (Nat.not_lt_zero _)
  | m + 1, l, hn, h => by
    by_cases hm : m ∈ l
    · have h1 := nd_lt m (l.erase m) (hn.erase _) fun x hx => by
        have h2 := (hn.mem_erase_iff.mp hx)
        have := h x h2.2
        have := h2.1
        omega
      rw [List.length_erase_of_mem hm] at h1
      omega
    · have h1 := nd_lt m l hn fun x hx => by
        have := h x hx
        have : x ≠ m := fun e => hm (e ▸ hx)
        omega
      omega
theorem nums_lt (g : Op → Option Nat) (m : Nat) {ops : List Op} (h : ∀ o ∈ ops, ∀ i, g o = some i → i < m) : (nums g ops).length ≤ m :=
  nd_lt m _ (nums_nd g ops) fun x hx => by
    obtain ⟨o, ho, e⟩ := (nums_mem g x ops).mp hx
    exact h o ho x e
/-- two sorted lists of the same numbers, each once -/
theorem srt_uniq : ∀ {l m : List Int}, l.Pairwise (· ≤ ·) → m.Pairwise (· ≤ ·) → l.Perm m → l = m
  | [], m, _, _, p => (List.nil_perm.mp p).symm
  | x :: l, [], _, _, p => by have := p.length_eq; simp at this
  | x :: l, y :: m, hl, hm, p => by
    rw [List.pairwise_cons] at hl hm
    have e : x = y := by
      have h1 : x ∈ y :: m := p.mem_iff.mp List.mem_cons_self
      have h2 : y ∈ x :: l := p.mem_iff.mpr List.mem_cons_self
      rcases List.mem_cons.mp h1 with h1 | h1
      · exact h1
      · rcases List.mem_cons.mp h2 with h2 | h2
        · exact h2.symm
        · have := hl.1 _ h2
          have := hm.1 _ h1
          omega
    subst e
    rw [srt_uniq hl.2 hm.2 (List.Perm.cons_inv p)]

def falls1 (fs : List Bool) (ops : List Op) : Bool := !(ops.any (Op.up fs))
/-- the truths of plans, one behind another -/
def fallsL : List (List Op) → List Bool := fun ps => ps.foldl (fun fs ops => fs ++ [falls1 fs ops]) []
theorem fallsL_snoc (ps : List (List Op)) (ops : List Op) : fallsL (ps ++ [ops]) = fallsL ps ++ [falls1 (fallsL ps) ops] := by
  unfold fallsL
  rw [List.foldl_append]
  rfl
theorem fallsL_len (ps : List (List Op)) : (fallsL ps).length = ps.length := by
  have go : ∀ (ps : List (List Op)) (fs : List Bool), (ps.foldl (fun fs ops => fs ++ [falls1 fs ops]) fs).length = fs.length + ps.length := by
    intro ps
    induction ps with
    | nil => exact fun fs => rfl
    | cons o ps ih =>
      intro fs
      rw [List.foldl_cons, ih, List.length_append, List.length_cons]
      simp only [List.length_cons, List.length_nil]
      omega
  have := go ps []
  simpa [fallsL] using this
def sp_ht (K : PySem.W.Frag) : Sp := fun vs H Q _ => ∃ (v : V) (ks ts : List PyData) (f : Int), vs = [v] ∧ Dp K H v (Op.group ks ts f).d ∧ Q (.bl (decide (0 < ts.length))) H
def sp_mr (K : PySem.W.Frag) : Sp := fun vs H Q _ => ∃ (v : V) (o : Op) (kn : Addr) (fs : List Bool), vs = [v, .ref kn] ∧ Dp K H v o.d ∧ o.ok fs.length ∧ H kn = some (.lst (fs.map V.bl)) ∧ ∀ H', Same H H' → Q (.bl (o.up fs)) H'
/-- a plan on the heap -/
def PlanD (K : PySem.W.Frag) (H : Hp) (v : V) (ops : List Op) : Prop := ∃ p xs, v = .ref p ∧ H p = some (.lst xs) ∧ DpAll K H xs (ops.map Op.d)
theorem PlanD.ext {K : PySem.W.Frag} {H H' : Hp} {v : V} {ops : List Op} (h : PlanD K H v ops) (e : Same H H') : PlanD K H' v ops := by
  obtain ⟨p, xs, rfl, hp, ha⟩ := h
  exact ⟨p, xs, rfl, e _ _ hp, DpAll.ext e _ _ ha⟩
def sp_fall (K : PySem.W.Frag) : Sp := fun vs H Q _ => ∃ (p : Addr) (us : List V) (ps : List (List Op)), vs = [.ref p] ∧ H p = some (.lst us) ∧ us.length = ps.length ∧ us.length ≤ 100 ∧ (∀ (i : Nat) (u : V) (ops : List Op), us[i]? = some u → ps[i]? = some ops → PlanD K H u ops ∧ (∀ o ∈ ops, o.ok i) ∧ ops.length ≤ 1000) ∧
  ∀ H' r, Same H H' → H r = none → H' r = some (.lst ((fallsL ps).map V.bl)) → Q (.ref r) H'
def sp_uses (K : PySem.W.Frag) : Sp := fun vs H Q _ => ∃ (v : V) (ops : List Op), vs = [v] ∧ PlanD K H v ops ∧ (∀ o ∈ ops, o.ok 60) ∧ ops.length ≤ 1000 ∧
  ∀ H' t a b (ts ss : List Int), Same H H' → H' t = some (.tup [.ref a, .ref b]) → H' a = some (.lst (ts.map V.int)) → H' b = some (.lst (ss.map V.int)) → ts.Perm ((nums gT ops).map fun (i : Nat) => (i : Int)) → ts.Pairwise (· ≤ ·) → ss.Perm ((nums gS ops).map fun (i : Nat) => (i : Int)) → ss.Pairwise (· ≤ ·) → Q (.ref t) H'
/-- what stood before a list was made, and is no more than tuples and lists that stood, stands when that list alone is changed -/
theorem Dp.fn {K : PySem.W.Frag} {H H' : Hp} {D : Addr} (f : ∀ b o, b ≠ D → H b = some o → H' b = some o) (n : H D = none) : Same H H' := fun b o e => f b o (ne_of_none e n) e
theorem PlanD.fd {K : PySem.W.Frag} {H H' : Hp} {D : Addr} {xs : List V} {ds : List PyData} (f : ∀ b o, b ≠ D → H b = some o → H' b = some o) (n : H D = none) (h : DpAll K H xs ds) : DpAll K H' xs ds := DpAll.ext (Dp.fn (K := K) f n) _ _ h
section
variable {P : Program} {w : World} {K : PySem.W.Frag} {mg : Str → Option Value} {base : Heap}
theorem ok_ht {f : Addr} {fd : FuncData} (F : Fun K "has_totals" "has_totals" s_has_totals f fd) (M : Mg mg) : FnOk P w K mg base CX0 1 f fd ["operation"] (sp_ht K) := by
  refine F.ok sc_has_totals (fun vs H Q E h => ?_) (fun cdv A outer s H vs Q E hr h => ?_)
  · obtain ⟨v, ks, ts, g, rfl, _⟩ := h
    rfl
  · obtain ⟨v, ks, ts, g, rfl, hd, q⟩ := h
    obtain ⟨p, xs, rfl, hs, ha⟩ := Dp.tupI hd
    obtain ⟨z, hz, hd0⟩ := DpAll.get (i := 0) ha rfl
    rw [Dp.strI hd0] at hz
    obtain ⟨z2, hz2, hd2⟩ := DpAll.get (i := 2) ha rfl
    obtain ⟨p2, ys, rfl, hs2, ha2⟩ := Dp.lstI hd2
    refine ⟨_, (pss_one (ps_ret (pe_and (pe_cmpR op_eq (pe_ix (ix_tupK K) (pv 0) pe_int (fun _ _ => rfl)) pe_str (nomark _)) (pe_one (pe_cmpR op_gt (pe_callB (len_seqK K) (by rfl) M.len PySem.boot_len (pa_cons (pe_ix (ix_tupK K) (pv 0) pe_int (fun _ _ => rfl)) pa_nil)) pe_int (nomark _)))))), ?_⟩
    refine ⟨_, rfl, p, xs, 0, _, rfl, rfl, hs, atI_nat hz, rfl, _, rfl, iteT ?_⟩
    refine ⟨_, rfl, p, xs, 2, _, rfl, rfl, hs, atI_nat hz2, ?_⟩
    refine ⟨p2, ys, rfl, .inl hs2, ?_⟩
    refine ⟨_, _, rfl, rfl, ?_⟩
    rw [DpAll.len ha2]
    have e : decide ((0 : Int) < ((ts.length : Nat) : Int)) = decide (0 < ts.length) := by rw [decide_eq_decide]; omega
    show Q (V.bl (decide ((0 : Int) < ((ts.length : Nat) : Int)))) H
    rw [e]
    exact q
theorem ok_mr {f : Addr} {fd : FuncData} (F : Fun K "may_rise" "may_rise" s_may_rise f fd) (M : Mg mg) (c_has_totals : Cl P w K mg base 1 "has_totals" (sp_ht K)) : FnOk P w K mg base CX0 2 f fd ["operation", "known"] (sp_mr K) := by
  refine F.ok sc_may_rise (fun vs H Q E h => ?_) (fun cdv A outer s H vs Q E hr h => ?_)
  · obtain ⟨v, o, kn, fs, rfl, _⟩ := h
    rfl
  · obtain ⟨v, o, kn, fs, rfl, hd, ok, hk, q⟩ := h
    refine ⟨_, (pss_cons (ps_set (i := 2) sc_may_rise.nd rfl (.inl rfl) (pe_ix (ix_tupK K) (pv 0) pe_int (fun _ _ => rfl)))
      (pss_cons (ps_if (pt_cmpR op_eq (pv 2) pe_str (nomark _)) (pss_one (ps_ret (pe_not (pe_ix (ix_listK K) (pv 1) (pe_ix (ix_tupK K) (pv 0) pe_int (fun _ _ => rfl)) (fun _ _ => rfl))))) pss_nil)
      (pss_cons (ps_if (pt_cmpR op_eq (pv 2) pe_str (nomark _)) (pss_one (ps_ret (pe_or (pe_u c_has_totals hr (by first | decide | omega) (by rfl) (pa_cons (pv 0) pa_nil)) (pe_one (pe_notTK K (pe_ix (ix_tupK K) (pv 0) pe_int (fun _ _ => rfl))))))) pss_nil)
      (pss_one (ps_ret (pe_cmpR (inK K) (pv 2) (pe_tup (pa_cons pe_str (pa_cons pe_str pa_nil))) (by rfl))))))), ?_⟩
    obtain ⟨p, xs, rfl, hs, h0⟩ := op_word hd
    refine ⟨_, rfl, p, xs, 0, _, rfl, rfl, hs, atI_nat h0, ?_⟩
    refine ⟨_, rfl, rfl, _, rfl, ?_⟩
    cases o with
    | step i =>
      obtain ⟨p', xs', e, hs', _, h1⟩ := op_num hd
      cases e
      have hi : i < fs.length := ok.2
      have hk1 : atI (fs.map V.bl) ((i : Nat) : Int) = some (.bl (fs.getD i false)) := atI_nat (by rw [List.getElem?_map, List.getD_eq_getElem?_getD, List.getElem?_eq_getElem hi]; rfl)
      refine iteT ⟨_, rfl, _, rfl, p, xs', 1, _, rfl, rfl, hs', atI_nat h1, ?_⟩
      exact ⟨kn, _, _, _, rfl, rfl, .of hk, hk1, _, rfl, q H fun _ _ e => e⟩
    | table i =>
      refine iteF ⟨_, rfl, rfl, _, rfl, iteF ?_⟩
      refine ⟨_, rfl, by show 2 ≤ sizeLine; decide, fun t nt => ?_⟩
      exact ⟨t, _, rfl, .inr (.inl (.inl upd_same)), rfl, rfl, q _ (same_upd nt)⟩
    | group ks ts g =>
      refine iteF ⟨_, rfl, rfl, _, rfl, iteT ?_⟩
      obtain ⟨p', xs', e, hs', ha⟩ := Dp.tupI hd
      cases e
      obtain ⟨z2, hz2, hd2⟩ := DpAll.get (i := 1) ha rfl
      obtain ⟨p2, ys, rfl, hs2, ha2⟩ := Dp.lstI hd2
      have q0 := q H fun _ _ e => e
      refine ⟨_, rfl, _, ks, ts, g, rfl, hd, _, rfl, ite2 (fun e => ?_) (fun e => ?_)⟩
      · have e2 : Op.up fs (.group ks ts g) = true := by
          show (decide (0 < ts.length) || ks.isEmpty) = true
          rw [e, Bool.true_or]
        rw [e2] at q0
        exact q0
      · refine ⟨_, rfl, p, xs', 1, _, rfl, rfl, hs', atI_nat hz2, !ys.isEmpty, .inl ⟨ys, hs2, rfl⟩, ?_⟩
        have e2 : Op.up fs (.group ks ts g) = !(!ys.isEmpty) := by
          show (decide (0 < ts.length) || ks.isEmpty) = _
          rw [Bool.eq_false_iff.mpr e, Bool.false_or, Bool.not_not]
          have := DpAll.len ha2
          cases ys <;> cases ks <;> first | rfl | (simp at this)
        rw [e2] at q0
        exact q0
    | other b w r =>
      have wk : WdOk b w := ok.2
      obtain ⟨e1, e2, _, e3, _, _⟩ := wk.facts
      show (if decide (V.str w = V.str "step") = true then _ else _)
      rw [e1]
      refine iteF ⟨_, rfl, rfl, _, rfl, ?_⟩
      show (if decide (V.str w = V.str "group") = true then _ else _)
      rw [e2]
      refine iteF ?_
      refine ⟨_, rfl, by show 2 ≤ sizeLine; decide, fun t nt => ?_⟩
      refine ⟨t, _, rfl, .inr (.inl (.inl upd_same)), rfl, rfl, ?_⟩
      have q1 := q _ (same_upd (o := .tup [.str "minus", .str "anti"]) nt)
      rw [show Op.up fs (.other b w r) = inV (V.str w) [V.str "minus", V.str "anti"] from e3.symm] at q1
      exact q1
theorem ok_fall {f : Addr} {fd : FuncData} (F : Fun K "falling" "falling" s_falling f fd) (M : Mg mg) (c_may_rise : Cl P w K mg base 2 "may_rise" (sp_mr K)) : FnOk P w K mg base CX0 3 f fd ["plans"] (sp_fall K) := by
  refine F.ok sc_falling (fun vs H Q E h => ?_) (fun cdv A outer s H vs Q E hr h => ?_)
  · obtain ⟨p, us, ps, rfl, _⟩ := h
    rfl
  · obtain ⟨p, us, ps, rfl, hp, lu, lu2, hpl, q⟩ := h
    refine ⟨_, (pss_cons (ps_set (i := 1) sc_falling.nd rfl (.inr rfl) (pe_lst pa_nil))
      (pss_cons (ps_for PassesOwn.never rfl (pi_list (pv 0)) (pg_name (i := 2) sc_falling.nd rfl (.inl rfl)) (pss_one (ps_expr (pe_bmK K PySem.F.plainAttrs_list PySem.F.slot_list_append PySem.F.type_list_append mt_append (pv 1) (pa_cons (pe_notTK K (pe_lc (own := [("operation", 3)]) (g := gName 3) rfl sc_falling.nd (pi_list (pv 2)) (blkOk_by (N := N_falling) (sc := defScope s_falling) (by decide +kernel)) (fun _ _ _ _ _ => (pg_name (i := 3) sc_falling.nd rfl (.inl rfl))) (fun _ _ _ _ _ => (pts_one (pt_val (pe_u c_may_rise hr (by first | decide | omega) (by rfl) (pa_cons (pv 3) (pa_cons (pv 1) pa_nil)))))) (fun _ _ _ _ _ => (pv 3)))) pa_nil)))))
      (pss_one (ps_ret (pv 1))))), ?_⟩
    refine ⟨Nat.zero_le _, fun kn nk => ?_⟩
    refine ⟨_, rfl, ?_⟩
    have pk : p ≠ kn := ne_of_none hp nk
    refine ⟨p, rfl, ⟨_, .of (by rw [upd_ne pk]; exact hp)⟩, ?_⟩
    refine for_list (K := K) (a := p) (xs := us) (fun i σ Hi => (∀ b o, b ≠ kn → H b = some o → Hi b = some o) ∧ Hi kn = some (.lst ((fallsL (ps.take i)).map V.bl)) ∧ ∃ y, σ = [some (.ref p), some (.ref kn), y, none]) ⟨fun b o n e => ?_, upd_same, none, rfl⟩ (fun i σ Hi _ h => .of (h.1 _ _ pk hp)) (fun i u σ Hi hu h => ?_) (fun σ Hn h => ?_)
    · rw [upd_ne n]
      exact e
    · obtain ⟨fr, ek, y, rfl⟩ := h
      have hi : i < us.length := (List.getElem?_eq_some_iff.mp hu).1
      have hps : ps[i]? = some ps[i] := List.getElem?_eq_getElem (by omega)
      obtain ⟨pd, okp, lp⟩ := hpl i u _ hu hps
      obtain ⟨a, xs, rfl, ha, hx⟩ := pd
      have ak : a ≠ kn := ne_of_none ha nk
      have eT : ps.take (i + 1) = ps.take i ++ [ps[i]] := by rw [List.take_add_one, hps]; rfl
      generalize ps[i] = ops at okp lp hx eT
      have lx := DpAll.len hx
      rw [List.length_map] at lx
      have lf := fallsL_len (ps.take i)
      rw [List.length_take, Nat.min_eq_left (by omega)] at lf
      have eF := fallsL_snoc (ps.take i) ops
      generalize fallsL (ps.take i) = fs at ek lf eF
      refine ⟨_, rfl, .inl ⟨rfl, _, .inl (.inl ek)⟩, ?_⟩
      refine ⟨_, rfl, a, rfl, ⟨_, .of (fr _ _ ak ha)⟩, fun D nD => ?_⟩
      refine lc_list (K := K) (a := a) (xs := xs) (fun j Hj => Same Hi Hj ∧ ∃ acc : List V, Hj D = some (.lst acc) ∧ acc.length ≤ j ∧ acc.isEmpty = !((ops.take j).any (Op.up fs))) ⟨same_upd nD, [], upd_same, Nat.le_refl _, rfl⟩ (fun j Hj _ hp => .of (hp.1 _ _ (fr _ _ ak ha))) (fun j x Hj hx' hp => ?_) (fun Hn hp => ?_)
      · obtain ⟨sj, acc, eD, la, ea⟩ := hp
        have hj : j < ops.length := by rw [← lx]; exact (List.getElem?_eq_some_iff.mp hx').1
        have ho : ops[j]? = some ops[j] := List.getElem?_eq_getElem hj
        obtain ⟨x', hx2, hd⟩ := DpAll.get (DpAll.ext sj _ _ (PlanD.fd fr nk hx)) (show (ops.map Op.d)[j]? = some (ops[j]).d by rw [List.getElem?_map, ho]; rfl)
        have e1 : x = x' := Option.some.inj (hx'.symm.trans hx2)
        subst e1
        have e2 : ops.take (j + 1) = ops.take j ++ [ops[j]] := by rw [List.take_add_one, ho]; rfl
        have ok1 := okp _ (List.getElem_mem hj)
        generalize ops[j] = o at e2 hd ok1
        rw [← lf] at ok1
        refine ⟨rfl, _, rfl, _, rfl, x, o, kn, fs, rfl, hd, ok1, sj _ _ ek, fun H2 s2 => ⟨_, rfl, ite2 (fun e => ?_) (fun e => ?_)⟩⟩
        · refine ⟨_, rfl, acc, s2 _ _ eD, Nat.lt_of_le_of_lt (m := 1000) (by omega) (by decide), fun b o' e' => ?_, acc ++ [x], upd_same, by rw [List.length_append]; exact Nat.succ_le_succ la, ?_⟩
          · rw [upd_ne (ne_of_none e' nD)]
            exact s2 _ _ (sj _ _ e')
          · rw [e2, List.any_append, List.any_cons, e]
            simp
        · refine ⟨sj.trans s2, acc, s2 _ _ eD, by omega, ?_⟩
          rw [e2, List.any_append, List.any_cons, List.any_nil, Bool.eq_false_iff.mpr e, ea]
          simp
      · obtain ⟨sn, acc, eD, la, ea⟩ := hp
        rw [lx, List.take_of_length_le (Nat.le_refl _)] at ea
        refine ⟨_, .inl ⟨acc, .of eD, rfl⟩, kn, _, _, rfl, rfl, sn _ _ ek, ?_, ?_⟩
        · rw [List.length_map]
          exact Nat.lt_of_le_of_lt (m := 1000) (by omega) (by decide)
        · refine ⟨fun b o n e => ?_, ?_, _, rfl⟩
          · rw [upd_ne n]
            exact sn _ _ (fr _ _ n e)
          · rw [upd_same, eT, eF, List.map_append]
            show some (HO.lst (_ ++ [V.bl (!(!acc.isEmpty))])) = _
            rw [Bool.not_not, ea]
            rfl
    · obtain ⟨fr, ek, y, rfl⟩ := h
      rw [List.take_of_length_le (by omega)] at ek
      refine ⟨_, rfl, q Hn kn (fun b o e => fr b o (ne_of_none e nk) e) nk ek⟩
theorem dc_list {K : PySem.W.Frag} {a : Addr} {xs : List V} {g : TG} {tt : TT} {tk tv : TE} {vs : List Nat} {σ : L2.St} {H1 : Hp} {D : Addr} {Qd : Hp → Prop} (Pv : Nat → Hp → Prop) (h0 : Pv 0 (upd H1 D (.dK []))) (hl : ∀ i H, i ≤ xs.length → Pv i H → SqL K H a xs)
    (hs : ∀ i x H, xs[i]? = some x → Pv i H → g x (wipe σ vs) H fun σ2 H2 => wipe σ2 vs = wipe σ vs ∧ tt σ2 H2 fun b H3 =>
      if b = true then tk σ2 H3 fun y H4 => tv σ2 H4 fun z H5 => ∃ kvs k, y = kV k ∧ H5 D = some (.dK kvs) ∧ kvs.length < sizeLine ∧ Pv (i + 1) (upd H5 D (.dK (putK kvs k z))) else Pv (i + 1) H3) (hd : ∀ H, Pv xs.length H → Qd H) :
    ∃ W : Nat → Nat → Hp → Prop, (∃ m, W 0 m (upd H1 D (.dK []))) ∧ ∀ i m H, W i m H →
      ((Itl K a).stop i H ∧ Qd H) ∨ ((Itl K a).go i H ∧ ∃ Nx : Hp → Prop, (∀ H', Nx H' → ∃ m', m' < m ∧ W (i + 1) m' H') ∧ ∀ x H', (Itl K a).yld i H x H' → g x (wipe σ vs) H' fun σ2 H2 => wipe σ2 vs = wipe σ vs ∧ tt σ2 H2 fun b H3 =>
        if b = true then tk σ2 H3 fun y H4 => tv σ2 H4 fun z H5 => ∃ kvs k, y = kV k ∧ H5 D = some (.dK kvs) ∧ kvs.length < sizeLine ∧ Nx (upd H5 D (.dK (putK kvs k z))) else Nx H3) := by
  refine ⟨fun i m H => m = xs.length - i ∧ i ≤ xs.length ∧ Pv i H, ⟨xs.length, by simp, Nat.zero_le _, h0⟩, ?_⟩
  rintro i m H ⟨rfl, hi, p⟩
  have q := hl i H hi p
  by_cases hlt : i < xs.length
  · refine .inr ⟨⟨xs, xs[i], q, by simp [hlt]⟩, Pv (i + 1), fun H' p' => ⟨xs.length - (i + 1), by omega, rfl, hlt, p'⟩, fun x H' y => ?_⟩
    obtain ⟨e, y⟩ := y
    subst e
    exact hs i x _ (y xs q) p
  · have e : i = xs.length := by omega
    subst e
    exact .inl ⟨⟨xs, q, Nat.le_refl _⟩, hd H p⟩
/-- a dict's keys, numbers in their order -/
def DKs (kvs : List (Key × V)) (ks : List Nat) : Prop := kvs.map (·.1) = ks.map fun (i : Nat) => (Sum.inl (i : Int) : Key)
theorem DKs.len {kvs : List (Key × V)} {ks : List Nat} (h : DKs kvs ks) : kvs.length = ks.length := by
  have := congrArg List.length h
  simpa using this
theorem keys_put (kvs : List (Key × V)) (k : Key) (v : V) : (putK kvs k v).map (·.1) = if (kvs.any fun kv => decide (kv.1 = k)) = true then kvs.map (·.1) else kvs.map (·.1) ++ [k] := by
  unfold putK
  split
  · rw [List.map_map]
    refine List.map_congr_left fun x _ => ?_
    show (if x.1 = k then (x.1, v) else x).1 = x.1
    split <;> rfl
  · rw [List.map_append]
    rfl
theorem DKs.put {kvs : List (Key × V)} {ks : List Nat} (h : DKs kvs ks) (i : Nat) (v : V) : DKs (putK kvs (Sum.inl (i : Int)) v) (if i ∈ ks then ks else ks ++ [i]) := by
  have h : kvs.map (·.1) = ks.map fun (i : Nat) => (Sum.inl (i : Int) : Key) := h
  unfold DKs
  rw [keys_put, h]
  have e : (kvs.any fun kv => decide (kv.1 = (Sum.inl (i : Int) : Key))) = decide (i ∈ ks) := by
    have e1 : (kvs.any fun kv => decide (kv.1 = (Sum.inl (i : Int) : Key))) = ((kvs.map (·.1)).any fun x => decide (x = (Sum.inl (i : Int) : Key))) := by rw [List.any_map]; rfl
    rw [e1, h, List.any_map, Bool.eq_iff_iff, List.any_eq_true, decide_eq_true_iff]
    constructor
    · rintro ⟨j, hj, e⟩
      have := Sum.inl.inj (of_decide_eq_true e)
      have : j = i := by omega
      exact this ▸ hj
    · exact fun h => ⟨i, h, decide_eq_true rfl⟩
  rw [e]
  by_cases hi : i ∈ ks
  · rw [if_pos (decide_eq_true hi), if_pos hi]
  · rw [if_neg (by rw [decide_eq_false hi]; decide), if_neg hi, List.map_append]
    rfl
theorem gbound {ops : List Op} (okp : ∀ o ∈ ops, o.ok 60) {o : Op} (ho : o ∈ ops) {i : Nat} (e : gT o = some i) : i < 60 := by
  have h := (okp o ho).2
  cases o with
  | table j =>
    have h : j < 2 := h
    have e : j = i := Option.some.inj e
    omega
  | step j => cases e
  | group ks ts f => cases e
  | other b w r => cases e
theorem gboundS {ops : List Op} (okp : ∀ o ∈ ops, o.ok 60) {o : Op} (ho : o ∈ ops) {i : Nat} (e : gS o = some i) : i < 60 := by
  have h := (okp o ho).2
  cases o with
  | step j =>
    have h : j < 60 := h
    have e : j = i := Option.some.inj e
    omega
  | table j => cases e
  | group ks ts f => cases e
  | other b w r => cases e
theorem ok_uses {f : Addr} {fd : FuncData} (F : Fun K "uses" "uses" s_uses f fd) (M : Mg mg) : FnOk P w K mg base CX0 1 f fd ["plan"] (sp_uses K) := by
  refine F.ok sc_uses (fun vs H Q E h => ?_) (fun cdv A outer s H vs Q E hr h => ?_)
  · obtain ⟨v, ops, rfl, _⟩ := h
    rfl
  · obtain ⟨v, ops, rfl, ⟨a, xs, rfl, ha, hx⟩, okp, lp, q⟩ := h
    have lx := DpAll.len hx
    rw [List.length_map] at lx
    refine ⟨_, (pss_cons (ps_setDc (i := 1) (own := [("operation", 3)]) (g := gName 3) rfl sc_uses.nd rfl rfl (sw_trueD rfl rfl rfl (by decide +kernel)) (pi_list (pv 0)) (blkOk_by (N := N_uses) (sc := defScope s_uses) (by decide +kernel)) (fun _ _ _ _ _ => (pg_name (i := 3) sc_uses.nd rfl (.inl rfl))) (fun _ _ _ _ _ => (pts_one (pt_cmpR op_eq (pe_ix (ix_tupK K) (pv 3) pe_int (fun _ _ => rfl)) pe_str (nomark _)))) (fun _ _ _ _ _ => (pe_ix (ix_tupK K) (pv 3) pe_int (fun _ _ => rfl))) (fun _ _ _ _ _ => pe_bl))
      (pss_cons (ps_setDc (i := 2) (own := [("operation", 3)]) (g := gName 3) rfl sc_uses.nd rfl rfl (sw_trueD rfl rfl rfl (by decide +kernel)) (pi_list (pv 0)) (blkOk_by (N := N_uses) (sc := defScope s_uses) (by decide +kernel)) (fun _ _ _ _ _ => (pg_name (i := 3) sc_uses.nd rfl (.inl rfl))) (fun _ _ _ _ _ => (pts_one (pt_cmpR op_eq (pe_ix (ix_tupK K) (pv 3) pe_int (fun _ _ => rfl)) pe_str (nomark _)))) (fun _ _ _ _ _ => (pe_ix (ix_tupK K) (pv 3) pe_int (fun _ _ => rfl))) (fun _ _ _ _ _ => pe_bl))
      (pss_one (ps_ret (pe_tup (pa_cons (pe_callB (call_sortedDI rfl) (by rfl) M.sorted (by decide +kernel) (pa_cons (pv 1) pa_nil)) (pa_cons (pe_callB (call_sortedDI rfl) (by rfl) M.sorted (by decide +kernel) (pa_cons (pv 2) pa_nil)) pa_nil))))))), ?_⟩
    refine ⟨_, rfl, a, rfl, ⟨_, .of ha⟩, fun D nD => ?_⟩
    refine dc_list (K := K) (a := a) (xs := xs) (fun j Hj => Same H Hj ∧ ∃ kvs, Hj D = some (.dK kvs) ∧ DKs kvs (nums gT (ops.take j))) ⟨same_upd nD, [], upd_same, rfl⟩ (fun j Hj _ hp => .of (hp.1 _ _ ha)) (fun j x Hj hx' hp => ?_) (fun H1 hp => ?_)
    · obtain ⟨sj, kvs, eD, hk⟩ := hp
      have hj : j < ops.length := by rw [← lx]; exact (List.getElem?_eq_some_iff.mp hx').1
      have ho : ops[j]? = some ops[j] := List.getElem?_eq_getElem hj
      obtain ⟨x', hx2, hd⟩ := DpAll.get (DpAll.ext sj _ _ hx) (show (ops.map Op.d)[j]? = some (ops[j]).d by rw [List.getElem?_map, ho]; rfl)
      have e1 : x = x' := Option.some.inj (hx'.symm.trans hx2)
      subst e1
      have e2 : ops.take (j + 1) = ops.take j ++ [ops[j]] := by rw [List.take_add_one, ho]; rfl
      have ok1 := okp _ (List.getElem_mem hj)
      generalize ops[j] = o at e2 hd ok1
      obtain ⟨p, ys, rfl, hs, h0⟩ := op_word hd
      have hlen : kvs.length ≤ 60 := by
        rw [hk.len]
        exact nums_lt _ _ fun o ho i e => gbound okp (List.mem_of_mem_take ho) e
      refine ⟨rfl, _, rfl, p, ys, 0, _, rfl, rfl, hs, atI_nat h0, rfl, _, rfl, ?_⟩
      cases o with
      | table i =>
        obtain ⟨p', xs', e, hs', _, h1⟩ := op_num hd
        cases e
        refine iteT ⟨_, rfl, p, xs', 1, _, rfl, rfl, hs', atI_nat h1, kvs, Sum.inl ((i : Nat) : Int), rfl, eD, Nat.lt_of_le_of_lt hlen (by decide), fun b o e => ?_, _, upd_same, ?_⟩
        · rw [upd_ne (ne_of_none e nD)]
          exact sj _ _ e
        · rw [e2, nums_snoc]
          exact hk.put i _
      | step i => exact iteF ⟨sj, kvs, eD, by rw [e2, nums_snoc]; exact hk⟩
      | group ks ts g => exact iteF ⟨sj, kvs, eD, by rw [e2, nums_snoc]; exact hk⟩
      | other b w r =>
        show (if decide (V.str w = V.str "table") = true then _ else _)
        have wk : WdOk b w := ok1.2
        rw [wk.facts.2.2.1]
        exact iteF ⟨sj, kvs, eD, by rw [e2, nums_snoc]; exact hk⟩
    obtain ⟨s1, kv1, eD1, hk1⟩ := hp
    rw [lx, List.take_of_length_le (Nat.le_refl _)] at hk1
    refine ⟨_, rfl, a, rfl, ⟨_, .of (s1 _ _ ha)⟩, fun D2 nD2 => ?_⟩
    refine dc_list (K := K) (a := a) (xs := xs) (fun j Hj => Same H1 Hj ∧ ∃ kvs, Hj D2 = some (.dK kvs) ∧ DKs kvs (nums gS (ops.take j))) ⟨same_upd nD2, [], upd_same, rfl⟩ (fun j Hj _ hp => .of (hp.1 _ _ (s1 _ _ ha))) (fun j x Hj hx' hp => ?_) (fun H2 hp => ?_)
    · obtain ⟨sj, kvs, eD, hk⟩ := hp
      have hj : j < ops.length := by rw [← lx]; exact (List.getElem?_eq_some_iff.mp hx').1
      have ho : ops[j]? = some ops[j] := List.getElem?_eq_getElem hj
      obtain ⟨x', hx2, hd⟩ := DpAll.get (DpAll.ext (s1.trans sj) _ _ hx) (show (ops.map Op.d)[j]? = some (ops[j]).d by rw [List.getElem?_map, ho]; rfl)
      have e1 : x = x' := Option.some.inj (hx'.symm.trans hx2)
      subst e1
      have e2 : ops.take (j + 1) = ops.take j ++ [ops[j]] := by rw [List.take_add_one, ho]; rfl
      have ok1 := okp _ (List.getElem_mem hj)
      generalize ops[j] = o at e2 hd ok1
      obtain ⟨p, ys, rfl, hs, h0⟩ := op_word hd
      have hlen : kvs.length ≤ 60 := by
        rw [hk.len]
        exact nums_lt _ _ fun o ho i e => gboundS okp (List.mem_of_mem_take ho) e
      refine ⟨rfl, _, rfl, p, ys, 0, _, rfl, rfl, hs, atI_nat h0, rfl, _, rfl, ?_⟩
      cases o with
      | step i =>
        obtain ⟨p', xs', e, hs', _, h1⟩ := op_num hd
        cases e
        refine iteT ⟨_, rfl, p, xs', 1, _, rfl, rfl, hs', atI_nat h1, kvs, Sum.inl ((i : Nat) : Int), rfl, eD, Nat.lt_of_le_of_lt hlen (by decide), fun b o e => ?_, _, upd_same, ?_⟩
        · rw [upd_ne (ne_of_none e nD2)]
          exact sj _ _ e
        · rw [e2, nums_snoc]
          exact hk.put i _
      | table i => exact iteF ⟨sj, kvs, eD, by rw [e2, nums_snoc]; exact hk⟩
      | group ks ts g => exact iteF ⟨sj, kvs, eD, by rw [e2, nums_snoc]; exact hk⟩
      | other b w r =>
        show (if decide (V.str w = V.str "step") = true then _ else _)
        have wk : WdOk b w := ok1.2
        rw [wk.facts.1]
        exact iteF ⟨sj, kvs, eD, by rw [e2, nums_snoc]; exact hk⟩
    obtain ⟨s2, kv2, eD2, hk2⟩ := hp
    rw [lx, List.take_of_length_le (Nat.le_refl _)] at hk2
    have l1 : (nums gT ops).length ≤ 60 := nums_lt _ _ fun o ho i e => gbound okp ho e
    have l2 : (nums gS ops).length ≤ 60 := nums_lt _ _ fun o ho i e => gboundS okp ho e
    refine ⟨_, rfl, D, kv1, (nums gT ops).map fun (i : Nat) => (i : Int), rfl, .inl (s2 _ _ eD1), by rw [hk1, List.map_map]; rfl, by rw [List.length_map]; omega, fun ts a1 pt st' na => ?_⟩
    have sa := same_upd na (o := .lst (ts.map V.int))
    have ea : (upd H2 a1 (.lst (ts.map V.int))) a1 = some (.lst (ts.map V.int)) := upd_same
    generalize upd H2 a1 (.lst (ts.map V.int)) = H3 at sa ea
    refine ⟨_, rfl, D2, kv2, (nums gS ops).map fun (i : Nat) => (i : Int), rfl, .inl (sa _ _ eD2), by rw [hk2, List.map_map]; rfl, by rw [List.length_map]; omega, fun ss b1 ps ss' nb => ?_⟩
    have sb := same_upd nb (o := .lst (ss.map V.int))
    have eb : (upd H3 b1 (.lst (ss.map V.int))) b1 = some (.lst (ss.map V.int)) := upd_same
    have ea2 := sb _ _ ea
    generalize upd H3 b1 (.lst (ss.map V.int)) = H4 at sb eb ea2
    refine ⟨by show 2 ≤ sizeLine; decide, fun t nt => ?_⟩
    have st := same_upd nt (o := .tup [.ref a1, .ref b1])
    exact q _ t a1 b1 ts ss ((((s1.trans s2).trans sa).trans sb).trans st) upd_same (st _ _ ea2) (st _ _ eb) pt st' ps ss'
end

/-! ### the law's plans -/
def Ly (n : Nat) (d : PyData) : Prop := d.canLay0 = true ∧ d.depth ≤ n
theorem Ly.int {n : Nat} (i : Int) : Ly n (.int i) := ⟨rfl, by show 0 ≤ n; omega⟩
theorem Ly.non {n : Nat} : Ly n .none := ⟨rfl, by show 0 ≤ n; omega⟩
theorem Ly.str {n : Nat} {x : Str} (h : PyData.strOk x = true) : Ly n (.str x) := ⟨h, by show 0 ≤ n; omega⟩
theorem Ly.all {n : Nat} : ∀ {ds : List PyData}, (∀ d ∈ ds, Ly n d) → PyData.canLayAll0 ds = true ∧ PyData.depthAll ds ≤ n
  | [], _ => ⟨rfl, by show 0 ≤ n; omega⟩
  | d :: ds, h => by
    obtain ⟨h1, h2⟩ := Ly.all (ds := ds) fun x hx => h x (List.mem_cons_of_mem _ hx)
    obtain ⟨g1, g2⟩ := h d List.mem_cons_self
    exact ⟨by unfold PyData.canLayAll0; rw [g1, h1]; rfl, by unfold PyData.depthAll; omega⟩
theorem Ly.tup {n : Nat} {ds : List PyData} (h : ∀ d ∈ ds, Ly n d) : Ly (n + 1) (.tuple ds) := by
  obtain ⟨h1, h2⟩ := Ly.all h
  exact ⟨by unfold PyData.canLay0; exact h1, by unfold PyData.depth; omega⟩
theorem Ly.lst {n : Nat} {ds : List PyData} (h : ∀ d ∈ ds, Ly n d) : Ly (n + 1) (.list ds) := by
  obtain ⟨h1, h2⟩ := Ly.all h
  exact ⟨by unfold PyData.canLay0; exact h1, by unfold PyData.depth; omega⟩
theorem Ly.nil {n : Nat} : ∀ d ∈ ([] : List PyData), Ly n d := fun d h => by cases h
theorem Ly.cons {n : Nat} {d : PyData} {ds : List PyData} (h1 : Ly n d) (h2 : ∀ x ∈ ds, Ly n x) : ∀ x ∈ d :: ds, Ly n x := fun x h => by
  rcases List.mem_cons.mp h with rfl | h
  · exact h1
  · exact h2 x h
theorem Ly.ok {n : Nat} {d : PyData} (h : Ly n d) (l : n ≤ 40) : d.canLay0 = true ∧ d.depth ≤ 40 := ⟨h.1, Nat.le_trans h.2 l⟩
def wD (x : Int × Bool) : PyData := .tuple [.int x.1, .bool x.2]
theorem wD_only : ∀ ws : List (Int × Bool), tupOnlys (ws.map wD) = true
  | [] => rfl
  | w :: ws => by
    rw [List.map_cons]
    unfold tupOnlys
    rw [wD_only ws]
    rfl
def Fd2 (d p : Addr) (H H' : Hp) : Prop := ∀ b o, b ≠ d → b ≠ p → H b = some o → H' b = some o
theorem Fd2.trans {d p : Addr} {H H1 H2 : Hp} (a : Fd2 d p H H1) (b : Fd2 d p H1 H2) : Fd2 d p H H2 := fun c o n m e => b c o n m (a c o n m e)
theorem Fd2.of {d p : Addr} {H H1 : Hp} (a : Same H H1) : Fd2 d p H H1 := fun c o n m e => a c o e
theorem Fd2.fd {d p : Addr} {H H1 : Hp} (a : Fd d H H1) : Fd2 d p H H1 := fun c o n m e => a c o n e
theorem Fd2.at {d p : Addr} {H : Hp} {o : HO} : Fd2 d p H (upd H p o) := fun c x n m e => by
  rw [upd_ne m]
  exact e
structure Gc (K : PySem.W.Frag) (L : Addr → Prop) (H : Hp) (d c p S : Addr) (ops : List Op) (ws : List (Int × Bool)) : Prop where
  dr : Dr H d c
  pd : p ≠ d
  pc : p ≠ c
  Sd : S ≠ d
  Sp : S ≠ p
  nd : ¬ L d
  np : ¬ L p
  fr : ∀ a, H a = none → L a
  pl : ∃ xs, H p = some (.lst xs) ∧ DpLs L K H xs (ops.map Op.d)
  st : ∃ ss, H S = some (.lst ss) ∧ DpAll K H ss (ws.map wD)
section
variable {K : PySem.W.Frag} {L : Addr → Prop} {H H' : Hp} {d c p S : Addr} {ops : List Op} {ws : List (Int × Bool)}
theorem Gc.ext (g : Gc K L H d c p S ops ws) (e : Same H H') : Gc K L H' d c p S ops ws := by
  obtain ⟨xs, h1, h2⟩ := g.pl
  obtain ⟨ss, h3, h4⟩ := g.st
  refine ⟨g.dr.ext e, g.pd, g.pc, g.Sd, g.Sp, g.nd, g.np, fun a h => g.fr a ?_, ⟨xs, e _ _ h1, DpLs.chg (.of e) _ _ h2⟩, ⟨ss, e _ _ h3, DpAll.ext e _ _ h4⟩⟩
  cases hh : H a with
  | none => rfl
  | some o => rw [e _ _ hh] at h; cases h
theorem Gc.draw (g : Gc K L H d c p S ops ws) (f : Fd d H H') (f2 : ∀ p, p ≠ d → H' p = H p) (dr : Dr H' d c) : Gc K L H' d c p S ops ws := by
  obtain ⟨xs, h1, h2⟩ := g.pl
  obtain ⟨ss, h3, h4⟩ := g.st
  obtain ⟨zs, hz⟩ := g.dr.lst
  refine ⟨dr, g.pd, g.pc, g.Sd, g.Sp, g.nd, g.np, fun a h => g.fr a ?_, ⟨xs, f _ _ g.pd h1, DpLs.chg (fun b o e => ?_) _ _ h2⟩, ⟨ss, f _ _ g.Sd h3, DpAll.fd ⟨zs, hz⟩ f _ _ (wD_only _) h4⟩⟩
  · by_cases hd : a = d
    · subst hd
      obtain ⟨zs', hz'⟩ := dr.lst
      rw [hz'] at h
      cases h
    · rw [← f2 a hd]
      exact h
  · by_cases hd : b = d
    · subst hd
      rw [hz] at e
      cases e
      exact .inl ⟨_, rfl, g.nd⟩
    · exact .inr (.inr (f b o hd e))
theorem Gc.push (g : Gc K L H d c p S ops ws) {o : Op} {v : V} {xs : List V} (hp : H p = some (.lst xs)) (h : DpL L K H v o.d) : Gc K L (upd H p (.lst (xs ++ [v]))) d c p S (ops ++ [o]) ws := by
  obtain ⟨xs', h1, h2⟩ := g.pl
  obtain ⟨ss, h3, h4⟩ := g.st
  have e : xs' = xs := by rw [hp] at h1; cases h1; rfl
  subst e
  refine ⟨g.dr.upd g.pd g.pc, g.pd, g.pc, g.Sd, g.Sp, g.nd, g.np, fun a h => g.fr a ?_, ⟨_, upd_same, ?_⟩, ⟨ss, by rw [upd_ne g.Sp]; exact h3, DpAll.away hp _ _ (wD_only _) h4⟩⟩
  · by_cases ha : a = p
    · subst ha
      rw [upd_same] at h
      cases h
    · rw [upd_ne ha] at h
      exact h
  · rw [List.map_append]
    exact DpLs.chg (.at hp g.np) _ _ (DpLs.snoc h2 h)
theorem Gc.plen (g : Gc K L H d c p S ops ws) : ∃ xs, H p = some (.lst xs) ∧ xs.length = ops.length := by
  obtain ⟨xs, h1, h2⟩ := g.pl
  refine ⟨xs, h1, ?_⟩
  have := DpLs.len h2
  rw [List.length_map] at this
  exact this
end
theorem falls1_app (fs : List Bool) (a b : List Op) : falls1 fs (a ++ b) = (falls1 fs a && falls1 fs b) := by
  unfold falls1
  rw [List.any_append, Bool.not_or]
def sp_leaf (K : PySem.W.Frag) : Sp := fun vs H Q _ => ∃ (L : Addr → Prop) (d c p S : Addr) (ops : List Op) (ws : List (Int × Bool)), vs = [.ref d, .ref p, .ref S] ∧ Gc K L H d c p S ops ws ∧ ws.length ≤ 60 ∧ ops.length ≤ 1000 ∧
  ∀ H' t w o, Gc K L H' d c p S (ops ++ [o]) ws → Fd2 d p H H' → o.ok ws.length → H' t = some (.tup [.int w, .bl (falls1 (ws.map (·.2)) [o])]) → Q (.ref t) H'
def sp_one (K : PySem.W.Frag) : Sp := fun vs H Q _ => ∃ (L : Addr → Prop) (d c p S : Addr) (ops : List Op) (ws : List (Int × Bool)), vs = [.ref p] ∧ Gc K L H d c p S ops ws ∧ ops.length ≤ 1000 ∧
  ∀ H' o (k : Int), Gc K L H' d c p S (ops ++ [o]) ws → Fd2 d p H H' → o.ok 0 → (∀ fs, o.up fs = false) → Q (.int k) H'
def sp_grow (K : PySem.W.Frag) (n : Nat) : Sp := fun vs H Q _ => ∃ (L : Addr → Prop) (d c p S : Addr) (ops : List Op) (ws : List (Int × Bool)) (m : Nat), vs = [.ref d, .ref p, .ref S, .int (m : Nat)] ∧ m < n ∧ m ≤ 3 ∧ Gc K L H d c p S ops ws ∧ ws.length ≤ 60 ∧ ops.length + 4 * 2 ^ m ≤ 1000 ∧
  ∀ H' t w new, Gc K L H' d c p S (ops ++ new) ws → Fd2 d p H H' → (∀ o ∈ new, o.ok ws.length) → new.length + 3 ≤ 4 * 2 ^ m → H' t = some (.tup [.int w, .bl (falls1 (ws.map (·.2)) new)]) → Q (.ref t) H'
section
variable {P : Program} {w : World} {K : PySem.W.Frag} {mg : Str → Option Value} {base : Heap}
theorem ok_leaf {f : Addr} {fd : FuncData} (F : Fun K "_law_leaf" "_law_leaf" s__law_leaf f fd) (M : Mg mg) (c__law_next : Cl P w K mg base 1 "_law_next" sp_next) : FnOk P w K mg base CX0 2 f fd ["draw", "plan", "steps"] (sp_leaf K) := by
  refine F.ok sc__law_leaf (fun vs H Q E h => ?_) (fun cdv A outer s H vs Q E hr h => ?_)
  · obtain ⟨L, d, c, p, S, ops, ws, rfl, _⟩ := h
    rfl
  · obtain ⟨L, d, c, p, S, ops, ws, rfl, g, lw, lo, q⟩ := h
    refine ⟨_, (pss_cons (ps_set (i := 3) sc__law_leaf.nd rfl (.inl rfl) (pe_u c__law_next hr (by first | decide | omega) (by rfl) (pa_cons (pv 0) (pa_cons pe_int pa_nil))))
      (pss_cons (ps_if (PW.pt (pw_and (pt_truthK K (pv 2) (by intro _; rfl)) (pw_and1 (pt_cmpR op_eq (pe_u c__law_next hr (by first | decide | omega) (by rfl) (pa_cons (pv 0) (pa_cons pe_int pa_nil))) pe_int (nomark _))))) (pss_cons (ps_set (i := 4) sc__law_leaf.nd rfl (.inl rfl) (pe_u c__law_next hr (by first | decide | omega) (by rfl) (pa_cons (pv 0) (pa_cons (pe_callB (len_seqK K) (by rfl) M.len PySem.boot_len (pa_cons (pv 2) pa_nil)) pa_nil))))
      (pss_cons (ps_expr (pe_bmK K PySem.F.plainAttrs_list PySem.F.slot_list_append PySem.F.type_list_append mt_append (pv 1) (pa_cons (pe_tup (pa_cons pe_str (pa_cons (pv 4) pa_nil))) pa_nil)))
      (pss_one (ps_ret (pe_tup (pa_cons (pe_ix (ix_tupK K) (pe_ix (ix_listK K) (pv 2) (pv 4) (fun _ _ => rfl)) pe_int (fun _ _ => rfl)) (pa_cons (pe_ix (ix_tupK K) (pe_ix (ix_listK K) (pv 2) (pv 4) (fun _ _ => rfl)) pe_int (fun _ _ => rfl)) pa_nil))))))) pss_nil)
      (pss_cons (ps_expr (pe_bmK K PySem.F.plainAttrs_list PySem.F.slot_list_append PySem.F.type_list_append mt_append (pv 1) (pa_cons (pe_tup (pa_cons pe_str (pa_cons (pv 3) pa_nil))) pa_nil)))
      (pss_one (ps_ret (pe_tup (pa_cons (pe_op op_add pe_int (pv 3)) (pa_cons pe_bl pa_nil)))))))), ?_⟩
    refine ⟨_, rfl, d, c, 2, rfl, g.dr, by decide, by decide, fun H1 r f1 e1 dr1 r0 r1 => ?_⟩
    have g1 := g.draw f1 e1 dr1
    obtain ⟨ss, hS, ha⟩ := g1.st
    have lss := DpAll.len ha
    rw [List.length_map] at lss
    have sh2 : (2 : Nat) ≤ sizeLine := by decide
    -- a table
    have tb : ∀ (H2 : Hp) (z : Option V), Fd2 d p H H2 → Gc K L H2 d c p S ops ws → tSeq
        (tDrop (tBM K "list" rAppend (tVar 1) (tCons (tTup (tCons (tC (V.str (Str.ofString "table"))) (tCons (tVar 3) tNil))) tNil)))
        (tRet (tTup (tCons (tOp (rI0 fun i j => V.int (i + j)) (tC (V.int 1)) (tVar 3)) (tCons (tC (V.bl true)) tNil))))
        { nx := fun x H' => Q V.non H', rt := Q } [some (.ref d), some (.ref p), some (.ref S), some (.int r), z] H2 := fun H2 z f2 g2 => by
      obtain ⟨xs, hp, lx⟩ := g2.plen
      refine ⟨_, rfl, .inl ⟨rfl, _, .inl (.inl hp)⟩, ?_⟩
      refine ⟨_, rfl, sh2, fun t nt => ?_⟩
      have st := same_upd nt (o := .tup [.str "table", .int r])
      have et : (upd H2 t (.tup [.str "table", .int r])) t = some (.tup [.str "table", .int r]) := upd_same
      generalize upd H2 t (.tup [.str "table", .int r]) = H3 at st et ⊢
      have g3 := g2.ext st
      refine ⟨p, xs, _, rfl, rfl, st _ _ hp, Nat.lt_of_le_of_lt (m := 1000) (by omega) (by decide), ?_⟩
      obtain ⟨r, rfl⟩ := Int.eq_ofNat_of_zero_le r0
      have g4 := g3.push (o := .table r) (v := .ref t) (st _ _ hp) (.tup (.inl (.inl et)) (.cons (.str _) (.cons (.int _) .nil)))
      refine ⟨_, rfl, _, _, rfl, rfl, sh2, fun t2 nt2 => ?_⟩
      refine q _ t2 _ _ (g4.ext (same_upd nt2)) (((f2.trans (.of st)).trans .at).trans (.of (same_upd nt2))) ⟨Ly.ok (n := 5) (Ly.tup (.cons (.str (by decide +kernel)) (.cons (.int _) .nil))) (by decide), by show r < 2; omega⟩ upd_same
    refine ⟨_, rfl, !ss.isEmpty, .inl ⟨ss, .of hS, rfl⟩, ?_⟩
    refine ite2 (fun e => ?_) (fun e => iteF (tb H1 none (.fd f1) g1))
    refine ⟨_, rfl, d, c, 2, rfl, dr1, by decide, by decide, fun H2 r2 f2 e2 dr2 r20 r21 => ⟨rfl, _, rfl, ite2 (fun e3 => ?_) (fun _ => tb H2 none ((Fd2.fd f1).trans (.fd f2)) (g1.draw f2 e2 dr2))⟩⟩
    have g2 := g1.draw f2 e2 dr2
    have hS2 := f2 _ _ g.Sd hS
    have hne : ss ≠ [] := fun z => by rw [z] at e; exact absurd e (by decide)
    have hpos : 0 < ss.length := List.length_pos_iff.mpr hne
    refine ⟨_, rfl, _, rfl, S, _, rfl, .inl (.of hS2), ?_⟩
    refine ⟨d, c, _, rfl, dr2, by omega, by omega, fun H3 i f3 e3 dr3 i0 i1 => ?_⟩
    have g3 := g2.draw f3 e3 dr3
    obtain ⟨i, rfl⟩ := Int.eq_ofNat_of_zero_le i0
    have hi : i < ws.length := by omega
    obtain ⟨ss3, hS3, ha3⟩ := g3.st
    obtain ⟨xs, hp, lx⟩ := g3.plen
    refine ⟨_, rfl, .inl ⟨rfl, _, .inl (.inl hp)⟩, ?_⟩
    refine ⟨_, rfl, sh2, fun t nt => ?_⟩
    have st := same_upd nt (o := .tup [.str "step", .int (i : Nat)])
    have et : (upd H3 t (.tup [.str "step", .int (i : Nat)])) t = some (.tup [.str "step", .int (i : Nat)]) := upd_same
    generalize upd H3 t (.tup [.str "step", .int (i : Nat)]) = H4 at st et ⊢
    have g4 := g3.ext st
    refine ⟨p, xs, _, rfl, rfl, st _ _ hp, Nat.lt_of_le_of_lt (m := 1000) (by omega) (by decide), ?_⟩
    have g5 := g4.push (o := .step i) (v := .ref t) (st _ _ hp) (.tup (.inl (.inl et)) (.cons (.str _) (.cons (.int _) .nil)))
    generalize hH5 : upd H4 p (.lst (xs ++ [V.ref t])) = H5 at g5
    obtain ⟨ss5, hS5, ha5⟩ := g5.st
    have hw : (ws.map wD)[i]? = some (wD ws[i]) := by rw [List.getElem?_map, List.getElem?_eq_getElem hi]; rfl
    obtain ⟨v5, hv5, dv5⟩ := DpAll.get ha5 hw
    obtain ⟨pw, ys, rfl, hys, hya⟩ := Dp.tupI dv5
    obtain ⟨z0, hz0, dz0⟩ := DpAll.get (i := 0) hya rfl
    rw [Dp.intI dz0] at hz0
    obtain ⟨z1, hz1, dz1⟩ := DpAll.get (i := 1) hya rfl
    have hz1' : z1 = .bl (ws[i]).2 := by cases dz1; rfl
    subst hz1'
    refine ⟨_, rfl, _, rfl, S, _, _, _, rfl, rfl, .of hS5, atI_nat hv5, pw, ys, 0, _, rfl, rfl, hys, atI_nat hz0, ?_⟩
    refine ⟨_, rfl, _, rfl, S, _, _, _, rfl, rfl, .of hS5, atI_nat hv5, pw, ys, 1, _, rfl, rfl, hys, atI_nat hz1, ?_⟩
    refine ⟨sh2, fun t2 nt2 => ?_⟩
    have f5 : Fd2 d p H H5 := by
      rw [← hH5]
      exact ((((Fd2.fd f1).trans (.fd f2)).trans (.fd f3)).trans (.of st)).trans .at
    refine q _ t2 (ws[i]).1 (.step i) (g5.ext (same_upd nt2)) (f5.trans (.of (same_upd nt2))) ⟨Ly.ok (n := 5) (Ly.tup (.cons (.str (by decide +kernel)) (.cons (.int _) .nil))) (by decide), hi⟩ ?_
    rw [upd_same]
    have e6 : falls1 (ws.map (·.2)) [Op.step i] = (ws[i]).2 := by
      show (!((!((ws.map (·.2)).getD i false)) || false)) = _
      rw [List.getD_eq_getElem?_getD, List.getElem?_map, List.getElem?_eq_getElem hi]
      show (!((!(ws[i]).2) || false)) = _
      cases (ws[i]).2 <;> rfl
    rw [e6]
theorem ok_one {f : Addr} {fd : FuncData} (F : Fun K "_law_one_column" "_law_one_column" s__law_one_column f fd) (M : Mg mg) : FnOk P w K mg base CX0 1 f fd ["plan"] (sp_one K) := by
  refine F.ok sc__law_one_column (fun vs H Q E h => ?_) (fun cdv A outer s H vs Q E hr h => ?_)
  · obtain ⟨L, d, c, p, S, ops, ws, rfl, _⟩ := h
    rfl
  · obtain ⟨L, d, c, p, S, ops, ws, rfl, g, lo, q⟩ := h
    obtain ⟨xs, hp, lx⟩ := g.plen
    refine ⟨_, (pss_cons (ps_expr (pe_bmK K PySem.F.plainAttrs_list PySem.F.slot_list_append PySem.F.type_list_append mt_append (pv 0) (pa_cons (pe_tup (pa_cons pe_str (pa_cons (pe_lst (pa_cons (pe_tup (pa_cons pe_str (pa_cons pe_int pa_nil))) pa_nil)) (pa_cons (pe_op op_sub (pe_callB (len_seqK K) (by rfl) M.len PySem.boot_len (pa_cons (pv 0) pa_nil)) pe_int) pa_nil)))) pa_nil)))
      (pss_one (ps_ret (pe_op op_sub (pe_callB (len_seqK K) (by rfl) M.len PySem.boot_len (pa_cons (pv 0) pa_nil)) pe_int)))), ?_⟩
    refine ⟨_, rfl, .inl ⟨rfl, _, .inl (.inl hp)⟩, ?_⟩
    have sh3 : (3 : Nat) ≤ sizeLine := by decide
    refine ⟨by show 2 ≤ sizeLine; decide, fun t1 n1 => ?_⟩
    have s1 := same_upd n1 (o := .tup [.str "column", .int 0])
    have h1 : (upd H t1 (.tup [.str "column", .int 0])) t1 = some (.tup [.str "column", .int 0]) := upd_same
    generalize upd H t1 (.tup [.str "column", .int 0]) = H1 at s1 h1 ⊢
    refine ⟨by show 1 ≤ sizeLine; decide, fun t2 n2 => ?_⟩
    have l2 := (g.ext s1).fr _ n2
    have s2 := same_upd n2 (o := .lst [.ref t1])
    have h2 : (upd H1 t2 (.lst [.ref t1])) t2 = some (.lst [.ref t1]) := upd_same
    have h12 := s2 _ _ h1
    generalize upd H1 t2 (.lst [.ref t1]) = H2 at s2 h2 h12 ⊢
    have hp2 := (s1.trans s2) _ _ hp
    refine ⟨_, rfl, p, _, rfl, .inl (.of hp2), _, _, rfl, rfl, sh3, fun t3 n3 => ?_⟩
    have s3 := same_upd n3 (o := .tup [.str "map", .ref t2, .int ((xs.length : Int) - 1)])
    have h3 : (upd H2 t3 (.tup [.str "map", .ref t2, .int ((xs.length : Int) - 1)])) t3 = some (.tup [.str "map", .ref t2, .int ((xs.length : Int) - 1)]) := upd_same
    have h13 := s3 _ _ h12
    have h23 := s3 _ _ h2
    generalize upd H2 t3 (.tup [.str "map", .ref t2, .int ((xs.length : Int) - 1)]) = H3 at s3 h3 h13 h23 ⊢
    have hp3 := s3 _ _ hp2
    have g3 := g.ext ((s1.trans s2).trans s3)
    refine ⟨p, xs, _, rfl, rfl, hp3, Nat.lt_of_le_of_lt (m := 1000) (by omega) (by decide), ?_⟩
    have g4 := g3.push (o := .other false "map" [.list [.tuple [.str "column", .int 0]], .int ((xs.length : Int) - 1)]) (v := .ref t3) hp3 (.tup (.inl (.inl h3)) (.cons (.str _) (.cons (.lst l2 h23 (.cons (.tup (.inl (.inl h13)) (.cons (.str _) (.cons (.int _) .nil))) .nil)) (.cons (.int _) .nil))))
    refine ⟨_, rfl, p, _, rfl, .inl (.of upd_same), _, _, rfl, rfl, ?_⟩
    refine q _ _ _ g4 ((Fd2.of ((s1.trans s2).trans s3)).trans .at) ⟨Ly.ok (n := 5) (Ly.tup (.cons (.str (by decide +kernel)) (.cons (Ly.lst (.cons (Ly.tup (.cons (.str (by decide +kernel)) (.cons (.int _) .nil))) .nil)) (.cons (.int _) .nil)))) (by decide), .inl ⟨rfl, .inl rfl⟩⟩ fun _ => rfl
theorem DpLs.rep {L : Addr → Prop} {H : Hp} {v : V} {x : PyData} (h : DpL L K H v x) : ∀ n : Nat, DpLs L K H (List.replicate n [v]).flatten (List.replicate n x)
  | 0 => .nil
  | n + 1 => by
    rw [List.replicate_succ, List.replicate_succ, List.flatten_cons]
    exact .cons h (DpLs.rep h n)
theorem eqv_nil (ks : List PyData) : PyData.eqv (.list ks) (.list []) = ks.isEmpty := by cases ks <;> rfl
theorem Chg.tr {L : Addr → Prop} {H H1 H2 : Hp} (a : Chg L H H1) (b : Chg L H1 H2) : Chg L H H2 := fun x o e => by
  rcases a x o e with h | h | h
  · exact .inl h
  · exact .inr (.inl h)
  · exact b x o h
theorem Chg.dr {L : Addr → Prop} {H H1 : Hp} {d c : Addr} (dr : Dr H d c) (n : ¬ L d) (f : Fd d H H1) : Chg L H H1 := fun b o e => by
  by_cases hd : b = d
  · subst hd
    obtain ⟨zs, hz⟩ := dr.lst
    rw [hz] at e
    cases e
    exact .inl ⟨_, rfl, n⟩
  · exact .inr (.inr (f b o hd e))
set_option maxHeartbeats 8000000 in
theorem ok_grow {f : Addr} {fd : FuncData} (n : Nat) (F : Fun K "_law_grow" "_law_grow" s__law_grow f fd) (M : Mg mg) (c__law_next : Cl P w K mg base 1 "_law_next" sp_next) (c__law_leaf : Cl P w K mg base 2 "_law_leaf" (sp_leaf K)) (c__law_one_column : Cl P w K mg base 1 "_law_one_column" (sp_one K)) (c__law_grow : Cl P w K mg base (n + 2) "_law_grow" (sp_grow K n)) : FnOk P w K mg base CX0 (n + 3) f fd ["draw", "plan", "steps", "depth"] (sp_grow K (n + 1)) := by
  refine F.ok sc__law_grow (fun vs H Q E h => ?_) (fun cdv A outer s H vs Q E hr h => ?_)
  · obtain ⟨L, d, c, p, S, ops, ws, m, rfl, _⟩ := h
    rfl
  · obtain ⟨L, d, c, p, S, ops, ws, m, rfl, hm, hm3, g, lw, lo, q⟩ := h
    have sh2 : (2 : Nat) ≤ sizeLine := by decide
    refine ⟨_, (pss_cons (ps_set (i := 4) sc__law_grow.nd rfl (.inl rfl) (pe_u c__law_next hr (by first | decide | omega) (by rfl) (pa_cons (pv 0) (pa_cons pe_int pa_nil))))
      (pss_cons (ps_if (PW.pt (pw_or (pt_cmpR op_eq (pv 3) pe_int (nomark _)) (pw_or1 (pt_cmpR op_eq (pv 4) pe_int (nomark _))))) (pss_one (ps_ret (pe_u c__law_leaf hr (by first | decide | omega) (by rfl) (pa_cons (pv 0) (pa_cons (pv 1) (pa_cons (pv 2) pa_nil)))))) pss_nil)
      (pss_cons (ps_asg (pe_u c__law_grow hr (by first | decide | omega) (by rfl) (pa_cons (pv 0) (pa_cons (pv 1) (pa_cons (pv 2) (pa_cons (pe_op op_sub (pv 3) pe_int) pa_nil))))) (pg_tup (by rfl) (pgs_cons (pg_name (i := 5) sc__law_grow.nd rfl (.inl rfl)) (pgs_cons (pg_name (i := 6) sc__law_grow.nd rfl (.inl rfl)) pgs_nil))))
      (pss_cons (ps_set (i := 7) sc__law_grow.nd rfl (.inl rfl) (pe_op op_sub (pe_callB (len_seqK K) (by rfl) M.len PySem.boot_len (pa_cons (pv 1) pa_nil)) pe_int))
      (pss_cons (ps_if (pt_cmpR op_eq (pv 4) pe_int (nomark _)) (pss_cons (ps_expr (pe_bmK K PySem.F.plainAttrs_list PySem.F.slot_list_append PySem.F.type_list_append mt_append (pv 1) (pa_cons (pe_tup (pa_cons pe_str (pa_cons (pe_tup (pa_cons pe_str (pa_cons (pe_tup (pa_cons pe_str (pa_cons (pe_op op_sub (pv 5) pe_int) pa_nil))) (pa_cons (pe_tup (pa_cons pe_str (pa_cons pe_int pa_nil))) pa_nil)))) (pa_cons (pv 7) pa_nil)))) pa_nil)))
      (pss_one (ps_ret (pe_tup (pa_cons (pv 5) (pa_cons (pv 6) pa_nil)))))) pss_nil)
      (pss_cons (ps_if (pt_cmpR op_eq (pv 4) pe_int (nomark _)) (pss_cons (ps_expr (pe_bmK K PySem.F.plainAttrs_list PySem.F.slot_list_append PySem.F.type_list_append mt_append (pv 1) (pa_cons (pe_tup (pa_cons pe_str (pa_cons (pe_lst (pa_cons (pe_tup (pa_cons pe_str (pa_cons pe_int pa_nil))) (pa_cons (pe_tup (pa_cons pe_str (pa_cons pe_non pa_nil))) pa_nil))) (pa_cons (pv 7) pa_nil)))) pa_nil)))
      (pss_one (ps_ret (pe_tup (pa_cons pe_int (pa_cons (pv 6) pa_nil)))))) pss_nil)
      (pss_cons (ps_if (pt_cmpR op_lt (pv 4) pe_int (nomark _)) (pss_cons (ps_set (i := 8) sc__law_grow.nd rfl (.inl rfl) (pe_op op_rep (pe_lst (pa_cons (pe_tup (pa_cons pe_str (pa_cons (pe_op op_sub (pv 5) pe_int) pa_nil))) pa_nil)) (pe_u c__law_next hr (by first | decide | omega) (by rfl) (pa_cons (pv 0) (pa_cons pe_int pa_nil)))))
      (pss_cons (ps_set (i := 9) sc__law_grow.nd rfl (.inl rfl) (pe_ifExp (pt_truthK K (pv 8) (by intro _; rfl)) (pe_op op_rep (pe_lst (pa_cons (pe_tup (pa_cons pe_str pa_nil)) pa_nil)) (pe_u c__law_next hr (by first | decide | omega) (by rfl) (pa_cons (pv 0) (pa_cons pe_int pa_nil)))) (pe_lst (pa_cons (pe_tup (pa_cons pe_str (pa_cons (pe_tup (pa_cons pe_str (pa_cons pe_int pa_nil))) pa_nil))) pa_nil))))
      (pss_cons (ps_expr (pe_bmK K PySem.F.plainAttrs_list PySem.F.slot_list_append PySem.F.type_list_append mt_append (pv 1) (pa_cons (pe_tup (pa_cons pe_str (pa_cons (pv 8) (pa_cons (pv 9) (pa_cons (pv 7) pa_nil))))) pa_nil)))
      (pss_one (ps_ret (pe_tup (pa_cons (pe_op op_add (pe_callB (len_seqK K) (by rfl) M.len PySem.boot_len (pa_cons (pv 8) pa_nil)) (pe_callB (len_seqK K) (by rfl) M.len PySem.boot_len (pa_cons (pv 9) pa_nil))) (pa_cons (pe_and (pv 6) (pe_and (pe_cmpR (neDK K hr.units) (pv 8) (pe_lst pa_nil) (nomark _)) (pe_one (pe_cmpR (eqDK K hr.units) (pv 9) (pe_lst pa_nil) (nomark _))))) pa_nil)))))))) pss_nil)
      (pss_cons (ps_if (pt_cmpR op_lt (pv 4) pe_int (nomark _)) (pss_one (ps_set (i := 7) sc__law_grow.nd rfl (.inl rfl) (pe_u c__law_one_column hr (by first | decide | omega) (by rfl) (pa_cons (pv 1) pa_nil)))) pss_nil)
      (pss_cons (ps_asg (pe_u c__law_grow hr (by first | decide | omega) (by rfl) (pa_cons (pv 0) (pa_cons (pv 1) (pa_cons (pv 2) (pa_cons (pe_op op_sub (pv 3) pe_int) pa_nil))))) (pg_tup (by rfl) (pgs_cons (pg_name (i := 10) sc__law_grow.nd rfl (.inl rfl)) (pgs_cons (pg_name (i := 11) sc__law_grow.nd rfl (.inl rfl)) pgs_nil))))
      (pss_cons (ps_set (i := 12) sc__law_grow.nd rfl (.inl rfl) (pe_op op_sub (pe_callB (len_seqK K) (by rfl) M.len PySem.boot_len (pa_cons (pv 1) pa_nil)) pe_int))
      (pss_cons (ps_if (pt_cmpR op_lt (pv 4) pe_int (nomark _)) (pss_cons (ps_set (i := 12) sc__law_grow.nd rfl (.inl rfl) (pe_u c__law_one_column hr (by first | decide | omega) (by rfl) (pa_cons (pv 1) pa_nil)))
      (pss_cons (ps_expr (pe_bmK K PySem.F.plainAttrs_list PySem.F.slot_list_append PySem.F.type_list_append mt_append (pv 1) (pa_cons (pe_tup (pa_cons (pe_ix (ix_listK K) (pe_lst (pa_cons pe_str (pa_cons pe_str (pa_cons pe_str pa_nil)))) (pe_op op_sub (pv 4) pe_int) (fun _ _ => rfl)) (pa_cons (pv 7) (pa_cons (pv 12) pa_nil)))) pa_nil)))
      (pss_one (ps_ret (pe_tup (pa_cons pe_int (pa_cons (pe_and (pv 6) (pe_and (pv 11) (pe_one (pe_cmpR op_ne (pv 4) pe_int (nomark _))))) pa_nil))))))) pss_nil)
      (pss_cons (ps_expr (pe_bmK K PySem.F.plainAttrs_list PySem.F.slot_list_append PySem.F.type_list_append mt_append (pv 1) (pa_cons (pe_tup (pa_cons (pe_ix (ix_listK K) (pe_lst (pa_cons pe_str (pa_cons pe_str pa_nil))) (pe_op op_sub (pv 4) pe_int) (fun _ _ => rfl)) (pa_cons (pe_tup (pa_cons pe_str (pa_cons (pe_tup (pa_cons pe_str (pa_cons pe_int pa_nil))) (pa_cons (pe_tup (pa_cons pe_str (pa_cons (pv 5) pa_nil))) pa_nil)))) (pa_cons (pv 7) (pa_cons (pv 12) pa_nil))))) pa_nil)))
      (pss_one (ps_ret (pe_tup (pa_cons (pe_ifExp (pt_cmpR op_eq (pv 4) pe_int (nomark _)) (pe_op op_add (pv 5) (pv 10)) (pv 5)) (pa_cons (pe_and (pv 6) (pe_and (pv 11) (pe_one (pe_cmpR op_eq (pv 4) pe_int (nomark _))))) pa_nil))))))))))))))))), ?_⟩
    refine ⟨_, rfl, d, c, 10, rfl, g.dr, by decide, by decide, fun H1 r f1 e1 dr1 r0 r1 => ?_⟩
    have g1 := g.draw f1 e1 dr1
    have leaf : (tRet (tCall (sp_leaf K) [] E0 (tCons (tVar 0) (tCons (tVar 1) (tCons (tVar 2) tNil)))) { nx := fun x H' => Q V.non H', rt := Q } [some (.ref d), some (.ref p), some (.ref S), some (.int (m : Nat)), some (.int r), none, none, none, none, none, none, none, none] H1) := by
      refine ⟨_, rfl, _, rfl, _, rfl, L, d, c, p, S, ops, ws, rfl, g1, lw, by omega, fun H2 t w o g2 f2 ok et => ?_⟩
      have hp : 1 ≤ 2 ^ m := Nat.one_le_two_pow
      exact q H2 t w [o] g2 ((Fd2.fd f1).trans f2) (fun x hx => by rw [List.mem_singleton.mp hx]; exact ok) (by show 1 + 3 ≤ _; omega) et
    refine ⟨_, rfl, rfl, _, rfl, ite2 (fun e => iteT leaf) (fun e => ⟨_, rfl, rfl, _, rfl, ite2 (fun _ => leaf) (fun er => ?_)⟩)⟩
    have hm0 : m ≠ 0 := fun z => by subst z; exact e (decide_eq_true rfl)
    obtain ⟨k, rfl⟩ : ∃ k, m = k + 1 := ⟨m - 1, by omega⟩
    have hk1 : 1 ≤ 2 ^ k := Nat.one_le_two_pow
    have hk2 : 2 ^ (k + 1) = 2 ^ k * 2 := Nat.pow_succ ..
    have dec : [V.ref d, V.ref p, V.ref S, V.int (((k + 1 : Nat) : Int) - 1)] = [V.ref d, V.ref p, V.ref S, V.int (k : Nat)] := by rw [show (((k + 1 : Nat) : Int) - 1) = (k : Nat) by omega]
    refine ⟨_, rfl, _, rfl, _, rfl, _, rfl, _, _, rfl, rfl, L, d, c, p, S, ops, ws, k, dec, by omega, by omega, g1, lw, by omega, fun H2 t1 w1 n1 g2 f2 ok1 l1 et1 => ?_⟩
    refine ⟨t1, _, rfl, .of et1, rfl, _, _, rfl, _, _, rfl, rfl, ?_⟩
    have f12 : Fd2 d p H H2 := (Fd2.fd f1).trans f2
    obtain ⟨xs2, hp2, lx2⟩ := g2.plen
    rw [List.length_append] at lx2
    refine ⟨_, rfl, p, _, rfl, .inl (.of hp2), _, _, rfl, rfl, ?_⟩
    have hb1 : ∀ o : Op, falls1 (ws.map (·.2)) (n1 ++ [o]) = (falls1 (ws.map (·.2)) n1 && !(o.up (ws.map (·.2)))) := fun o => by
      rw [falls1_app]
      show (_ && !(Op.up _ o || false)) = _
      rw [Bool.or_false]
    have okA : ∀ o : Op, o.ok ws.length → ∀ x ∈ n1 ++ [o], x.ok ws.length := fun o ho x hx => by
      rcases List.mem_append.mp hx with h | h
      · exact ok1 x h
      · rw [List.mem_singleton.mp h]; exact ho
    generalize hB1 : falls1 (ws.map (·.2)) n1 = b1 at hb1 ⊢
    dsimp only
    generalize hF : ((xs2.length : Int) - 1) = first
    have sh3 : (3 : Nat) ≤ sizeLine := by decide
    have sh4 : (4 : Nat) ≤ sizeLine := by decide
    have sz : ∀ n : Nat, n ≤ 1000 → n < sizeLine := fun n h => Nat.lt_of_le_of_lt h (by decide)
    refine ⟨_, rfl, rfl, _, rfl, ite2 (fun e1 => ?_) (fun e1 => ?_)⟩
    · -- a filter
      refine ⟨_, rfl, .inl ⟨rfl, _, .inl (.inl hp2)⟩, ?_⟩
      refine ⟨_, rfl, _, _, rfl, rfl, ?_⟩
      refine ⟨sh2, fun u1 nu1 => ?_⟩
      have sH3 := same_upd nu1 (o := .tup [.str "column", .int (w1 - 1)])
      have au1 : (upd H2 u1 (.tup [.str "column", .int (w1 - 1)])) u1 = some (.tup [.str "column", .int (w1 - 1)]) := upd_same
      generalize upd H2 u1 (.tup [.str "column", .int (w1 - 1)]) = H3 at sH3 au1  ⊢
      refine ⟨sh2, fun u2 nu2 => ?_⟩
      have sH4 := same_upd nu2 (o := .tup [.str "constant", .int 3])
      have au2 : (upd H3 u2 (.tup [.str "constant", .int 3])) u2 = some (.tup [.str "constant", .int 3]) := upd_same
      have au1 := sH4 _ _ au1
      generalize upd H3 u2 (.tup [.str "constant", .int 3]) = H4 at sH4 au2 au1 ⊢
      refine ⟨sh3, fun u3 nu3 => ?_⟩
      have sH5 := same_upd nu3 (o := .tup [.str "less", .ref u1, .ref u2])
      have au3 : (upd H4 u3 (.tup [.str "less", .ref u1, .ref u2])) u3 = some (.tup [.str "less", .ref u1, .ref u2]) := upd_same
      have au1 := sH5 _ _ au1
      have au2 := sH5 _ _ au2
      generalize upd H4 u3 (.tup [.str "less", .ref u1, .ref u2]) = H5 at sH5 au3 au1 au2 ⊢
      refine ⟨_, rfl, ?_⟩
      refine ⟨sh3, fun u4 nu4 => ?_⟩
      have sH6 := same_upd nu4 (o := .tup [.str "filter", .ref u3, .int first])
      have au4 : (upd H5 u4 (.tup [.str "filter", .ref u3, .int first])) u4 = some (.tup [.str "filter", .ref u3, .int first]) := upd_same
      have au1 := sH6 _ _ au1
      have au2 := sH6 _ _ au2
      have au3 := sH6 _ _ au3
      generalize upd H5 u4 (.tup [.str "filter", .ref u3, .int first]) = H6 at sH6 au4 au1 au2 au3 ⊢
      have sa := ((sH3.trans sH4).trans sH5).trans sH6
      have g6 := g2.ext sa
      have hp6 := sa _ _ hp2
      refine ⟨p, xs2, _, rfl, rfl, hp6, sz _ (by omega), ?_⟩
      have g7 := g6.push (o := .other false "filter" [.tuple [.str "less", .tuple [.str "column", .int (w1 - 1)], .tuple [.str "constant", .int 3]], .int first]) (v := .ref u4) hp6 (.tup (.inl (.inl au4)) (.cons (.str _) (.cons (.tup (.inl (.inl au3)) (.cons (.str _) (.cons (.tup (.inl (.inl au1)) (.cons (.str _) (.cons (.int _) .nil))) (.cons (.tup (.inl (.inl au2)) (.cons (.str _) (.cons (.int _) .nil))) .nil)))) (.cons (.int _) .nil))))
      refine ⟨_, rfl, _, rfl, sh2, fun t nt => ?_⟩
      rw [List.append_assoc] at g7
      refine q _ t w1 _ (g7.ext (same_upd nt)) (((f12.trans (.of sa)).trans .at).trans (.of (same_upd nt))) (okA _ ⟨Ly.ok (n := 5) (Ly.tup (.cons (.str (by decide +kernel)) (.cons (Ly.tup (.cons (.str (by decide +kernel)) (.cons (Ly.tup (.cons (.str (by decide +kernel)) (.cons (.int _) .nil))) (.cons (Ly.tup (.cons (.str (by decide +kernel)) (.cons (.int _) .nil))) .nil)))) (.cons (.int _) .nil)))) (by decide), .inl ⟨rfl, .inr (.inl rfl)⟩⟩) (by rw [List.length_append, List.length_singleton]; omega) ?_
      rw [upd_same, hb1]
      show some (HO.tup [V.int w1, V.bl b1]) = some (HO.tup [V.int w1, V.bl (b1 && !false)])
      rw [Bool.not_false, Bool.and_true]
    refine ⟨_, rfl, rfl, _, rfl, ite2 (fun e2 => ?_) (fun e2 => ?_)⟩
    · -- a map
      refine ⟨_, rfl, .inl ⟨rfl, _, .inl (.inl hp2)⟩, ?_⟩
      refine ⟨sh2, fun u1 nu1 => ?_⟩
      have sH3 := same_upd nu1 (o := .tup [.str "column", .int 0])
      have au1 : (upd H2 u1 (.tup [.str "column", .int 0])) u1 = some (.tup [.str "column", .int 0]) := upd_same
      generalize upd H2 u1 (.tup [.str "column", .int 0]) = H3 at sH3 au1  ⊢
      refine ⟨sh2, fun u2 nu2 => ?_⟩
      have sH4 := same_upd nu2 (o := .tup [.str "constant", .non])
      have au2 : (upd H3 u2 (.tup [.str "constant", .non])) u2 = some (.tup [.str "constant", .non]) := upd_same
      have au1 := sH4 _ _ au1
      generalize upd H3 u2 (.tup [.str "constant", .non]) = H4 at sH4 au2 au1 ⊢
      have lu3 : ∀ a, H4 a = none → L a := (g2.ext (sH3.trans sH4)).fr
      refine ⟨sh2, fun u3 nu3 => ?_⟩
      have sH5 := same_upd nu3 (o := .lst [.ref u1, .ref u2])
      have au3 : (upd H4 u3 (.lst [.ref u1, .ref u2])) u3 = some (.lst [.ref u1, .ref u2]) := upd_same
      have au1 := sH5 _ _ au1
      have au2 := sH5 _ _ au2
      generalize upd H4 u3 (.lst [.ref u1, .ref u2]) = H5 at sH5 au3 au1 au2 ⊢
      refine ⟨_, rfl, ?_⟩
      refine ⟨sh3, fun u4 nu4 => ?_⟩
      have sH6 := same_upd nu4 (o := .tup [.str "map", .ref u3, .int first])
      have au4 : (upd H5 u4 (.tup [.str "map", .ref u3, .int first])) u4 = some (.tup [.str "map", .ref u3, .int first]) := upd_same
      have au1 := sH6 _ _ au1
      have au2 := sH6 _ _ au2
      have au3 := sH6 _ _ au3
      generalize upd H5 u4 (.tup [.str "map", .ref u3, .int first]) = H6 at sH6 au4 au1 au2 au3 ⊢
      have sa := ((sH3.trans sH4).trans sH5).trans sH6
      have g6 := g2.ext sa
      have hp6 := sa _ _ hp2
      refine ⟨p, xs2, _, rfl, rfl, hp6, sz _ (by omega), ?_⟩
      have g7 := g6.push (o := .other false "map" [.list [.tuple [.str "column", .int 0], .tuple [.str "constant", .none]], .int first]) (v := .ref u4) hp6 (.tup (.inl (.inl au4)) (.cons (.str _) (.cons (.lst (lu3 _ nu3) au3 (.cons (.tup (.inl (.inl au1)) (.cons (.str _) (.cons (.int _) .nil))) (.cons (.tup (.inl (.inl au2)) (.cons (.str _) (.cons .non .nil))) .nil))) (.cons (.int _) .nil))))
      refine ⟨_, rfl, sh2, fun t nt => ?_⟩
      rw [List.append_assoc] at g7
      refine q _ t 2 _ (g7.ext (same_upd nt)) (((f12.trans (.of sa)).trans .at).trans (.of (same_upd nt))) (okA _ ⟨Ly.ok (n := 5) (Ly.tup (.cons (.str (by decide +kernel)) (.cons (Ly.lst (.cons (Ly.tup (.cons (.str (by decide +kernel)) (.cons (.int _) .nil))) (.cons (Ly.tup (.cons (.str (by decide +kernel)) (.cons .non .nil))) .nil))) (.cons (.int _) .nil)))) (by decide), .inl ⟨rfl, .inl rfl⟩⟩) (by rw [List.length_append, List.length_singleton]; omega) ?_
      rw [upd_same, hb1]
      show some (HO.tup [V.int 2, V.bl b1]) = some (HO.tup [V.int 2, V.bl (b1 && !false)])
      rw [Bool.not_false, Bool.and_true]
    refine ⟨_, rfl, _, _, rfl, rfl, _, rfl, ite2 (fun e3 => ?_) (fun e3 => ?_)⟩
    · -- a group
      refine ⟨_, rfl, _, _, rfl, rfl, ?_⟩
      refine ⟨sh2, fun u1 nu1 => ?_⟩
      have sH3 := same_upd nu1 (o := .tup [.str "column", .int (w1 - 1)])
      have au1 : (upd H2 u1 (.tup [.str "column", .int (w1 - 1)])) u1 = some (.tup [.str "column", .int (w1 - 1)]) := upd_same
      generalize upd H2 u1 (.tup [.str "column", .int (w1 - 1)]) = H3 at sH3 au1  ⊢
      have lu2 : ∀ a, H3 a = none → L a := (g2.ext sH3).fr
      refine ⟨(by show 1 ≤ sizeLine; decide), fun u2 nu2 => ?_⟩
      have sH4 := same_upd nu2 (o := .lst [.ref u1])
      have au2 : (upd H3 u2 (.lst [.ref u1])) u2 = some (.lst [.ref u1]) := upd_same
      have au1 := sH4 _ _ au1
      generalize upd H3 u2 (.lst [.ref u1]) = H4 at sH4 au2 au1 ⊢
      have g4 := g2.ext (sH3.trans sH4)
      refine ⟨_, rfl, d, c, 3, rfl, g4.dr, by decide, by decide, fun H5 r5 f5 e5 dr5 r50 r51 => ?_⟩
      have g5 := g4.draw f5 e5 dr5
      have nd1 : u1 ≠ d := fun z => by
        obtain ⟨zs, hz⟩ := g2.dr.lst
        rw [← z, nu1] at hz
        cases hz
      have nd2 : u2 ≠ d := fun z => by
        obtain ⟨zs, hz⟩ := (g2.ext sH3).dr.lst
        rw [← z, nu2] at hz
        cases hz
      have au1 := f5 _ _ nd1 au1
      have au2 := f5 _ _ nd2 au2
      obtain ⟨kn, rfl⟩ := Int.eq_ofNat_of_zero_le r50
      refine ⟨u2, _, _, rfl, rfl, au2, by omega, by omega, ?_, fun u3 nu3 => ?_⟩
      · exact Nat.le_trans (m := 1000) (by show 1 * _ ≤ _; omega) (by decide)
      have ekn : ((kn : Nat) : Int).toNat = kn := rfl
      rw [ekn]
      have L3 := g5.fr _ nu3
      have s6 := same_upd nu3 (o := .lst (List.replicate kn [V.ref u1]).flatten)
      have au3 : (upd H5 u3 (.lst (List.replicate kn [V.ref u1]).flatten)) u3 = some (.lst (List.replicate kn [V.ref u1]).flatten) := upd_same
      have au1 := s6 _ _ au1
      generalize upd H5 u3 (.lst (List.replicate kn [V.ref u1]).flatten) = H6 at s6 au3 au1 ⊢
      have g6 := g5.ext s6
      have f26 : Fd2 d p H2 H6 := ((Fd2.of (sH3.trans sH4)).trans (.fd f5)).trans (.of s6)
      have ks1 : DpL L K H6 (.ref u1) (.tuple [.str "column", .int (w1 - 1)]) := .tup (.inl (.inl au1)) (.cons (.str _) (.cons (.int _) .nil))
      have hks := DpLs.rep ks1 kn
      have lks : Ly 4 (.list (List.replicate kn (.tuple [.str "column", .int (w1 - 1)]))) := Ly.lst fun x hx => by
        rw [(List.mem_replicate.mp hx).2]
        exact Ly.tup (.cons (.str (by decide +kernel)) (.cons (.int _) .nil))
      have lkn : (List.replicate kn (PyData.tuple [.str "column", .int (w1 - 1)])).length = kn := List.length_replicate
      generalize List.replicate kn (PyData.tuple [.str "column", .int (w1 - 1)]) = ks at hks lks lkn
      have lkv := DpLs.len hks
      generalize (List.replicate kn [V.ref u1]).flatten = kv at hks au3 lkv ⊢
      skip
      refine ⟨_, rfl, !kv.isEmpty, .inl ⟨kv, .of au3, rfl⟩, ite2 (fun ek => ?h1) (fun ek => ?h2)⟩
      case' h1 =>
        refine ⟨(by show 1 ≤ sizeLine; decide), fun v1 nv1 => ?_⟩
        have sH7 := same_upd nv1 (o := .tup [.str "count"])
        have av1 : (upd H6 v1 (.tup [.str "count"])) v1 = some (.tup [.str "count"]) := upd_same
        have au3 := sH7 _ _ au3
        generalize upd H6 v1 (.tup [.str "count"]) = H7 at sH7 av1 au3 ⊢
        have lv2 : ∀ a, H7 a = none → L a := (g6.ext sH7).fr
        refine ⟨(by show 1 ≤ sizeLine; decide), fun v2 nv2 => ?_⟩
        have sH8 := same_upd nv2 (o := .lst [.ref v1])
        have av2 : (upd H7 v2 (.lst [.ref v1])) v2 = some (.lst [.ref v1]) := upd_same
        have au3 := sH8 _ _ au3
        have av1 := sH8 _ _ av1
        generalize upd H7 v2 (.lst [.ref v1]) = H8 at sH8 av2 au3 av1 ⊢
        have g8 := g6.ext (sH7.trans sH8)
        refine ⟨_, rfl, d, c, 2, rfl, g8.dr, by decide, by decide, fun H9 r9 f9 e9 dr9 r90 r91 => ?_⟩
        have g9 := g8.draw f9 e9 dr9
        have md1 : v1 ≠ d := fun z => by
          obtain ⟨zs, hz⟩ := g6.dr.lst
          rw [← z, nv1] at hz
          cases hz
        have md2 : v2 ≠ d := fun z => by
          obtain ⟨zs, hz⟩ := (g6.ext sH7).dr.lst
          rw [← z, nv2] at hz
          cases hz
        have md3 : u3 ≠ d := fun z => g6.nd (z ▸ L3)
        have av1 := f9 _ _ md1 av1
        have av2 := f9 _ _ md2 av2
        have au3 := f9 _ _ md3 au3
        obtain ⟨kt, rfl⟩ := Int.eq_ofNat_of_zero_le r90
        refine ⟨v2, _, _, rfl, rfl, av2, by omega, by omega, Nat.le_trans (m := 1000) (by show 1 * _ ≤ _; omega) (by decide), fun tt ntt => ?_⟩
        have ekt : ((kt : Nat) : Int).toNat = kt := rfl
        rw [ekt]
        have Lt := g9.fr _ ntt
        have s10 := same_upd ntt (o := .lst (List.replicate kt [V.ref v1]).flatten)
        have att : (upd H9 tt (.lst (List.replicate kt [V.ref v1]).flatten)) tt = some (.lst (List.replicate kt [V.ref v1]).flatten) := upd_same
        have av1 := s10 _ _ av1
        have au3 := s10 _ _ au3
        generalize upd H9 tt (.lst (List.replicate kt [V.ref v1]).flatten) = Hz at s10 att av1 au3 ⊢
        have gz := g9.ext s10
        have fz : Fd2 d p H2 Hz := ((f26.trans (.of (sH7.trans sH8))).trans (.fd f9)).trans (.of s10)
        have kz : DpLs L K Hz kv ks := DpLs.chg (Chg.tr (Chg.tr (Chg.of (sH7.trans sH8)) (Chg.dr g8.dr g8.nd f9)) (.of s10)) _ _ hks
        have t1' : DpL L K Hz (.ref v1) (.tuple [.str "count"]) := .tup (.inl (.inl av1)) (.cons (.str _) .nil)
        have dt := DpLs.rep t1' kt
        have lts : Ly 4 (.list (List.replicate kt (.tuple [.str "count"]))) := Ly.lst fun x hx => by
          rw [(List.mem_replicate.mp hx).2]
          exact Ly.tup (.cons (.str (by decide +kernel)) .nil)
        have ltn : (List.replicate kt (PyData.tuple [.str "count"])).length ≤ 100 := by rw [List.length_replicate]; omega
        generalize List.replicate kt (PyData.tuple [.str "count"]) = ts at dt lts ltn
        generalize (List.replicate kt [V.ref v1]).flatten = tv at dt att ⊢
        clear t1' s10 f9 e9 dr9 av2 av1 nv1 nv2 sH7 sH8 g8 g9 md1 md2 lv2 ntt r91 r90 ekt
      case' h2 =>
        refine ⟨sh2, fun v1 nv1 => ?_⟩
        have sH7 := same_upd nv1 (o := .tup [.str "column", .int 0])
        have av1 : (upd H6 v1 (.tup [.str "column", .int 0])) v1 = some (.tup [.str "column", .int 0]) := upd_same
        have au3 := sH7 _ _ au3
        generalize upd H6 v1 (.tup [.str "column", .int 0]) = H7 at sH7 av1 au3 ⊢
        refine ⟨sh2, fun v2 nv2 => ?_⟩
        have sH8 := same_upd nv2 (o := .tup [.str "sum", .ref v1])
        have av2 : (upd H7 v2 (.tup [.str "sum", .ref v1])) v2 = some (.tup [.str "sum", .ref v1]) := upd_same
        have au3 := sH8 _ _ au3
        have av1 := sH8 _ _ av1
        generalize upd H7 v2 (.tup [.str "sum", .ref v1]) = H8 at sH8 av2 au3 av1 ⊢
        have Lt0 : ∀ a, H8 a = none → L a := (g6.ext (sH7.trans sH8)).fr
        refine ⟨(by show 1 ≤ sizeLine; decide), fun tt ntt => ?_⟩
        have sHz := same_upd ntt (o := .lst [.ref v2])
        have att : (upd H8 tt (.lst [.ref v2])) tt = some (.lst [.ref v2]) := upd_same
        have au3 := sHz _ _ au3
        have av1 := sHz _ _ av1
        have av2 := sHz _ _ av2
        generalize upd H8 tt (.lst [.ref v2]) = Hz at sHz att au3 av1 av2 ⊢
        have Lt := Lt0 _ ntt
        have att := att
        have gz := g6.ext ((sH7.trans sH8).trans sHz)
        have fz : Fd2 d p H2 Hz := f26.trans (.of ((sH7.trans sH8).trans sHz))
        have kz : DpLs L K Hz kv ks := DpLs.chg (Chg.of ((sH7.trans sH8).trans sHz)) _ _ hks
        have dt : DpLs L K Hz [.ref v2] [.tuple [.str "sum", .tuple [.str "column", .int 0]]] := .cons (.tup (.inl (.inl av2)) (.cons (.str _) (.cons (.tup (.inl (.inl av1)) (.cons (.str _) (.cons (.int _) .nil))) .nil))) .nil
        have lts : Ly 4 (.list [.tuple [.str "sum", .tuple [.str "column", .int 0]]]) := Ly.lst (.cons (Ly.tup (.cons (.str (by decide +kernel)) (.cons (Ly.tup (.cons (.str (by decide +kernel)) (.cons (.int _) .nil))) .nil))) .nil)
        have ltn : ([PyData.tuple [.str "sum", .tuple [.str "column", .int 0]]]).length ≤ 100 := by show 1 ≤ 100; decide
        generalize [PyData.tuple [.str "sum", .tuple [.str "column", .int 0]]] = ts at dt lts ltn
        generalize [V.ref v2] = tv at dt att ⊢
        clear sH7 sH8 sHz av1 av2 Lt0 ntt nv1 nv2
      all_goals
        obtain ⟨xsz, hpz, lxz⟩ := gz.plen
        rw [List.length_append] at lxz
        have ltv := DpLs.len dt
        refine ⟨_, rfl, .inl ⟨rfl, _, .inl (.inl hpz)⟩, ?_⟩
        refine ⟨_, rfl, _, rfl, _, rfl, ?_⟩
        refine ⟨sh4, fun u4 nu4 => ?_⟩
        have sHy := same_upd nu4 (o := .tup [.str "group", .ref u3, .ref tt, .int first])
        have au4 : (upd Hz u4 (.tup [.str "group", .ref u3, .ref tt, .int first])) u4 = some (.tup [.str "group", .ref u3, .ref tt, .int first]) := upd_same
        have au3 := sHy _ _ au3
        have att := sHy _ _ att
        generalize upd Hz u4 (.tup [.str "group", .ref u3, .ref tt, .int first]) = Hy at sHy au4 au3 att ⊢
        have gy := gz.ext sHy
        have hpy := sHy _ _ hpz
        refine ⟨p, xsz, _, rfl, rfl, hpy, sz _ (by omega), ?_⟩
        have ky := DpLs.chg (Chg.of sHy) _ _ kz
        have ty := DpLs.chg (Chg.of sHy) _ _ dt
        have gx := gy.push (o := .group ks ts first) (v := .ref u4) hpy (.tup (.inl (.inl au4)) (.cons (.str _) (.cons (.lst L3 au3 ky) (.cons (.lst Lt att ty) (.cons (.int _) .nil)))))
        have np3 : u3 ≠ p := fun z => g6.np (z ▸ L3)
        have npt : tt ≠ p := fun z => g6.np (z ▸ Lt)
        have bu3 : (upd Hy p (.lst (xsz ++ [V.ref u4]))) u3 = some (.lst kv) := by rw [upd_ne np3]; exact au3
        have btt : (upd Hy p (.lst (xsz ++ [V.ref u4]))) tt = some (.lst tv) := by rw [upd_ne npt]; exact att
        have kx := DpLs.chg (Chg.at (o := .lst (xsz ++ [V.ref u4])) hpy g6.np) _ _ ky
        have tx := DpLs.chg (Chg.at (o := .lst (xsz ++ [V.ref u4])) hpy g6.np) _ _ ty
        have fx : Fd2 d p H2 (upd Hy p (.lst (xsz ++ [V.ref u4]))) := (fz.trans (.of sHy)).trans .at
        generalize upd Hy p (.lst (xsz ++ [V.ref u4])) = Hx at gx bu3 btt kx tx fx ⊢
        rw [List.append_assoc] at gx
        have okg : (Op.group ks ts first).ok ws.length := ⟨Ly.ok (n := 5) (Ly.tup (.cons (.str (by decide +kernel)) (.cons lks (.cons lts (.cons (.int _) .nil))))) (by decide), by omega, ltn⟩
        have fin : ∀ (Hw : Hp) (t : Addr) (z : Int) (b : Bool), Same Hx Hw → Hw t = some (.tup [.int z, .bl b]) → b = (b1 && !((Op.group ks ts first).up (ws.map (·.2)))) → Q (.ref t) Hw := fun Hw t z b sw ew eb => by
          refine q Hw t z _ (gx.ext sw) ((f12.trans fx).trans (.of sw)) (okA _ okg) (by rw [List.length_append, List.length_singleton]; omega) ?_
          rw [hb1, ← eb]
          exact ew
        have eup : ∀ b : Bool, ks.isEmpty = b → (Op.group ks ts first).up (ws.map (·.2)) = (decide (0 < ts.length) || b) := fun b h => by rw [← h]; rfl
        have dk : ∀ Hw, Same Hx Hw → Dp K Hw (.ref u3) (.list ks) := fun Hw sw => Dp.ext sw _ _ (.lst (.of bu3) (DpLs.dp _ _ kx))
        have dtt : ∀ Hw, Same Hx Hw → Dp K Hw (.ref tt) (.list ts) := fun Hw sw => Dp.ext sw _ _ (.lst (.of btt) (DpLs.dp _ _ tx))
        refine ⟨_, rfl, u3, _, rfl, .inl (.of bu3), _, rfl, tt, _, rfl, .inl (.of btt), _, _, rfl, rfl, ?_⟩
        refine ⟨_, rfl, _, rfl, ite2 (fun eb => ?_) (fun eb => ?_)⟩
        · refine ⟨_, rfl, Nat.zero_le _, fun o1 no1 => ?_⟩
          have so1 := same_upd no1 (o := .lst [])
          have ao1 : (upd Hx o1 (.lst [])) o1 = some (.lst []) := upd_same
          generalize upd Hx o1 (.lst []) = Hw at so1 ao1 ⊢
          refine ⟨_, _, dk _ so1, .lst (.of ao1) .nil, shaped_one (Ly.ok lks (by decide)), by decide +kernel, _, rfl, ?_⟩
          rw [eqv_nil]
          refine ite2 (fun e5 => ?_) (fun e5 => ?_)
          · refine ⟨_, rfl, Nat.zero_le _, fun o2 no2 => ?_⟩
            have so2 := same_upd no2 (o := .lst [])
            have ao2 : (upd Hw o2 (.lst [])) o2 = some (.lst []) := upd_same
            generalize upd Hw o2 (.lst []) = Hv at so2 ao2 ⊢
            refine ⟨_, _, dtt _ (so1.trans so2), .lst (.of ao2) .nil, shaped_one (Ly.ok lts (by decide)), by decide +kernel, sh2, fun t nt => ?_⟩
            rw [eqv_nil]
            refine fin _ t _ _ ((so1.trans so2).trans (same_upd nt)) upd_same ?_
            rw [eb, eup false (by simpa using e5)]
            cases ts <;> rfl
          · refine ⟨sh2, fun t nt => fin _ t _ _ (so1.trans (same_upd nt)) upd_same ?_⟩
            rw [eup true (by simpa using e5), Bool.or_true]
            simp
        · refine ⟨sh2, fun t nt => fin _ t _ _ (same_upd nt) upd_same ?_⟩
          rw [Bool.eq_false_iff.mpr eb]
          rfl
    have hr5 : 5 ≤ r := by
      have := of_decide_eq_false (Bool.eq_false_iff.mpr e3)
      omega
    refine ⟨_, rfl, _, _, rfl, rfl, _, rfl, ite2 (fun e4 => ?_) (fun e4 => ?_)⟩
    · -- one column each
      have hr8 : r < 8 := of_decide_eq_true e4
      refine ⟨_, rfl, L, d, c, p, S, _, ws, rfl, g2, by rw [List.length_append]; omega, fun H3 o1 k1 g3 f3 ok3 up3 => ?_⟩
      refine ⟨_, rfl, _, rfl, _, rfl, _, rfl, _, _, rfl, rfl, L, d, c, p, S, _, ws, k, dec, by omega, by omega, g3, lw, by rw [List.length_append, List.length_append, List.length_singleton]; omega, fun H4 t2 w2 n2 g4 f4 ok4 l4 et4 => ?_⟩
      refine ⟨t2, _, rfl, .of et4, rfl, _, _, rfl, _, _, rfl, rfl, ?_⟩
      obtain ⟨xs4, hp4, lx4⟩ := g4.plen
      refine ⟨_, rfl, p, _, rfl, .inl (.of hp4), _, _, rfl, rfl, ?_⟩
      refine ⟨_, rfl, _, _, rfl, rfl, _, rfl, ite2 (fun _ => ?_) (fun z => absurd e4 z)⟩
      refine ⟨_, rfl, L, d, c, p, S, _, ws, rfl, g4, by simp only [List.length_append, List.length_singleton]; omega, fun H5 o2 k2 g5 f5 ok5 up5 => ?_⟩
      obtain ⟨xs5, hp5, lx5⟩ := g5.plen
      simp only [List.length_append, List.length_singleton] at lx5
      obtain ⟨b, w', hw, hwd, hb⟩ : ∃ (b : Bool) (w' : Str), atI [V.str "union", V.str "minus", V.str "union"] (r - 5) = some (.str w') ∧ WdOk b w' ∧ (!decide (V.int r = V.int 6)) = !b := by
        have : r = 5 ∨ r = 6 ∨ r = 7 := by omega
        rcases this with rfl | rfl | rfl
        · exact ⟨false, "union", atI_nat (j := 0) rfl, .inl ⟨rfl, .inr (.inr (.inl rfl))⟩, rfl⟩
        · exact ⟨true, "minus", atI_nat (j := 1) rfl, .inr ⟨rfl, .inl rfl⟩, rfl⟩
        · exact ⟨false, "union", atI_nat (j := 2) rfl, .inl ⟨rfl, .inr (.inr (.inl rfl))⟩, rfl⟩
      refine ⟨_, rfl, .inl ⟨rfl, _, .inl (.inl hp5)⟩, ?_⟩
      refine ⟨sh3, fun wp nwp => ?_⟩
      have sH6 := same_upd nwp (o := .lst [.str "union", .str "minus", .str "union"])
      have awp : (upd H5 wp (.lst [.str "union", .str "minus", .str "union"])) wp = some (.lst [.str "union", .str "minus", .str "union"]) := upd_same
      generalize upd H5 wp (.lst [.str "union", .str "minus", .str "union"]) = H6 at sH6 awp  ⊢
      refine ⟨_, rfl, _, _, rfl, rfl, wp, _, _, _, rfl, rfl, .of awp, hw, ?_⟩
      refine ⟨_, rfl, _, rfl, ?_⟩
      refine ⟨sh3, fun u4 nu4 => ?_⟩
      have sH7 := same_upd nu4 (o := .tup [.str w', .int k1, .int k2])
      have au4 : (upd H6 u4 (.tup [.str w', .int k1, .int k2])) u4 = some (.tup [.str w', .int k1, .int k2]) := upd_same
      generalize upd H6 u4 (.tup [.str w', .int k1, .int k2]) = H7 at sH7 au4  ⊢
      have sa := sH6.trans sH7
      have g7 := g5.ext sa
      have hp7 := sa _ _ hp5
      refine ⟨p, xs5, _, rfl, rfl, hp7, sz _ (by omega), ?_⟩
      have g8 := g7.push (o := .other b w' [.int k1, .int k2]) (v := .ref u4) hp7 (.tup (.inl (.inl au4)) (.cons (.str _) (.cons (.int _) (.cons (.int _) .nil))))
      have f8 : Fd2 d p H (upd H7 p (.lst (xs5 ++ [V.ref u4]))) := (((((f12.trans f3).trans f4).trans f5).trans (.of sa)).trans .at)
      generalize upd H7 p (.lst (xs5 ++ [V.ref u4])) = H8 at g8 f8 ⊢
      simp only [List.append_assoc] at g8
      have lyw : PyData.strOk w' = true := by
        rcases hwd with ⟨_, rfl | rfl | rfl | rfl⟩ | ⟨_, rfl | rfl⟩ <;> decide +kernel
      have fin : ∀ (t : Addr) (z : Bool), H8 t = none → z = (b1 && falls1 (ws.map (·.2)) n2 && !b) → Q (.ref t) (upd H8 t (.tup [.int 1, .bl z])) := fun t z nt ez => by
        refine q _ t 1 _ (g8.ext (same_upd nt)) (f8.trans (.of (same_upd nt))) (fun x hx => ?_) (by simp only [List.length_append, List.length_singleton]; omega) ?_
        · simp only [List.mem_append, List.mem_singleton] at hx
          rcases hx with h | rfl | h | rfl | rfl
          · exact ok1 x h
          · exact ok3.mono (Nat.zero_le _)
          · exact ok4 x h
          · exact ok5.mono (Nat.zero_le _)
          · exact ⟨Ly.ok (n := 5) (Ly.tup (.cons (.str lyw) (.cons (.int _) (.cons (.int _) .nil)))) (by decide), hwd⟩
        · have e1 : ∀ o : Op, falls1 (ws.map (·.2)) [o] = !(o.up (ws.map (·.2))) := fun o => by
            show (!(Op.up _ o || false)) = _
            rw [Bool.or_false]
          rw [upd_same, ez]
          simp only [falls1_app, e1, hB1, up3, up5, Bool.not_false, Bool.true_and]
          show some (HO.tup [V.int 1, V.bl (b1 && _ && !b)]) = some (HO.tup [V.int 1, V.bl (b1 && (_ && !b))])
          rw [Bool.and_assoc]
      refine ⟨_, rfl, _, rfl, ite2 (fun eb => ⟨_, rfl, _, rfl, ite2 (fun eb2 => ⟨_, rfl, rfl, sh2, fun t nt => fin t _ nt ?_⟩) (fun eb2 => ⟨sh2, fun t nt => fin t _ nt ?_⟩)⟩) (fun eb => ⟨sh2, fun t nt => fin t _ nt ?_⟩)⟩
      · rw [hb, eb, eb2]
        rfl
      · rw [Bool.eq_false_iff.mpr eb2, Bool.and_false, Bool.false_and]
      · rw [Bool.eq_false_iff.mpr eb, Bool.false_and, Bool.false_and]
    · -- join, anti
      have hr8 : ¬ r < 8 := of_decide_eq_false (Bool.eq_false_iff.mpr e4)
      refine ⟨_, rfl, _, rfl, _, rfl, _, rfl, _, _, rfl, rfl, L, d, c, p, S, _, ws, k, dec, by omega, by omega, g2, lw, by rw [List.length_append]; omega, fun H4 t2 w2 n2 g4 f4 ok4 l4 et4 => ?_⟩
      refine ⟨t2, _, rfl, .of et4, rfl, _, _, rfl, _, _, rfl, rfl, ?_⟩
      obtain ⟨xs4, hp4, lx4⟩ := g4.plen
      simp only [List.length_append] at lx4
      refine ⟨_, rfl, p, _, rfl, .inl (.of hp4), _, _, rfl, rfl, ?_⟩
      refine ⟨_, rfl, _, _, rfl, rfl, _, rfl, ite2 (fun z => absurd z e4) (fun _ => ?_)⟩
      obtain ⟨b, w', hw, hwd, hb⟩ : ∃ (b : Bool) (w' : Str), atI [V.str "join", V.str "anti"] (r - 8) = some (.str w') ∧ WdOk b w' ∧ decide (V.int r = V.int 8) = !b := by
        have : r = 8 ∨ r = 9 := by omega
        rcases this with rfl | rfl
        · exact ⟨false, "join", atI_nat (j := 0) rfl, .inl ⟨rfl, .inr (.inr (.inr rfl))⟩, rfl⟩
        · exact ⟨true, "anti", atI_nat (j := 1) rfl, .inr ⟨rfl, .inr rfl⟩, rfl⟩
      refine ⟨_, rfl, .inl ⟨rfl, _, .inl (.inl hp4)⟩, ?_⟩
      refine ⟨sh2, fun wp nwp => ?_⟩
      have sH5 := same_upd nwp (o := .lst [.str "join", .str "anti"])
      have awp : (upd H4 wp (.lst [.str "join", .str "anti"])) wp = some (.lst [.str "join", .str "anti"]) := upd_same
      generalize upd H4 wp (.lst [.str "join", .str "anti"]) = H5 at sH5 awp  ⊢
      refine ⟨_, rfl, _, _, rfl, rfl, wp, _, _, _, rfl, rfl, .of awp, hw, ?_⟩
      refine ⟨sh2, fun u1 nu1 => ?_⟩
      have sH6 := same_upd nu1 (o := .tup [.str "column", .int 0])
      have au1 : (upd H5 u1 (.tup [.str "column", .int 0])) u1 = some (.tup [.str "column", .int 0]) := upd_same
      generalize upd H5 u1 (.tup [.str "column", .int 0]) = H6 at sH6 au1  ⊢
      refine ⟨_, rfl, ?_⟩
      refine ⟨sh2, fun u2 nu2 => ?_⟩
      have sH7 := same_upd nu2 (o := .tup [.str "column", .int w1])
      have au2 : (upd H6 u2 (.tup [.str "column", .int w1])) u2 = some (.tup [.str "column", .int w1]) := upd_same
      have au1 := sH7 _ _ au1
      generalize upd H6 u2 (.tup [.str "column", .int w1]) = H7 at sH7 au2 au1 ⊢
      refine ⟨sh3, fun u3 nu3 => ?_⟩
      have sH8 := same_upd nu3 (o := .tup [.str "equal", .ref u1, .ref u2])
      have au3 : (upd H7 u3 (.tup [.str "equal", .ref u1, .ref u2])) u3 = some (.tup [.str "equal", .ref u1, .ref u2]) := upd_same
      have au1 := sH8 _ _ au1
      have au2 := sH8 _ _ au2
      generalize upd H7 u3 (.tup [.str "equal", .ref u1, .ref u2]) = H8 at sH8 au3 au1 au2 ⊢
      refine ⟨_, rfl, _, rfl, ?_⟩
      dsimp only
      generalize hG : ((xs4.length : Int) - 1) = second
      refine ⟨sh4, fun u4 nu4 => ?_⟩
      have sH9 := same_upd nu4 (o := .tup [.str w', .ref u3, .int first, .int second])
      have au4 : (upd H8 u4 (.tup [.str w', .ref u3, .int first, .int second])) u4 = some (.tup [.str w', .ref u3, .int first, .int second]) := upd_same
      have au1 := sH9 _ _ au1
      have au2 := sH9 _ _ au2
      have au3 := sH9 _ _ au3
      generalize upd H8 u4 (.tup [.str w', .ref u3, .int first, .int second]) = H9 at sH9 au4 au1 au2 au3 ⊢
      have sa := (((sH5.trans sH6).trans sH7).trans sH8).trans sH9
      have g7 := g4.ext sa
      have hp7 := sa _ _ hp4
      refine ⟨p, xs4, _, rfl, rfl, hp7, sz _ (by omega), ?_⟩
      have g8 := g7.push (o := .other b w' [.tuple [.str "equal", .tuple [.str "column", .int 0], .tuple [.str "column", .int w1]], .int first, .int second]) (v := .ref u4) hp7 (.tup (.inl (.inl au4)) (.cons (.str _) (.cons (.tup (.inl (.inl au3)) (.cons (.str _) (.cons (.tup (.inl (.inl au1)) (.cons (.str _) (.cons (.int _) .nil))) (.cons (.tup (.inl (.inl au2)) (.cons (.str _) (.cons (.int _) .nil))) .nil)))) (.cons (.int _) (.cons (.int _) .nil)))))
      have f8 : Fd2 d p H (upd H9 p (.lst (xs4 ++ [V.ref u4]))) := ((f12.trans f4).trans (.of sa)).trans .at
      generalize upd H9 p (.lst (xs4 ++ [V.ref u4])) = Hz at g8 f8 ⊢
      simp only [List.append_assoc] at g8
      have lyw : PyData.strOk w' = true := by
        rcases hwd with ⟨_, rfl | rfl | rfl | rfl⟩ | ⟨_, rfl | rfl⟩ <;> decide +kernel
      have fin : ∀ (t : Addr) (y : Int) (z : Bool), Hz t = none → z = (b1 && falls1 (ws.map (·.2)) n2 && !b) → Q (.ref t) (upd Hz t (.tup [.int y, .bl z])) := fun t y z nt ez => by
        refine q _ t y _ (g8.ext (same_upd nt)) (f8.trans (.of (same_upd nt))) (fun x hx => ?_) (by simp only [List.length_append, List.length_singleton]; omega) ?_
        · simp only [List.mem_append, List.mem_singleton] at hx
          rcases hx with h | h | rfl
          · exact ok1 x h
          · exact ok4 x h
          · exact ⟨Ly.ok (n := 5) (Ly.tup (.cons (.str lyw) (.cons (Ly.tup (.cons (.str (by decide +kernel)) (.cons (Ly.tup (.cons (.str (by decide +kernel)) (.cons (.int _) .nil))) (.cons (Ly.tup (.cons (.str (by decide +kernel)) (.cons (.int _) .nil))) .nil)))) (.cons (.int _) (.cons (.int _) .nil))))) (by decide), hwd⟩
        · have e1 : ∀ o : Op, falls1 (ws.map (·.2)) [o] = !(o.up (ws.map (·.2))) := fun o => by
            show (!(Op.up _ o || false)) = _
            rw [Bool.or_false]
          rw [upd_same, ez]
          simp only [falls1_app, e1, hB1]
          show some (HO.tup [V.int y, V.bl (b1 && _ && !b)]) = some (HO.tup [V.int y, V.bl (b1 && (_ && !b))])
          rw [Bool.and_assoc]
      refine ⟨_, rfl, rfl, _, rfl, ite2 (fun _ => ⟨_, rfl, _, rfl, _, _, rfl, rfl, ?j1⟩) (fun _ => ⟨_, rfl, ?j2⟩)⟩
      all_goals
        refine ⟨_, rfl, _, rfl, ite2 (fun eb => ⟨_, rfl, _, rfl, ite2 (fun eb2 => ⟨_, rfl, rfl, sh2, fun t nt => fin t _ _ nt ?_⟩) (fun eb2 => ⟨sh2, fun t nt => fin t _ _ nt ?_⟩)⟩) (fun eb => ⟨sh2, fun t nt => fin t _ _ nt ?_⟩)⟩
        · rw [hb, eb, eb2]
          rfl
        · rw [Bool.eq_false_iff.mpr eb2, Bool.and_false, Bool.false_and]
        · rw [Bool.eq_false_iff.mpr eb, Bool.false_and, Bool.false_and]
theorem cl_grow {f : Addr} {fd : FuncData} (F : Fun K "_law_grow" "_law_grow" s__law_grow f fd) (M : Mg mg) (g : mg "_law_grow" = some (.ref f)) (b : Binds K fd ["draw", "plan", "steps", "depth"] []) (c__law_next : Cl P w K mg base 1 "_law_next" sp_next) (c__law_leaf : Cl P w K mg base 2 "_law_leaf" (sp_leaf K)) (c__law_one_column : Cl P w K mg base 1 "_law_one_column" (sp_one K)) : ∀ n, Cl P w K mg base (n + 2) "_law_grow" (sp_grow K n)
  | 0 => FnOk.cl (P := P) (w := w) (base := base) (F.ok sc__law_grow (fun vs H Q E h => by obtain ⟨L, d, c, p, S, ops, ws, m, rfl, _⟩ := h; rfl) (fun cdv A outer s H vs Q E hr h => by obtain ⟨L, d, c, p, S, ops, ws, m, rfl, hm, _⟩ := h; omega)) F g b
  | n + 1 => FnOk.cl (ok_grow n F M c__law_next c__law_leaf c__law_one_column (cl_grow F M g b c__law_next c__law_leaf c__law_one_column n)) F g b
end

def sp_law (K : PySem.W.Frag) : Sp := fun vs H Q _ => ∃ (a : Addr) (ns : List Int), vs = [.ref a] ∧ SqL K H a (ns.map V.int) ∧ ns.length ≤ 63 ∧ ∀ H', Q (.bl true) H'
/-- the steps' truths and the plans, side by side -/
def planD (ops : List Op) : PyData := .list (ops.map Op.d)
theorem dp_w {K : PySem.W.Frag} {H : Hp} {v : V} {x : Int × Bool} (h : Dp K H v (wD x)) : ∃ p, v = .ref p ∧ SqT K H p [.int x.1, .bl x.2] := by
  obtain ⟨p, xs, rfl, hs, ha⟩ := Dp.tupI h
  refine ⟨p, rfl, ?_⟩
  cases ha with
  | cons h1 h2 =>
    cases h1
    cases h2 with
    | cons h3 h4 =>
      cases h3
      cases h4
      exact hs
theorem DpLs.get {L : Addr → Prop} {K : PySem.W.Frag} {H : Hp} : ∀ {ds : List PyData} {vs : List V} {i : Nat} {d : PyData}, DpLs L K H vs ds → ds[i]? = some d → ∃ v, vs[i]? = some v ∧ DpL L K H v d
  | [], _, _, _, _, e => by simp at e
  | x :: ds, _, 0, d, h, e => by
    cases h with
    | cons h1 h2 =>
      have e1 : x = d := Option.some.inj e
      subst e1
      exact ⟨_, rfl, h1⟩
  | x :: ds, _, i + 1, d, h, e => by
    cases h with
    | cons h1 h2 =>
      obtain ⟨v, hv, hd⟩ := DpLs.get (i := i) h2 (by simpa using e)
      exact ⟨v, by simpa using hv, hd⟩
structure LawI (K : PySem.W.Frag) (H : Hp) (d c S Qp : Addr) (i : Nat) (ps : List (List Op)) (ws : List (Int × Bool)) : Prop where
  dr : Dr H d c
  Sd : S ≠ d
  Qd : Qp ≠ d
  SQ : S ≠ Qp
  Sc : S ≠ c
  Qc : Qp ≠ c
  len : ps.length = i
  fs : ws.map (·.2) = fallsL ps
  ss : ∃ ss, H S = some (.lst ss) ∧ DpAll K H ss (ws.map wD)
  qs : ∃ us, H Qp = some (.lst us) ∧ DpLs (fun a => a ≠ d ∧ a ≠ S ∧ a ≠ Qp) K H us (ps.map planD)
  ok : ∀ (j : Nat) (ops : List Op), ps[j]? = some ops → (∀ o ∈ ops, o.ok j) ∧ ops.length ≤ 1000
section
variable {P : Program} {w : World} {K : PySem.W.Frag} {mg : Str → Option Value} {base : Heap}
set_option maxHeartbeats 8000000 in
theorem ok_law {f : Addr} {fd : FuncData} (F : Fun K "law" "law" s_law f fd) (M : Mg mg) (c__law_draw : Cl P w K mg base 1 "_law_draw" (sp_draw K)) (c__law_next : Cl P w K mg base 1 "_law_next" sp_next) (c__law_grow : Cl P w K mg base 6 "_law_grow" (sp_grow K 4)) (c_falling : Cl P w K mg base 3 "falling" (sp_fall K)) (c_uses : Cl P w K mg base 1 "uses" (sp_uses K)) (c__law_same : Cl P w K mg base 6 "_law_same" (sp_same K 5)) : FnOk P w K mg base CX0 7 f fd ["script"] (sp_law K) := by
  refine F.ok sc_law (fun vs H Q E h => ?_) (fun cdv A outer s H vs Q E hr h => ?_)
  · obtain ⟨a, ns, rfl, _⟩ := h
    rfl
  · obtain ⟨a, ns, rfl, hS, _, q⟩ := h
    refine ⟨_, (pss_cons (ps_set (i := 1) sc_law.nd rfl (.inl rfl) (pe_u c__law_draw hr (by first | decide | omega) (by rfl) (pa_cons (pv 0) pa_nil)))
      (pss_cons (ps_set (i := 2) sc_law.nd rfl (.inl rfl) (pe_lst pa_nil))
      (pss_cons (ps_set (i := 3) sc_law.nd rfl (.inl rfl) (pe_lst pa_nil))
      (pss_cons (ps_for PassesOwn.never rfl (pi_range1 (by rfl) M.range (pa_cons (pe_op op_add pe_int (pe_u c__law_next hr (by first | decide | omega) (by rfl) (pa_cons (pv 1) (pa_cons pe_int pa_nil)))) pa_nil)) (pg_name (i := 4) sc_law.nd rfl (.inl rfl)) (pss_cons (ps_set (i := 5) sc_law.nd rfl (.inr rfl) (pe_lst pa_nil))
      (pss_cons (ps_expr (pe_bmK K PySem.F.plainAttrs_list PySem.F.slot_list_append PySem.F.type_list_append mt_append (pv 2) (pa_cons (pe_u c__law_grow hr (by first | decide | omega) (by rfl) (pa_cons (pv 1) (pa_cons (pv 5) (pa_cons (pv 2) (pa_cons (pe_u c__law_next hr (by first | decide | omega) (by rfl) (pa_cons (pv 1) (pa_cons pe_int pa_nil))) pa_nil))))) pa_nil)))
      (pss_one (ps_expr (pe_bmK K PySem.F.plainAttrs_list PySem.F.slot_list_append PySem.F.type_list_append mt_append (pv 3) (pa_cons (pv 5) pa_nil)))))))
      (pss_cons (ps_if (pt_not (pt_val (pe_u c__law_same hr (by first | decide | omega) (by rfl) (pa_cons (pe_u c_falling hr (by first | decide | omega) (by rfl) (pa_cons (pv 3) pa_nil)) (pa_cons (pe_lc (own := [("width", 8), ("falls", 9)]) (g := gTup K 2 (gCons (gName 8) (gCons (gName 9) (gNil)))) (tt := tYes) rfl sc_law.nd (pi_list (pv 2)) (blkOk_by (N := N_law) (sc := defScope s_law) (by decide +kernel)) (fun _ _ _ _ _ => (pg_tup (by rfl) (pgs_cons (pg_name (i := 8) sc_law.nd rfl (.inl rfl)) (pgs_cons (pg_name (i := 9) sc_law.nd rfl (.inl rfl)) pgs_nil)))) (fun _ _ _ _ _ => pts_nil) (fun _ _ _ _ _ => (pv 9))) pa_nil))))) (pss_one (ps_ret pe_bl)) pss_nil)
      (pss_cons (ps_for PassesOwn.never rfl (pi_list (pv 3)) (pg_name (i := 5) sc_law.nd rfl (.inr rfl)) (pss_cons (ps_set (i := 6) sc_law.nd rfl (.inl rfl) (pe_callB (sortedK K) (by rfl) M.sorted (by decide +kernel) (pa_cons (pe_lc (own := [("index", 10)]) (g := gName 10) rfl sc_law.nd (pi_range1 (by rfl) M.range (pa_cons pe_int pa_nil)) (blkOk_by (N := N_law) (sc := defScope s_law) (by decide +kernel)) (fun _ _ _ _ _ => (pg_name (i := 10) sc_law.nd rfl (.inl rfl))) (fun _ _ _ _ _ => (pts_one (pt_cmpR (inDK K (hu65 hr)) (pe_tup (pa_cons pe_str (pa_cons (pv 10) pa_nil))) (pv 5) (by rfl)))) (fun _ _ _ _ _ => (pv 10))) pa_nil)))
      (pss_cons (ps_set (i := 7) sc_law.nd rfl (.inl rfl) (pe_callB (sortedK K) (by rfl) M.sorted (by decide +kernel) (pa_cons (pe_lc (own := [("index", 10)]) (g := gName 10) rfl sc_law.nd (pi_range1 (by rfl) M.range (pa_cons (pe_callB (len_seqK K) (by rfl) M.len PySem.boot_len (pa_cons (pv 3) pa_nil)) pa_nil)) (blkOk_by (N := N_law) (sc := defScope s_law) (by decide +kernel)) (fun _ _ _ _ _ => (pg_name (i := 10) sc_law.nd rfl (.inl rfl))) (fun _ _ _ _ _ => (pts_one (pt_cmpR (inDK K (hu65 hr)) (pe_tup (pa_cons pe_str (pa_cons (pv 10) pa_nil))) (pv 5) (by rfl)))) (fun _ _ _ _ _ => (pv 10))) pa_nil)))
      (pss_one (ps_if (pt_not (pt_val (pe_u c__law_same hr (by first | decide | omega) (by rfl) (pa_cons (pe_u c_uses hr (by first | decide | omega) (by rfl) (pa_cons (pv 5) pa_nil)) (pa_cons (pe_tup (pa_cons (pv 6) (pa_cons (pv 7) pa_nil))) pa_nil))))) (pss_one (ps_ret pe_bl)) pss_nil)))))
      (pss_one (ps_ret pe_bl)))))))), ?_⟩
    refine ⟨_, rfl, a, ns, rfl, hS, fun H1 d c s1 nd dr => ?_⟩
    refine ⟨Nat.zero_le _, fun S nS => ?_⟩
    have sS := same_upd nS (o := .lst [])
    have aS : (upd H1 S (.lst [])) S = some (.lst []) := upd_same
    have dr2 := dr.ext sS
    have Sd := dr.nd nS
    have Sc := dr.nc nS
    generalize upd H1 S (.lst []) = H2 at sS aS dr2 ⊢
    refine ⟨Nat.zero_le _, fun Qp nQ => ?_⟩
    have sQ := same_upd nQ (o := .lst [])
    have aQ : (upd H2 Qp (.lst [])) Qp = some (.lst []) := upd_same
    have dr3 := dr2.ext sQ
    have Qd := dr2.nd nQ
    have Qc := dr2.nc nQ
    have SQ : S ≠ Qp := ne_of_none aS nQ
    have aS3 := sQ _ _ aS
    generalize upd H2 Qp (.lst []) = H3 at sQ aQ dr3 aS3 ⊢
    refine ⟨_, rfl, d, c, 4, rfl, dr3, by decide, by decide, fun H4 z f4 e4 dr4 z0 z1 => ?_⟩
    refine ⟨_, _, rfl, rfl, _, rfl, by omega, by omega, ?_⟩
    have aS4 := f4 _ _ Sd aS3
    have aQ4 := f4 _ _ Qd aQ
    refine for_range (lo := 0) (n := (1 + z).toNat) (fun i σ Hi => ∃ (ps : List (List Op)) (ws : List (Int × Bool)), LawI K Hi d c S Qp i ps ws ∧ ∃ y5 y4, σ = [some (.ref a), some (.ref d), some (.ref S), some (.ref Qp), y4, y5, none, none, none, none, none]) ⟨[], [], ⟨dr4, Sd, Qd, SQ, Sc, Qc, rfl, rfl, ⟨[], aS4, .nil⟩, ⟨[], aQ4, .nil⟩, fun j ops h => by simp at h⟩, none, none, rfl⟩ (fun i σ Hi hi hp => ?_) (fun σ Hn hp => ?_)
    · obtain ⟨ps, ws, li, y5, y4, rfl⟩ := hp
      have li4 : i < 4 := by omega
      refine ⟨Nat.zero_le _, fun p np => ?_⟩
      obtain ⟨us, hQ, hus⟩ := li.qs
      obtain ⟨ss, hSs, hss⟩ := li.ss
      have lps := li.len
      have lws : ws.length = i := by
        have := congrArg List.length li.fs
        rw [List.length_map, fallsL_len] at this
        omega
      have sp := same_upd np (o := .lst [])
      have ap : (upd Hi p (.lst [])) p = some (.lst []) := upd_same
      have pS : p ≠ S := (ne_of_none hSs np).symm
      have pQ : p ≠ Qp := (ne_of_none hQ np).symm
      have pd : p ≠ d := li.dr.nd np
      have pc : p ≠ c := li.dr.nc np
      have hus1 : DpLs (fun a => a ≠ d ∧ a ≠ S ∧ a ≠ Qp ∧ a ≠ p) K Hi us (ps.map planD) := DpLs.wide (fun a xs h l => ⟨l.1, l.2.1, l.2.2, ne_of_none h np⟩) _ _ hus
      have hus2 := DpLs.chg (.of sp) _ _ hus1
      have hQ2 := sp _ _ hQ
      have hS2 := sp _ _ hSs
      have dr2 := li.dr.ext sp
      have hss2 := DpAll.ext sp _ _ hss
      generalize upd Hi p (.lst []) = H5 at sp ap hus2 hQ2 hS2 dr2 hss2 ⊢
      refine ⟨_, rfl, .inl ⟨rfl, _, .inl (.inl hS2)⟩, ?_⟩
      refine ⟨_, rfl, _, rfl, _, rfl, _, rfl, d, c, 4, rfl, dr2, by decide, by decide, fun H6 m f6 e6 dr6 m0 m1 => ?_⟩
      obtain ⟨m, rfl⟩ := Int.eq_ofNat_of_zero_le m0
      have hS6 := f6 _ _ Sd hS2
      have hQ6 := f6 _ _ Qd hQ2
      have ap6 := f6 _ _ pd ap
      obtain ⟨zs, hz⟩ := dr2.lst
      have hss6 := DpAll.fd ⟨zs, hz⟩ f6 _ _ (wD_only _) hss2
      have hus6 := DpLs.chg (Chg.dr (L := fun a => a ≠ d ∧ a ≠ S ∧ a ≠ Qp ∧ a ≠ p) dr2 (fun h => h.1 rfl) f6) _ _ hus2
      have fr6 : ∀ a, H6 a = none → a ≠ d ∧ a ≠ S ∧ a ≠ Qp ∧ a ≠ p := fun a h => by
        obtain ⟨zs, hz⟩ := dr6.lst
        exact ⟨(ne_of_none hz h).symm, (ne_of_none hS6 h).symm, (ne_of_none hQ6 h).symm, (ne_of_none ap6 h).symm⟩
      have gc : Gc K (fun a => a ≠ d ∧ a ≠ S ∧ a ≠ Qp ∧ a ≠ p) H6 d c p S [] ws := ⟨dr6, pd, pc, Sd, pS.symm, fun h => h.1 rfl, fun h => h.2.2.2 rfl, fr6, ⟨[], ap6, .nil⟩, ⟨ss, hS6, hss6⟩⟩
      refine ⟨_, d, c, p, S, [], ws, m, rfl, by omega, by omega, gc, by omega, ?_, fun H7 t wd new g7 f7 ok7 l7 et7 => ?_⟩
      · have : 2 ^ m ≤ 2 ^ 3 := Nat.pow_le_pow_right (by decide) (by omega)
        show 0 + 4 * 2 ^ m ≤ 1000
        omega
      have hlen7 : new.length ≤ 1000 := by
        have : 2 ^ m ≤ 2 ^ 3 := Nat.pow_le_pow_right (by decide) (by omega)
        omega
      obtain ⟨xs7, hp7, hx7⟩ := g7.pl
      rw [List.nil_append] at hx7
      have hS7 := f7 _ _ Sd pS.symm hS6
      have hQ7 := f7 _ _ Qd pQ.symm hQ6
      have hss7 : DpAll K H7 ss (ws.map wD) := by
        obtain ⟨ss', h1, h2⟩ := g7.st
        rw [hS7] at h1
        cases h1
        exact h2
      have hus7 := DpLs.chg (L := fun a => a ≠ d ∧ a ≠ S ∧ a ≠ Qp ∧ a ≠ p) (H' := H7) (fun b o e => by
        by_cases h1 : b = d
        · subst h1
          obtain ⟨zs, hz⟩ := dr6.lst
          rw [hz] at e
          cases e
          exact .inl ⟨_, rfl, fun h => h.1 rfl⟩
        by_cases h2 : b = p
        · subst h2
          rw [ap6] at e
          cases e
          exact .inl ⟨_, rfl, fun h => h.2.2.2 rfl⟩
        exact .inr (.inr (f7 b o h1 h2 e))) _ _ hus6
      have lss := DpAll.len hss
      rw [List.length_map] at lss
      have lus := DpLs.len hus
      rw [List.length_map] at lus
      refine ⟨S, ss, _, rfl, rfl, hS7, Nat.lt_of_le_of_lt (m := 4) (by omega) (by decide), ?_⟩
      have hQ8 : (upd H7 S (.lst (ss ++ [V.ref t]))) Qp = some (.lst us) := by rw [upd_ne SQ.symm]; exact hQ7
      refine ⟨_, rfl, .inl ⟨rfl, _, .inl (.inl hQ8)⟩, _, rfl, Qp, us, _, rfl, rfl, hQ8, Nat.lt_of_le_of_lt (m := 4) (by omega) (by decide), ?_⟩
      have dp7 : DpL (fun a => a ≠ d ∧ a ≠ S ∧ a ≠ Qp) K H7 (.ref p) (planD new) := .lst ⟨pd, pS, pQ⟩ hp7 (DpLs.wide (fun a _ _ l => ⟨l.1, l.2.1, l.2.2.1⟩) _ _ hx7)
      have hus7' := DpLs.wide (L' := fun a => a ≠ d ∧ a ≠ S ∧ a ≠ Qp) (fun a _ _ l => ⟨l.1, l.2.1, l.2.2.1⟩) _ _ hus7
      have c8 := Chg.at (L := fun a => a ≠ d ∧ a ≠ S ∧ a ≠ Qp) (o := .lst (ss ++ [V.ref t])) hS7 (fun h => h.2.1 rfl)
      have c9 := Chg.at (L := fun a => a ≠ d ∧ a ≠ S ∧ a ≠ Qp) (o := .lst (us ++ [V.ref p])) hQ8 (fun h => h.2.2 rfl)
      have et8 := Dp.away (o := .lst (ss ++ [V.ref t])) hS7 _ _ rfl (show Dp K H7 (.ref t) (wD (wd, falls1 (ws.map (·.2)) new)) from .tup (.inl (.inl et7)) (.cons (.int _) (.cons (.bl _) .nil)))
      have hss8 := DpAll.away (o := .lst (ss ++ [V.ref t])) hS7 _ _ (wD_only _) hss7
      have hss9 := DpAll.away (o := .lst (us ++ [V.ref p])) hQ8 _ _ (wD_only (ws ++ [(wd, falls1 (ws.map (·.2)) new)])) (by rw [List.map_append]; exact DpAll.snoc hss8 et8)
      have cpc : S ≠ c := li.Sc
      have cqc : Qp ≠ c := li.Qc
      refine ⟨ps ++ [new], ws ++ [(wd, falls1 (ws.map (·.2)) new)], ⟨(g7.dr.upd Sd cpc).upd Qd cqc, Sd, Qd, SQ, cpc, cqc, ?_, ?_, ⟨_, by rw [upd_ne SQ]; exact upd_same, hss9⟩, ⟨_, upd_same, ?_⟩, ?_⟩, _, _, rfl⟩
      · rw [List.length_append, lps]
        rfl
      · rw [fallsL_snoc, List.map_append, li.fs]
        rfl
      · rw [List.map_append]
        exact DpLs.chg c9 _ _ (DpLs.snoc (DpLs.chg c8 _ _ hus7') (DpL.chg c8 _ _ dp7))
      · intro j ops hj
        by_cases h : j < ps.length
        · rw [List.getElem?_append_left h] at hj
          exact li.ok j ops hj
        · rw [List.getElem?_append_right (by omega)] at hj
          have e0 : j - ps.length = 0 := by
            have := (List.getElem?_eq_some_iff.mp hj).1
            rw [List.length_singleton] at this
            omega
          rw [e0] at hj
          have e1 : new = ops := Option.some.inj hj
          subst e1
          exact ⟨fun o ho => (ok7 o ho).mono (by omega), hlen7⟩
    · obtain ⟨ps, ws, li, y5, y4, rfl⟩ := hp
      obtain ⟨us, hQ, hus⟩ := li.qs
      obtain ⟨ss, hSs, hss⟩ := li.ss
      have lps := li.len
      have lus := DpLs.len hus
      rw [List.length_map] at lus
      have lss := DpAll.len hss
      rw [List.length_map] at lss
      have lws : ws.length = ps.length := by
        have := congrArg List.length li.fs
        rw [List.length_map, fallsL_len] at this
        exact this
      have sh2 : (2 : Nat) ≤ sizeLine := by decide
      have hpl : ∀ (i : Nat) (u : V) (ops : List Op), us[i]? = some u → ps[i]? = some ops → PlanD K Hn u ops ∧ (∀ o ∈ ops, o.ok i) ∧ ops.length ≤ 1000 := fun i u ops hu ho => by
        refine ⟨?_, li.ok i ops ho⟩
        obtain ⟨v, hv, dv⟩ := DpLs.get hus (show (ps.map planD)[i]? = some (planD ops) by rw [List.getElem?_map, ho]; rfl)
        rw [hu] at hv
        cases hv
        cases dv with
        | lst _ h1 h2 => exact ⟨_, _, rfl, h1, DpLs.dp _ _ h2⟩
      refine ⟨_, rfl, Qp, us, ps, rfl, hQ, lus, by omega, hpl, fun H5 r s5 nr er => ?_⟩
      have hS5 := s5 _ _ hSs
      refine ⟨_, rfl, S, rfl, ⟨_, .of hS5⟩, fun D nD => ?_⟩
      refine lc_list (K := K) (a := S) (xs := ss) (fun j Hj => Same H5 Hj ∧ Hj D = some (.lst (((ws.map (·.2)).take j).map V.bl))) ⟨same_upd nD, upd_same⟩ (fun j Hj _ hp => .of (hp.1 _ _ hS5)) (fun j x Hj hx hp => ?_) (fun H6 hp => ?_)
      · obtain ⟨sj, eD⟩ := hp
        have hj : j < ws.length := by rw [← lss]; exact (List.getElem?_eq_some_iff.mp hx).1
        have ho : ws[j]? = some ws[j] := List.getElem?_eq_getElem hj
        obtain ⟨x', hx2, hd⟩ := DpAll.get (DpAll.ext (s5.trans sj) _ _ hss) (show (ws.map wD)[j]? = some (wD ws[j]) by rw [List.getElem?_map, ho]; rfl)
        have e1 : x = x' := Option.some.inj (hx.symm.trans hx2)
        subst e1
        obtain ⟨pt, rfl, hpt⟩ := dp_w hd
        refine ⟨pt, _, rfl, hpt, rfl, _, _, rfl, _, _, rfl, rfl, rfl, _, rfl, _, eD, ?_, fun b o e => ?_, ?_⟩
        · rw [List.length_map, List.length_take]
          exact Nat.lt_of_le_of_lt (m := 100) (by omega) (by decide)
        · rw [upd_ne (ne_of_none e nD)]
          exact sj _ _ e
        · rw [upd_same, List.take_add_one, List.getElem?_map, ho, List.map_append]
          rfl
      · obtain ⟨s6, eD⟩ := hp
        rw [lss, List.take_of_length_le (by rw [List.length_map]; exact Nat.le_refl _), li.fs] at eD
        refine ⟨.ref r, .ref D, .list ((fallsL ps).map PyData.bool), 4, rfl, rfl, .lst ?_ (fun x hx => ?_), dp_bls (.of (s6 _ _ er)), dp_bls (.of eD), fun H7 s7 => ⟨_, rfl, iteF ?_⟩⟩
        · rw [List.length_map, fallsL_len]
          omega
        · obtain ⟨b, _, rfl⟩ := List.mem_map.mp hx
          exact .bl b
        have s57 := (s5.trans s6).trans s7
        have hQ7 := s57 _ _ hQ
        refine ⟨_, rfl, Qp, rfl, ⟨_, .of hQ7⟩, ?_⟩
        refine for_list (K := K) (a := Qp) (xs := us) (fun i σ Hi => Same Hn Hi ∧ ∃ y4 y5 y6 y7, σ = [some (.ref a), some (.ref d), some (.ref S), some (.ref Qp), y4, y5, y6, y7, none, none, none]) ⟨s57, _, _, _, _, rfl⟩ (fun i σ Hi _ h => .of (h.1 _ _ hQ)) (fun i u σ Hi hu h => ?_) (fun σ Hz h => q Hz)
        obtain ⟨si, y4, y5, y6, y7, rfl⟩ := h
        have hi : i < ps.length := by rw [← lus]; exact (List.getElem?_eq_some_iff.mp hu).1
        obtain ⟨hp1, okp, lop⟩ := hpl i u _ hu (List.getElem?_eq_getElem hi)
        generalize ps[i] = ops at hp1 okp lop
        have shp : SeqAt.shaped (.list (ops.map Op.d)) = true := shaped_list fun x hx => by
          obtain ⟨o, ho, rfl⟩ := List.mem_map.mp hx
          exact (okp o ho).1
        refine ⟨_, rfl, by decide, by decide, fun D1 nD1 => ?_⟩
        refine lc_range (lo := 0) (n := 2) (fun j Hj => Same Hi Hj ∧ Hj D1 = some (.lst (((List.range j).filter fun k => ops.any (Op.isT k)).map fun (k : Nat) => V.int (k : Nat)))) ⟨same_upd nD1, upd_same⟩ (fun j Hj hj hp => ?_) (fun H8 hp => ?_)
        · obtain ⟨sj, eD⟩ := hp
          obtain ⟨pu, xu, rfl, hpu, hxu⟩ := hp1
          rw [Int.zero_add]
          refine ⟨rfl, _, rfl, sh2, fun t nt => ?_⟩
          have st := same_upd nt (o := .tup [.str "table", .int (j : Nat)])
          have at' : (upd Hj t (.tup [.str "table", .int (j : Nat)])) t = some (.tup [.str "table", .int (j : Nat)]) := upd_same
          generalize upd Hj t (.tup [.str "table", .int (j : Nat)]) = Hk at st at' ⊢
          have sn := si.trans (sj.trans st)
          refine ⟨_, rfl, .tuple [.str "table", .int (j : Nat)], ops.map Op.d, .tup (.inl (.inl at')) (.cons (.str _) (.cons (.int _) .nil)), .lst (.of (sn _ _ hpu)) (DpAll.ext sn _ _ hxu), shaped_one (Ly.ok (n := 5) (Ly.tup (.cons (.str (by decide +kernel)) (.cons (.int _) .nil))) (by decide)), shp, _, rfl, ?_⟩
          rw [any_map_op (fun o h => op_eqT j h) okp]
          have etk : ((List.range (j + 1)).filter fun k => ops.any (Op.isT k)) = ((List.range j).filter fun k => ops.any (Op.isT k)) ++ if ops.any (Op.isT j) = true then [j] else [] := by
            rw [List.range_succ, List.filter_append]
            congr 1
            rw [List.filter_cons, List.filter_nil]
          refine ite2 (fun e => ?_) (fun e => ?_)
          · refine ⟨_, rfl, _, st _ _ eD, ?_, fun b o e => ?_, ?_⟩
            · rw [List.length_map]
              have := List.length_filter_le (fun k => ops.any (Op.isT k)) (List.range j)
              rw [List.length_range] at this
              exact Nat.lt_of_le_of_lt (m := 100) (by omega) (by decide)
            · rw [upd_ne (ne_of_none e nD1)]
              exact st _ _ (sj _ _ e)
            · rw [upd_same, etk, if_pos e, List.map_append]
              rfl
          · refine ⟨sj.trans st, ?_⟩
            rw [etk, if_neg e, List.append_nil]
            exact st _ _ eD
        obtain ⟨s8, eD8⟩ := hp
        refine ⟨D1, ((List.range 2).filter fun k => ops.any (Op.isT k)).map fun (k : Nat) => (k : Int), rfl, .of (by rw [eD8, List.map_map]; rfl), fun l1 p1 pm1 pw1 np1 => ?_⟩
        have sp1 := same_upd np1 (o := .lst (l1.map V.int))
        have ap1 : (upd H8 p1 (.lst (l1.map V.int))) p1 = some (.lst (l1.map V.int)) := upd_same
        generalize upd H8 p1 (.lst (l1.map V.int)) = H9 at sp1 ap1 ⊢
        have s9 := (si.trans s8).trans sp1
        refine ⟨_, rfl, Qp, us, rfl, .inl (.of (s9 _ _ hQ)), _, rfl, by omega, by omega, fun D2 nD2 => ?_⟩
        rw [lus]
        refine lc_range (lo := 0) (n := ((ps.length : Nat) : Int).toNat) (fun j Hj => Same H9 Hj ∧ Hj D2 = some (.lst (((List.range j).filter fun k => ops.any (Op.isS k)).map fun (k : Nat) => V.int (k : Nat)))) ⟨same_upd nD2, upd_same⟩ (fun j Hj hj hp => ?_) (fun H10 hp => ?_)
        · obtain ⟨sj, eD⟩ := hp
          obtain ⟨pu, xu, rfl, hpu, hxu⟩ := hp1
          rw [Int.zero_add]
          refine ⟨rfl, _, rfl, sh2, fun t nt => ?_⟩
          have st := same_upd nt (o := .tup [.str "step", .int (j : Nat)])
          have at' : (upd Hj t (.tup [.str "step", .int (j : Nat)])) t = some (.tup [.str "step", .int (j : Nat)]) := upd_same
          generalize upd Hj t (.tup [.str "step", .int (j : Nat)]) = Hk at st at' ⊢
          have sn := s9.trans (sj.trans st)
          refine ⟨_, rfl, .tuple [.str "step", .int (j : Nat)], ops.map Op.d, .tup (.inl (.inl at')) (.cons (.str _) (.cons (.int _) .nil)), .lst (.of (sn _ _ hpu)) (DpAll.ext sn _ _ hxu), shaped_one (Ly.ok (n := 5) (Ly.tup (.cons (.str (by decide +kernel)) (.cons (.int _) .nil))) (by decide)), shp, _, rfl, ?_⟩
          rw [any_map_op (fun o h => op_eqS j h) okp]
          have etk : ((List.range (j + 1)).filter fun k => ops.any (Op.isS k)) = ((List.range j).filter fun k => ops.any (Op.isS k)) ++ if ops.any (Op.isS j) = true then [j] else [] := by
            rw [List.range_succ, List.filter_append]
            congr 1
            rw [List.filter_cons, List.filter_nil]
          refine ite2 (fun e => ?_) (fun e => ?_)
          · refine ⟨_, rfl, _, st _ _ eD, ?_, fun b o e => ?_, ?_⟩
            · rw [List.length_map]
              have := List.length_filter_le (fun k => ops.any (Op.isS k)) (List.range j)
              rw [List.length_range] at this
              exact Nat.lt_of_le_of_lt (m := 100) (by omega) (by decide)
            · rw [upd_ne (ne_of_none e nD2)]
              exact st _ _ (sj _ _ e)
            · rw [upd_same, etk, if_pos e, List.map_append]
              rfl
          · refine ⟨sj.trans st, ?_⟩
            rw [etk, if_neg e, List.append_nil]
            exact st _ _ eD
        obtain ⟨s10, eD10⟩ := hp
        refine ⟨D2, ((List.range ps.length).filter fun k => ops.any (Op.isS k)).map fun (k : Nat) => (k : Int), rfl, .of (by rw [eD10, List.map_map]; rfl), fun l2 p2 pm2 pw2 np2 => ?_⟩
        have sp2 := same_upd np2 (o := .lst (l2.map V.int))
        have ap2 : (upd H10 p2 (.lst (l2.map V.int))) p2 = some (.lst (l2.map V.int)) := upd_same
        generalize upd H10 p2 (.lst (l2.map V.int)) = H11 at sp2 ap2 ⊢
        have s11 := (s9.trans s10).trans sp2
        have ap1' := (s10.trans sp2) _ _ ap1
        refine ⟨_, rfl, u, ops, rfl, hp1.ext s11, fun o ho => (okp o ho).mono (by omega), lop, fun H12 t ta tb ts' ss' s12 et eta etb pta wta ptb wtb => ?_⟩
        have E1 : ts' = l1 := srt_uniq wta pw1 (pta.trans (.trans (List.Perm.map _ ((List.perm_ext_iff_of_nodup (nums_nd gT ops) (List.nodup_range.filter _)).mpr fun k => ?_)) pm1.symm))
        have E2 : ss' = l2 := srt_uniq wtb pw2 (ptb.trans (.trans (List.Perm.map _ ((List.perm_ext_iff_of_nodup (nums_nd gS ops) (List.nodup_range.filter _)).mpr fun k => ?_)) pm2.symm))
        · subst E1 E2
          refine ⟨_, rfl, _, rfl, sh2, fun t2 nt2 => ?_⟩
          have st2 := same_upd nt2 (o := .tup [.ref p1, .ref p2])
          have at2 : (upd H12 t2 (.tup [.ref p1, .ref p2])) t2 = some (.tup [.ref p1, .ref p2]) := upd_same
          have b1 := st2 _ _ (s12 _ _ ap1')
          have b2 := st2 _ _ (s12 _ _ ap2)
          have et := st2 _ _ et
          have eta := st2 _ _ eta
          have etb := st2 _ _ etb
          generalize upd H12 t2 (.tup [.ref p1, .ref p2]) = H13 at st2 at2 b1 b2 et eta etb ⊢
          have lT : ts'.length ≤ 100000 := by
            have := pta.length_eq
            have h2 := nums_lt gT 60 (ops := ops) fun o ho i e => gbound (fun o ho => (okp o ho).mono (by omega)) ho e
            rw [List.length_map] at this
            omega
          have lS : ss'.length ≤ 100000 := by
            have := ptb.length_eq
            have h2 := nums_lt gS 60 (ops := ops) fun o ho i e => gboundS (fun o ho => (okp o ho).mono (by omega)) ho e
            rw [List.length_map] at this
            omega
          have shI : ∀ l : List Int, l.length ≤ 100000 → Sh 3 (.list (l.map PyData.int)) := fun l hl => .lst (by rw [List.length_map]; exact hl) fun x hx => by
            obtain ⟨b, _, rfl⟩ := List.mem_map.mp hx
            exact .int b
          refine ⟨_, _, .tuple [.list (ts'.map PyData.int), .list (ss'.map PyData.int)], 4, rfl, rfl, .tup (by show 2 ≤ 100000; decide) (fun x hx => ?_), .tup (.inl (.inl et)) (.cons (dp_ints (.of eta)) (.cons (dp_ints (.of etb)) .nil)), .tup (.inl (.inl at2)) (.cons (dp_ints (.of b1)) (.cons (dp_ints (.of b2)) .nil)), fun H14 s14 => ⟨_, rfl, iteF ?_⟩⟩
          · simp only [List.mem_cons, List.not_mem_nil, or_false] at hx
            rcases hx with rfl | rfl
            · exact shI _ lT
            · exact shI _ lS
          · exact ⟨((si.trans (s8.trans sp1)).trans (s10.trans sp2)).trans ((s12.trans st2).trans s14), _, _, _, _, rfl⟩
        · rw [nums_mem, List.mem_filter, List.mem_range, List.any_eq_true]
          constructor
          · rintro ⟨o, ho, e⟩
            cases o with
            | step j =>
              cases e
              exact ⟨Nat.lt_trans (okp _ ho).2 hi, _, ho, beq_self_eq_true _⟩
            | table j => cases e
            | group ks ts f => cases e
            | other b w r => cases e
          · rintro ⟨_, o, ho, e⟩
            cases o with
            | step j => exact ⟨_, ho, congrArg some (beq_iff_eq.mp e)⟩
            | table j => cases e
            | group ks ts f => cases e
            | other b w r => cases e
        · rw [nums_mem, List.mem_filter, List.mem_range, List.any_eq_true]
          constructor
          · rintro ⟨o, ho, e⟩
            cases o with
            | table j =>
              cases e
              exact ⟨(okp _ ho).2, _, ho, beq_self_eq_true _⟩
            | step j => cases e
            | group ks ts f => cases e
            | other b w r => cases e
          · rintro ⟨_, o, ho, e⟩
            cases o with
            | table j => exact ⟨_, ho, congrArg some (beq_iff_eq.mp e)⟩
            | step j => cases e
            | group ks ts f => cases e
            | other b w r => cases e
end

set_option maxHeartbeats 0 in
theorem all_mk {l : PySem.W.OpenLaw} {w : World} {K : PySem.W.Frag} {h : Heap} {mg : Str → Option Value} {fa : Addr} (X : K.In h) (G : h.Ns mainGlobals mg) (hfa : mg "law" = some (.ref fa))
    {od0 an0 : Option Addr} {sl0 : Array (Option Value)} {oc0 kV0 dc0 pm0 cd0 ct0 : Value} {f0 : Addr}
    {od1 an1 : Option Addr} {sl1 : Array (Option Value)} {oc1 kV1 dc1 pm1 cd1 ct1 : Value} {f1 : Addr}
    {od2 an2 : Option Addr} {sl2 : Array (Option Value)} {oc2 kV2 dc2 pm2 cd2 ct2 : Value} {f2 : Addr}
    {od3 an3 : Option Addr} {sl3 : Array (Option Value)} {oc3 kV3 dc3 pm3 cd3 ct3 : Value} {f3 : Addr}
    {od4 an4 : Option Addr} {sl4 : Array (Option Value)} {oc4 kV4 dc4 pm4 cd4 ct4 : Value} {f4 : Addr}
    {od5 an5 : Option Addr} {sl5 : Array (Option Value)} {oc5 kV5 dc5 pm5 cd5 ct5 : Value} {f5 : Addr}
    {od6 an6 : Option Addr} {sl6 : Array (Option Value)} {oc6 kV6 dc6 pm6 cd6 ct6 : Value} {f6 : Addr}
    {od7 an7 : Option Addr} {sl7 : Array (Option Value)} {oc7 kV7 dc7 pm7 cd7 ct7 : Value} {f7 : Addr}
    {od8 an8 : Option Addr} {sl8 : Array (Option Value)} {oc8 kV8 dc8 pm8 cd8 ct8 : Value} {f8 : Addr}
    {od9 an9 : Option Addr} {sl9 : Array (Option Value)} {oc9 kV9 dc9 pm9 cd9 ct9 : Value} {f9 : Addr}
    {od10 an10 : Option Addr} {sl10 : Array (Option Value)} {oc10 kV10 dc10 pm10 cd10 ct10 : Value} {f10 : Addr}
    (a0 : PySem.W.nsIn K mainGlobals "has_totals" = some (some (.ref f0))) (l0 : K.lookup f0 = some ⟨oc0, od0, .func (PySem.W.fnOf "has_totals" "has_totals" (defArgs s_has_totals) (defBody s_has_totals) (defScope s_has_totals) .none kV0 dc0 pm0 an0 cd0 ct0), sl0⟩) (c0 : PySem.W.codeIn K cd0 "has_totals" = true) (k0 : PySem.W.keepIn K (.ref f0) = true)
    (a1 : PySem.W.nsIn K mainGlobals "uses" = some (some (.ref f1))) (l1 : K.lookup f1 = some ⟨oc1, od1, .func (PySem.W.fnOf "uses" "uses" (defArgs s_uses) (defBody s_uses) (defScope s_uses) .none kV1 dc1 pm1 an1 cd1 ct1), sl1⟩) (c1 : PySem.W.codeIn K cd1 "uses" = true) (k1 : PySem.W.keepIn K (.ref f1) = true)
    (a2 : PySem.W.nsIn K mainGlobals "falling" = some (some (.ref f2))) (l2 : K.lookup f2 = some ⟨oc2, od2, .func (PySem.W.fnOf "falling" "falling" (defArgs s_falling) (defBody s_falling) (defScope s_falling) .none kV2 dc2 pm2 an2 cd2 ct2), sl2⟩) (c2 : PySem.W.codeIn K cd2 "falling" = true) (k2 : PySem.W.keepIn K (.ref f2) = true)
    (a3 : PySem.W.nsIn K mainGlobals "may_rise" = some (some (.ref f3))) (l3 : K.lookup f3 = some ⟨oc3, od3, .func (PySem.W.fnOf "may_rise" "may_rise" (defArgs s_may_rise) (defBody s_may_rise) (defScope s_may_rise) .none kV3 dc3 pm3 an3 cd3 ct3), sl3⟩) (c3 : PySem.W.codeIn K cd3 "may_rise" = true) (k3 : PySem.W.keepIn K (.ref f3) = true)
    (a4 : PySem.W.nsIn K mainGlobals "_law_draw" = some (some (.ref f4))) (l4 : K.lookup f4 = some ⟨oc4, od4, .func (PySem.W.fnOf "_law_draw" "_law_draw" (defArgs s__law_draw) (defBody s__law_draw) (defScope s__law_draw) .none kV4 dc4 pm4 an4 cd4 ct4), sl4⟩) (c4 : PySem.W.codeIn K cd4 "_law_draw" = true) (k4 : PySem.W.keepIn K (.ref f4) = true)
    (a5 : PySem.W.nsIn K mainGlobals "_law_next" = some (some (.ref f5))) (l5 : K.lookup f5 = some ⟨oc5, od5, .func (PySem.W.fnOf "_law_next" "_law_next" (defArgs s__law_next) (defBody s__law_next) (defScope s__law_next) .none kV5 dc5 pm5 an5 cd5 ct5), sl5⟩) (c5 : PySem.W.codeIn K cd5 "_law_next" = true) (k5 : PySem.W.keepIn K (.ref f5) = true)
    (a6 : PySem.W.nsIn K mainGlobals "_law_same" = some (some (.ref f6))) (l6 : K.lookup f6 = some ⟨oc6, od6, .func (PySem.W.fnOf "_law_same" "_law_same" (defArgs s__law_same) (defBody s__law_same) (defScope s__law_same) .none kV6 dc6 pm6 an6 cd6 ct6), sl6⟩) (c6 : PySem.W.codeIn K cd6 "_law_same" = true) (k6 : PySem.W.keepIn K (.ref f6) = true)
    (a7 : PySem.W.nsIn K mainGlobals "_law_leaf" = some (some (.ref f7))) (l7 : K.lookup f7 = some ⟨oc7, od7, .func (PySem.W.fnOf "_law_leaf" "_law_leaf" (defArgs s__law_leaf) (defBody s__law_leaf) (defScope s__law_leaf) .none kV7 dc7 pm7 an7 cd7 ct7), sl7⟩) (c7 : PySem.W.codeIn K cd7 "_law_leaf" = true) (k7 : PySem.W.keepIn K (.ref f7) = true)
    (a8 : PySem.W.nsIn K mainGlobals "_law_one_column" = some (some (.ref f8))) (l8 : K.lookup f8 = some ⟨oc8, od8, .func (PySem.W.fnOf "_law_one_column" "_law_one_column" (defArgs s__law_one_column) (defBody s__law_one_column) (defScope s__law_one_column) .none kV8 dc8 pm8 an8 cd8 ct8), sl8⟩) (c8 : PySem.W.codeIn K cd8 "_law_one_column" = true) (k8 : PySem.W.keepIn K (.ref f8) = true)
    (a9 : PySem.W.nsIn K mainGlobals "_law_grow" = some (some (.ref f9))) (l9 : K.lookup f9 = some ⟨oc9, od9, .func (PySem.W.fnOf "_law_grow" "_law_grow" (defArgs s__law_grow) (defBody s__law_grow) (defScope s__law_grow) .none kV9 dc9 pm9 an9 cd9 ct9), sl9⟩) (c9 : PySem.W.codeIn K cd9 "_law_grow" = true) (k9 : PySem.W.keepIn K (.ref f9) = true)
    (a10 : PySem.W.nsIn K mainGlobals "law" = some (some (.ref f10))) (l10 : K.lookup f10 = some ⟨oc10, od10, .func (PySem.W.fnOf "law" "law" (defArgs s_law) (defBody s_law) (defScope s_law) .none kV10 dc10 pm10 an10 cd10 ct10), sl10⟩) (c10 : PySem.W.codeIn K cd10 "law" = true) (k10 : PySem.W.keepIn K (.ref f10) = true)
    (z_abs : PySem.W.nsIn K mainGlobals "abs" = some none) (z_all : PySem.W.nsIn K mainGlobals "all" = some none) (z_bool : PySem.W.nsIn K mainGlobals "bool" = some none) (z_int : PySem.W.nsIn K mainGlobals "int" = some none) (z_isinstance : PySem.W.nsIn K mainGlobals "isinstance" = some none) (z_len : PySem.W.nsIn K mainGlobals "len" = some none) (z_list : PySem.W.nsIn K mainGlobals "list" = some none) (z_range : PySem.W.nsIn K mainGlobals "range" = some none) (z_sorted : PySem.W.nsIn K mainGlobals "sorted" = some none) (z_str : PySem.W.nsIn K mainGlobals "str" = some none) (z_tuple : PySem.W.nsIn K mainGlobals "tuple" = some none) :
    ∃ fd : FuncData, (∀ (s : Shared) (v : Value), BindsTo s fd ⟨[v], []⟩ [("script", v)]) ∧ ∀ base : Heap, K.In base → base.Ns mainGlobals mg → FnOk l.prog w K mg base CX0 7 fa fd ["script"] (sp_law K) := by
  have e := hfa.symm.trans (PySem.W.mg_of X G a10)
  cases e
  have F_has_totals := fun_mk (st := s_has_totals) l0 c0 k0
  have b_has_totals := F_has_totals.binds (ps := ["operation"]) fun _ _ _ _ _ _ us hl => match us, hl with | [_], _ => rfl
  have g_has_totals := PySem.W.mg_of X G a0
  have F_uses := fun_mk (st := s_uses) l1 c1 k1
  have b_uses := F_uses.binds (ps := ["plan"]) fun _ _ _ _ _ _ us hl => match us, hl with | [_], _ => rfl
  have g_uses := PySem.W.mg_of X G a1
  have F_falling := fun_mk (st := s_falling) l2 c2 k2
  have b_falling := F_falling.binds (ps := ["plans"]) fun _ _ _ _ _ _ us hl => match us, hl with | [_], _ => rfl
  have g_falling := PySem.W.mg_of X G a2
  have F_may_rise := fun_mk (st := s_may_rise) l3 c3 k3
  have b_may_rise := F_may_rise.binds (ps := ["operation", "known"]) fun _ _ _ _ _ _ us hl => match us, hl with | [_, _], _ => rfl
  have g_may_rise := PySem.W.mg_of X G a3
  have F__law_draw := fun_mk (st := s__law_draw) l4 c4 k4
  have b__law_draw := F__law_draw.binds (ps := ["script"]) fun _ _ _ _ _ _ us hl => match us, hl with | [_], _ => rfl
  have g__law_draw := PySem.W.mg_of X G a4
  have F__law_next := fun_mk (st := s__law_next) l5 c5 k5
  have b__law_next := F__law_next.binds (ps := ["draw", "many"]) fun _ _ _ _ _ _ us hl => match us, hl with | [_, _], _ => rfl
  have g__law_next := PySem.W.mg_of X G a5
  have F__law_same := fun_mk (st := s__law_same) l6 c6 k6
  have b__law_same := F__law_same.binds (ps := ["actual", "due"]) fun _ _ _ _ _ _ us hl => match us, hl with | [_, _], _ => rfl
  have g__law_same := PySem.W.mg_of X G a6
  have F__law_leaf := fun_mk (st := s__law_leaf) l7 c7 k7
  have b__law_leaf := F__law_leaf.binds (ps := ["draw", "plan", "steps"]) fun _ _ _ _ _ _ us hl => match us, hl with | [_, _, _], _ => rfl
  have g__law_leaf := PySem.W.mg_of X G a7
  have F__law_one_column := fun_mk (st := s__law_one_column) l8 c8 k8
  have b__law_one_column := F__law_one_column.binds (ps := ["plan"]) fun _ _ _ _ _ _ us hl => match us, hl with | [_], _ => rfl
  have g__law_one_column := PySem.W.mg_of X G a8
  have F__law_grow := fun_mk (st := s__law_grow) l9 c9 k9
  have b__law_grow := F__law_grow.binds (ps := ["draw", "plan", "steps", "depth"]) fun _ _ _ _ _ _ us hl => match us, hl with | [_, _, _, _], _ => rfl
  have g__law_grow := PySem.W.mg_of X G a9
  have F_law := fun_mk (st := s_law) l10 c10 k10
  have M : Mg mg := ⟨PySem.W.mg_none_of X G z_abs, PySem.W.mg_none_of X G z_all, PySem.W.mg_none_of X G z_bool, PySem.W.mg_none_of X G z_int, PySem.W.mg_none_of X G z_isinstance, PySem.W.mg_none_of X G z_len, PySem.W.mg_none_of X G z_list, PySem.W.mg_none_of X G z_range, PySem.W.mg_none_of X G z_sorted, PySem.W.mg_none_of X G z_str, PySem.W.mg_none_of X G z_tuple⟩
  exact ⟨PySem.W.fnOf "law" "law" (defArgs s_law) (defBody s_law) (defScope s_law) .none kV10 dc10 pm10 an10 cd10 ct10, fun s v => .of_eq rfl, fun base _ _ => by
  have DR := FnOk.cl (P := l.prog) (w := w) (base := base) (ok_draw F__law_draw M) F__law_draw g__law_draw b__law_draw
  have N := FnOk.cl (P := l.prog) (w := w) (base := base) (ok_next F__law_next M) F__law_next g__law_next b__law_next
  have SM := cl_same (P := l.prog) (w := w) (base := base) F__law_same M g__law_same b__law_same
  have HT := FnOk.cl (P := l.prog) (w := w) (base := base) (ok_ht F_has_totals M) F_has_totals g_has_totals b_has_totals
  have MR := FnOk.cl (ok_mr F_may_rise M HT) F_may_rise g_may_rise b_may_rise
  have FA := FnOk.cl (ok_fall F_falling M MR) F_falling g_falling b_falling
  have US := FnOk.cl (P := l.prog) (w := w) (base := base) (ok_uses F_uses M) F_uses g_uses b_uses
  have LF := FnOk.cl (ok_leaf F__law_leaf M N) F__law_leaf g__law_leaf b__law_leaf
  have ON := FnOk.cl (P := l.prog) (w := w) (base := base) (ok_one F__law_one_column M) F__law_one_column g__law_one_column b__law_one_column
  have GR := cl_grow (P := l.prog) (w := w) (base := base) F__law_grow M g__law_grow b__law_grow N LF ON
  exact ok_law F_law M DR N (GR 4) FA US (SM 5)⟩
end Lw
open PySem PySem.W PyProof.Rows
set_option maxHeartbeats 0 in
theorem PySem.Challenge.cw_lineworks_k29_falling_goes_by_the_operat_holds : PySem.Challenge.rw_lineworks_k29_falling_goes_by_the_operat.Holds := by
  w_on; o_law; k_head; (case hw => w_witness2)
  k_fill
  refine L2.walk_of (l := PySem.Challenge.rw_lineworks_k29_falling_goes_by_the_operat) (n := 63) (k := 7) (x := "script") (CX := fun _ => L2.CX0) (sp := fun w => Lw.sp_law _) rfl (by decide) rfl ⟨rfl, by decide, by decide⟩ (fun w h Y => PySem.W.kIn_of Y) ?F (fun _ _ a ns hl _ hS => ⟨a, ns, rfl, hS, hl, fun _ => rfl⟩) (fun _ _ _ _ _ h => h)
  case F =>
    intro w mg fa h KX G hmg
    refine' Lw.all_mk KX G hmg ?a0 ?l0 ?c0 ?k0 ?a1 ?l1 ?c1 ?k1 ?a2 ?l2 ?c2 ?k2 ?a3 ?l3 ?c3 ?k3 ?a4 ?l4 ?c4 ?k4 ?a5 ?l5 ?c5 ?k5 ?a6 ?l6 ?c6 ?k6 ?a7 ?l7 ?c7 ?k7 ?a8 ?l8 ?c8 ?k8 ?a9 ?l9 ?c9 ?k9 ?a10 ?l10 ?c10 ?k10  ?z_abs ?z_all ?z_bool ?z_int ?z_isinstance ?z_len ?z_list ?z_range ?z_sorted ?z_str ?z_tuple
    (case a0 => k_is); (case l0 => k_is); (case c0 => k_is); (case k0 => k_is)
    (case a1 => k_is); (case l1 => k_is); (case c1 => k_is); (case k1 => k_is)
    (case a2 => k_is); (case l2 => k_is); (case c2 => k_is); (case k2 => k_is)
    (case a3 => k_is); (case l3 => k_is); (case c3 => k_is); (case k3 => k_is)
    (case a4 => k_is); (case l4 => k_is); (case c4 => k_is); (case k4 => k_is)
    (case a5 => k_is); (case l5 => k_is); (case c5 => k_is); (case k5 => k_is)
    (case a6 => k_is); (case l6 => k_is); (case c6 => k_is); (case k6 => k_is)
    (case a7 => k_is); (case l7 => k_is); (case c7 => k_is); (case k7 => k_is)
    (case a8 => k_is); (case l8 => k_is); (case c8 => k_is); (case k8 => k_is)
    (case a9 => k_is); (case l9 => k_is); (case c9 => k_is); (case k9 => k_is)
    (case a10 => k_is); (case l10 => k_is); (case c10 => k_is); (case k10 => k_is)
    (case z_abs => k_is); (case z_all => k_is); (case z_bool => k_is); (case z_int => k_is); (case z_isinstance => k_is); (case z_len => k_is); (case z_list => k_is); (case z_range => k_is); (case z_sorted => k_is); (case z_str => k_is); (case z_tuple => k_is)

