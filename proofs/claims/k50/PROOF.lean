import PyProof.Rows.All
import Wide.All
import OpenK.AllK
import Wide.FinOn
import HandS.ForMost
import HandS.Wide
import HandS.IsInst
import HandS.Replace
import HandS.Codes
import KE.LtSeq
import PySem.Challenge.RW_lineworks_k50_values_are_ordered
set_option Elab.async false
set_option linter.all false
set_option maxRecDepth 100000
namespace Lw
open PySem PySem.Spec PyProof.Rows L2
def topS (i : Nat) : Stmt := PySem.Challenge.pw_lineworks_k50_values_are_ordered.main.body.getD i (.Pass ⟨0, 0, 0, 0⟩)
abbrev s_value_key : Stmt := topS 1
abbrev N_value_key : List Str := ["value"]
theorem sc_value_key : FnScope N_value_key ["value"] (defScope s_value_key) := ⟨rfl, rfl, rfl, by decide +kernel, rfl, by decide +kernel, by decide +kernel⟩
abbrev s_row_key : Stmt := topS 2
abbrev N_row_key : List Str := ["row", "value"]
theorem sc_row_key : FnScope N_row_key ["row"] (defScope s_row_key) := ⟨rfl, rfl, rfl, by decide +kernel, rfl, by decide +kernel, by decide +kernel⟩
abbrev s__law_draw : Stmt := topS 4
abbrev N__law_draw : List Str := ["script"]
theorem sc__law_draw : FnScope N__law_draw ["script"] (defScope s__law_draw) := ⟨rfl, rfl, rfl, by decide +kernel, rfl, by decide +kernel, by decide +kernel⟩
abbrev s__law_next : Stmt := topS 5
abbrev N__law_next : List Str := ["draw", "many", "found", "cell"]
theorem sc__law_next : FnScope N__law_next ["draw", "many"] (defScope s__law_next) := ⟨rfl, rfl, rfl, by decide +kernel, rfl, by decide +kernel, by decide +kernel⟩
abbrev s__law_value : Stmt := topS 6
abbrev N__law_value : List Str := ["draw", "form", "k"]
theorem sc__law_value : FnScope N__law_value ["draw"] (defScope s__law_value) := ⟨rfl, rfl, rfl, by decide +kernel, rfl, by decide +kernel, by decide +kernel⟩
abbrev s__law_text_before : Stmt := topS 7
abbrev N__law_text_before : List Str := ["first", "second", "k"]
theorem sc__law_text_before : FnScope N__law_text_before ["first", "second"] (defScope s__law_text_before) := ⟨rfl, rfl, rfl, by decide +kernel, rfl, by decide +kernel, by decide +kernel⟩
abbrev s__law_before : Stmt := topS 8
abbrev N__law_before : List Str := ["first", "second"]
theorem sc__law_before : FnScope N__law_before ["first", "second"] (defScope s__law_before) := ⟨rfl, rfl, rfl, by decide +kernel, rfl, by decide +kernel, by decide +kernel⟩
abbrev s__law_equal : Stmt := topS 9
abbrev N__law_equal : List Str := ["first", "second"]
theorem sc__law_equal : FnScope N__law_equal ["first", "second"] (defScope s__law_equal) := ⟨rfl, rfl, rfl, by decide +kernel, rfl, by decide +kernel, by decide +kernel⟩
abbrev s__law_row_before : Stmt := topS 10
abbrev N__law_row_before : List Str := ["first", "second", "k"]
theorem sc__law_row_before : FnScope N__law_row_before ["first", "second"] (defScope s__law_row_before) := ⟨rfl, rfl, rfl, by decide +kernel, rfl, by decide +kernel, by decide +kernel⟩
abbrev s_law : Stmt := topS 11
abbrev N_law : List Str := ["script", "draw", "values", "first", "second", "one", "two", "rows", "length", "equal", "k"]
theorem sc_law : FnScope N_law ["script"] (defScope s_law) := ⟨rfl, rfl, rfl, by decide +kernel, rfl, by decide +kernel, by decide +kernel⟩
/-! ### heaps and calls -/
theorem same_upd {H : Hp} {p : Addr} {o : HO} (h : H p = none) : Same H (upd H p o) := fun b x e => by
  rw [upd_ne (ne_of_none e h)]
  exact e
/-- what stood stands, but for the object at d -/
def Fd (d : Addr) (H H' : Hp) : Prop := ∀ b o, b ≠ d → H b = some o → H' b = some o
theorem Fd.refl (d : Addr) (H : Hp) : Fd d H H := fun _ _ _ e => e
theorem Fd.trans {d : Addr} {H H1 H2 : Hp} (a : Fd d H H1) (b : Fd d H1 H2) : Fd d H H2 := fun c o n e => b c o n (a c o n e)
theorem Fd.of {d : Addr} {H H' : Hp} (a : Same H H') : Fd d H H' := fun b o _ e => a b o e
theorem Fd.new {d : Addr} {H : Hp} {p : Addr} {o : HO} (h : H p = none) : Fd d H (upd H p o) := Fd.of (same_upd h)
theorem Fd.at {d : Addr} {H : Hp} {o : HO} : Fd d H (upd H d o) := fun b x n e => by
  rw [upd_ne n]
  exact e
/-- a def that may be called by its name -/
structure Cl (P : Program) (w : World) (K : PySem.W.Frag) (mg : Str → Option Value) (base : Heap) (k : Nat) (x : Str) (sp : Sp) : Prop where
  ex : ∃ (f : Addr) (fd : FuncData) (ps : List Str), FnOk P w K mg base CX0 k f fd ps sp ∧ mg x = some (.ref f) ∧ PySem.W.keepIn K (.ref f) = true ∧ Binds K fd ps []
section
variable {X : Cx} {k j : Nat} {x : Str} {sp : Sp} {p pos : Pos} {e : Expr} {es : List Expr} {t : TA}
theorem pe_u (c : Cl X.prog X.w X.K X.mg X.base k x sp) (hr : Room j X.A) (hk : k ≤ j) (hg : Gl X x) (ha : PA X (e :: es) t)
    (hdb : (x == ("__debug__" : Str)) = false := by decide) (he : starEach (e :: es) X.env = (false, eval e X.env) :: starEach es X.env := by rfl) (hpl : (backTo pos (starEach es X.env)).any (·.1) = false := by rfl) :
    PE X (.Call (.Name x p) (e :: es) [] pos) (tCall sp [] E0 t) := by
  obtain ⟨f, fd, ps, F, hm, kp, b⟩ := c.ex
  exact pe_call F (hr.mono hk) hg hm kp b .nil pass0 ha hdb he hpl
end
theorem FnOk.cl {P : Program} {w : World} {K : PySem.W.Frag} {mg : Str → Option Value} {base : Heap} {k : Nat} {x q : Str} {st : Stmt} {f : Addr} {fd : FuncData} {ps : List Str} {sp : Sp} (h : FnOk P w K mg base CX0 k f fd ps sp) (F : Fun K x q st f fd) (g : mg x = some (.ref f)) (b : Binds K fd ps []) : Cl P w K mg base k x sp := ⟨f, fd, ps, h, g, F.kp, b⟩
/-! ### rules with the written part named (within a comprehension) -/
section
variable {X : Cx} (K : PySem.W.Frag)
theorem ix_listK (h : X.K = K := by rfl) : IxR X (rIxL K) := by subst h; exact ix_list
theorem ix_tupK (h : X.K = K := by rfl) : IxR X (rIxT K) := by subst h; exact ix_tup
theorem ix_seqK (h : X.K = K := by rfl) : IxR X (rIx K) := by subst h; exact ix_seq
theorem len_seqK (h : X.K = K := by rfl) : CallR X (.builtin "len") (fun xs H Q => ∃ p ys, xs = [.ref p] ∧ (SqL K H p ys ∨ SqT K H p ys) ∧ Q (.int ys.length) H) := by subst h; exact call_len_seq
theorem isiK (h : X.K = K := by rfl) : CallR X (.builtin "isinstance") (rIsi K) := by subst h; exact call_isi
theorem isiTK (h : X.K = K := by rfl) : CallR X (.builtin "isinstance") (rIsiT K) := by subst h; exact call_isiT
theorem allK (hc : X.calm = true) (h : X.K = K := by rfl) : CallR X (.builtin "all") (rAll K) := by subst h; exact cr_all hc
theorem listK (h : X.K = K := by rfl) : CallR X (.type "list") (fun xs H Q => ∃ p ys, xs = [.ref p] ∧ (SqL K H p ys ∨ SqT K H p ys) ∧ ∀ l, H l = none → Q (.ref l) (upd H l (.lst ys))) := by subst h; exact call_list_of
theorem tupleK (h : X.K = K := by rfl) : CallR X (.type "tuple") (fun xs H Q => ∃ p ys, xs = [.ref p] ∧ ((SqL K H p ys ∧ ∀ l, H l = none → Q (.ref l) (upd H l (.tup ys))) ∨ (SqT K H p ys ∧ Q (.ref p) H))) := by subst h; exact call_tuple_of
theorem pt_truthK {a : Expr} {ta : TE} (ha : PE X a ta) (he : ∀ whole, isTrue a X.env whole = (do let v ← whole; standAt a.pos; holding [v] (truthy v))) (h : X.K = K := by rfl) : PT X a (fun σ H Q => ta σ H fun x H' => ∃ k, TruV K x H' k ∧ Q k H') := by subst h; exact pt_truth ha he
theorem eqDK (hu : X.A.units + 64 < cLine) (h : X.K = K := by rfl) : OpR X (compareOp .Eq) (rEqD K) := by subst h; exact op_eqD hu
theorem neDK (hu : X.A.units + 64 < cLine) (h : X.K = K := by rfl) : OpR X (compareOp .NotEq) (rNeD K) := by subst h; exact op_neD hu
end
/-- over the signs of a text -/
theorem for_strs {x : Str} {g : TG} {tb : TS} {D : Ends} {σ : L2.St} {H : Hp} (Pv : Nat → L2.St → Hp → Prop) (h0 : Pv 0 σ H)
    (hs : ∀ i c σ H, x.cps.toList[i]? = some c → Pv i σ H → g (.str ⟨#[c]⟩) σ H fun σ2 H2 => tb { D with nx := Pv (i + 1), ct := Pv (i + 1), bk := D.nx } σ2 H2) (hd : ∀ σ H, Pv x.cps.toList.length σ H → D.nx σ H) :
    ∃ W : Nat → Nat → L2.St → Hp → Prop, (∃ m, W 0 m σ H) ∧ ∀ i m σ H, W i m σ H →
      ((Its x).stop i H ∧ D.nx σ H) ∨ ((Its x).go i H ∧ ∃ N : L2.St → Hp → Prop, (∀ σ' H', N σ' H' → ∃ m', m' < m ∧ W (i + 1) m' σ' H') ∧ ∀ v H', (Its x).yld i H v H' → g v σ H' fun σ2 H2 => tb { D with nx := N, ct := N, bk := D.nx } σ2 H2) := by
  have es : x.cps.toList.length = x.cps.size := by simp
  refine ⟨fun i m σ H => m = x.cps.size - i ∧ i ≤ x.cps.size ∧ Pv i σ H, ⟨x.cps.size, by simp, Nat.zero_le _, h0⟩, ?_⟩
  rintro i m σ H ⟨rfl, hi, p⟩
  by_cases hlt : i < x.cps.size
  · refine .inr ⟨hlt, Pv (i + 1), fun σ' H' p' => ⟨x.cps.size - (i + 1), by omega, rfl, hlt, p'⟩, fun v H' y => ?_⟩
    obtain ⟨e, c, hc, rfl⟩ := y
    subst e
    exact hs i c σ _ (by rw [Array.getElem?_toList]; exact hc) p
  · have e : i = x.cps.size := by omega
    subst e
    exact .inl ⟨Nat.le_refl _, hd σ H (by rw [es]; exact p)⟩
theorem joinL0 : ∀ ps : List (List Nat), TL.joinL [] ps = ps.flatten
  | [] => rfl
  | [p] => by
    show p = p ++ []
    rw [List.append_nil]
  | p :: q :: r => by
    show p ++ ([] ++ TL.joinL [] (q :: r)) = p ++ (q :: r).flatten
    rw [joinL0 (q :: r), List.nil_append]
theorem join0 (ys : List Str) : Txt.join ⟨#[]⟩ ys = ⟨((ys.map TL.tl).flatten).toArray⟩ := by
  refine TL.ext_tl ?_
  rw [TL.join_eq, TL.tl_join]
  show TL.joinL [] _ = _
  rw [joinL0]
theorem flat_len : ∀ ys : List Str, ((ys.map TL.tl).flatten).length = (ys.map (·.length)).sum
  | [] => rfl
  | y :: ys => by
    rw [List.map_cons, List.flatten_cons, List.length_append, flat_len ys, List.map_cons, List.sum_cons]
    show y.cps.toList.length + _ = _
    rw [Array.length_toList]
    rfl
theorem S_len' (l : List Nat) : (⟨l.toArray⟩ : Str).length = l.length := by simp [Str.length]
theorem cut_to (l : List Nat) {o : Nat} (h : o ≤ l.length) : cutS ⟨l.toArray⟩ none (some (o : Int)) = ⟨(l.take o).toArray⟩ := by
  unfold cutS
  rw [HT.sIx_none, HT.sIx_nat, S_len', Nat.sub_zero, Nat.min_eq_left h]
  show (⟨((l.drop 0).take o).toArray⟩ : Str) = _
  rw [List.drop_zero]
theorem str1 (c : Nat) (d : Nat) : decide (V.str ⟨#[c]⟩ = V.str ⟨#[d]⟩) = decide (c = d) := by
  by_cases h : c = d
  · subst h
    rw [decide_eq_true rfl, decide_eq_true rfl]
  · rw [decide_eq_false h, decide_eq_false]
    intro e
    have e1 := V.str.inj e
    have e2 := Array.toList_inj.mpr (Str.mk.inj e1)
    exact h (by simpa using e2)

structure Mg (mg : Str → Option Value) : Prop where
  abs : mg "abs" = none
  int : mg "int" = none
  isinstance : mg "isinstance" = none
  len : mg "len" = none
  list : mg "list" = none
  min : mg "min" = none
  range : mg "range" = none
  str : mg "str" = none
  tuple : mg "tuple" = none
/-! ### the law's draws: a list of the script's copy, a place in it, what is left of a great number, a seed -/
def Dr (H : Hp) (d c : Addr) : Prop := c ≠ d ∧ ∃ (ns : List Int) (pos rest seed : Int), H d = some (.lst [.ref c, .int pos, .int rest, .int seed]) ∧ H c = some (.lst (ns.map V.int)) ∧ 0 ≤ pos ∧ 0 ≤ rest ∧ 0 ≤ seed ∧ seed < 2147483647
theorem Dr.ext {H H' : Hp} {d c : Addr} (h : Dr H d c) (e : Same H H') : Dr H' d c := by
  obtain ⟨n, ns, pos, rest, seed, h1, h2, r⟩ := h
  exact ⟨n, ns, pos, rest, seed, e _ _ h1, e _ _ h2, r⟩
theorem Dr.upd {H : Hp} {d c p : Addr} {o : HO} (h : Dr H d c) (n1 : p ≠ d) (n2 : p ≠ c) : Dr (upd H p o) d c := by
  obtain ⟨n, ns, pos, rest, seed, h1, h2, r⟩ := h
  exact ⟨n, ns, pos, rest, seed, by rw [upd_ne n1.symm]; exact h1, by rw [upd_ne n2.symm]; exact h2, r⟩
theorem Dr.nd {H : Hp} {d c p : Addr} (h : Dr H d c) (n : H p = none) : p ≠ d := by
  obtain ⟨_, ns, pos, rest, seed, h1, _⟩ := h
  exact (ne_of_none h1 n).symm
theorem Dr.nc {H : Hp} {d c p : Addr} (h : Dr H d c) (n : H p = none) : p ≠ c := by
  obtain ⟨_, ns, pos, rest, seed, _, h2, _⟩ := h
  exact (ne_of_none h2 n).symm
theorem Dr.lift {H H' : Hp} {d c d' c' : Addr} (_h : Dr H d c) (h' : Dr H' d' c') : Dr H' d' c' := h'
def sp_draw (K : PySem.W.Frag) : Sp := fun vs H Q _ => ∃ (a : Addr) (ns : List Int), vs = [.ref a] ∧ SqL K H a (ns.map V.int) ∧ ∀ H' d c, Same H H' → H d = none → Dr H' d c → Q (.ref d) H'
/-- a draw: some number below many -/
def sp_next : Sp := fun vs H Q _ => ∃ (d c : Addr) (many : Int), vs = [.ref d, .int many] ∧ Dr H d c ∧ 1 ≤ many ∧ many < 2 ^ 64 ∧ ∀ H' r, Fd d H H' → (∀ p, p ≠ d → H' p = H p) → Dr H' d c → 0 ≤ r → r < many → Q (.int r) H'
section
variable {P : Program} {w : World} {K : PySem.W.Frag} {mg : Str → Option Value} {base : Heap}
theorem ok_draw {f : Addr} {fd : FuncData} (F : Fun K "_law_draw" "_law_draw" s__law_draw f fd) (M : Mg mg) : FnOk P w K mg base CX0 1 f fd ["script"] (sp_draw K) := by
  refine F.ok sc__law_draw (fun vs H Q E h => ?_) (fun cdv A outer s H vs Q E hr h => ?_)
  · obtain ⟨a, ns, rfl, _⟩ := h
    rfl
  · obtain ⟨a, ns, rfl, hS, q⟩ := h
    refine ⟨_, (pss_one (ps_ret (pe_lst (pa_cons (pe_callTy (listK K) (by rfl) M.list (by decide +kernel) (pa_cons (pv 0) pa_nil)) (pa_cons pe_int (pa_cons pe_int (pa_cons pe_int pa_nil))))))), ?_⟩
    refine ⟨_, rfl, a, _, rfl, .inl hS, fun c nc => ?_⟩
    refine ⟨by show 4 ≤ sizeLine; decide, fun d nd => ?_⟩
    have hc : (upd H c (.lst (ns.map V.int))) c = some (.lst (ns.map V.int)) := upd_same
    have ncd : c ≠ d := ne_of_none hc nd
    have s1 := (same_upd nc (o := .lst (ns.map V.int))).trans (same_upd nd (o := .lst [.ref c, .int 0, .int 0, .int 17]))
    refine q _ d c s1 ((same_upd nc).free nd) ⟨ncd, ns, 0, 0, 17, upd_same, ?_, by decide, by decide, by decide, by decide⟩
    rw [upd_ne ncd]
    exact hc
theorem next_aux {H : Hp} {d c : Addr} {xs' : List V} {pos rest seed : Int} {ns : List Int} (hn : c ≠ d) (h2 : H c = some (.lst (ns.map V.int))) (hx : xs' = [.ref c, .int pos, .int rest, .int seed]) (h0 : 0 ≤ pos) (h1 : 0 ≤ rest) (h3 : 0 ≤ seed) (h4 : seed < 2147483647) : Dr (upd H d (.lst xs')) d c := by
  subst hx
  refine ⟨hn, ns, pos, rest, seed, upd_same, ?_, h0, h1, h3, h4⟩
  rw [upd_ne hn]
  exact h2
theorem ok_next {f : Addr} {fd : FuncData} (F : Fun K "_law_next" "_law_next" s__law_next f fd) (M : Mg mg) : FnOk P w K mg base CX0 1 f fd ["draw", "many"] sp_next := by
  refine F.ok sc__law_next (fun vs H Q E h => ?_) (fun cdv A outer s H vs Q E hr h => ?_)
  · obtain ⟨d, c, many, rfl, _⟩ := h
    rfl
  · obtain ⟨d, c, many, rfl, ⟨ncd, ns, pos, rest, seed, h1, h2, h0, h3, h4, h5⟩, hm1, hm2, q⟩ := h
    have hdv : ∀ x : Int, CDivW x many := fun x => wide_div (b := 64) (by omega) (by omega) (by decide) (by decide)
    have hcd : d ≠ c := ncd.symm
    have L0 : SqL K H d [.ref c, .int pos, .int rest, .int seed] := .of h1
    have at0 : ∀ (a b e g : V), atI [a, b, e, g] (0 : Int) = some a := fun a b e g => atI_nat (j := 0) rfl
    have at1 : ∀ (a b e g : V), atI [a, b, e, g] (1 : Int) = some b := fun a b e g => atI_nat (j := 1) rfl
    have at2 : ∀ (a b e g : V), atI [a, b, e, g] (2 : Int) = some e := fun a b e g => atI_nat (j := 2) rfl
    have at3 : ∀ (a b e g : V), atI [a, b, e, g] (3 : Int) = some g := fun a b e g => atI_nat (j := 3) rfl
    have fr : ∀ (H0 : Hp) (o : HO), (∀ p, p ≠ d → H0 p = H p) → (∀ p, p ≠ d → (upd H0 d o) p = H p) := fun H0 o e p n => by rw [upd_ne n]; exact e p n
    have fF : ∀ (H0 : Hp), (∀ p, p ≠ d → H0 p = H p) → Fd d H H0 := fun H0 e b o n h => by rw [e b n]; exact h
    -- the last row's value
    have last : ∀ (seed' : Int), 0 ≤ seed' → seed' < 2147483647 → ∀ H0 : Hp, (∀ p, p ≠ d → H0 p = H p) → (∃ pos rest, H0 d = some (.lst [.ref c, .int pos, .int rest, .int seed']) ∧ 0 ≤ pos ∧ 0 ≤ rest) → Q (.int ((seed' * 69621 % 2147483629 / 7) % many)) H0 := by
      intro seed' g0 g1 H0 e ⟨pos', rest', g2, g3, g4⟩
      exact q H0 _ (fF _ e) e ⟨ncd, ns, pos', rest', seed', g2, by rw [e c ncd]; exact h2, g3, g4, g0, g1⟩ (Int.emod_nonneg _ (by omega)) (Int.emod_lt_of_pos _ (by omega))
    refine ⟨_, (pss_cons (ps_if (pt_cmpR op_gt (pe_ix (ix_listK K) (pv 0) pe_int (fun _ _ => rfl)) pe_int (nomark _)) (pss_cons (ps_set (i := 2) sc__law_next.nd rfl (.inl rfl) (pe_op op_mod (pe_callTy call_int1 (by rfl) M.int (by decide +kernel) (pa_cons (pe_ix (ix_listK K) (pv 0) pe_int (fun _ _ => rfl)) pa_nil)) (pv 1)))
      (pss_cons (ps_asg (pe_op op_fdivW (pe_ix (ix_listK K) (pv 0) pe_int (fun _ _ => rfl)) (pv 1)) (pg_sub (pv 0) pe_int set_list))
      (pss_one (ps_ret (pv 2))))) pss_nil)
      (pss_cons (ps_if (pt_cmpR op_lt (pe_ix (ix_listK K) (pv 0) pe_int (fun _ _ => rfl)) (pe_callB (len_seqK K) (by rfl) M.len PySem.boot_len (pa_cons (pe_ix (ix_listK K) (pv 0) pe_int (fun _ _ => rfl)) pa_nil)) (nomark _)) (pss_cons (ps_set (i := 3) sc__law_next.nd rfl (.inl rfl) (pe_callB call_abs (by rfl) M.abs (by decide +kernel) (pa_cons (pe_ix (ix_listK K) (pe_ix (ix_listK K) (pv 0) pe_int (fun _ _ => rfl)) (pe_ix (ix_listK K) (pv 0) pe_int (fun _ _ => rfl)) (fun _ _ => rfl)) pa_nil)))
      (pss_cons (ps_asg (pe_op op_add (pe_ix (ix_listK K) (pv 0) pe_int (fun _ _ => rfl)) pe_int) (pg_sub (pv 0) pe_int set_list))
      (pss_cons (ps_if (pt_cmpR op_ge (pv 3) (pe_op op_pow pe_int pe_int) (nomark _)) (pss_cons (ps_asg (pe_op op_fdivW (pv 3) (pv 1)) (pg_sub (pv 0) pe_int set_list))
      (pss_one (ps_ret (pe_op op_mod (pe_callTy call_int1 (by rfl) M.int (by decide +kernel) (pa_cons (pv 3) pa_nil)) (pv 1))))) pss_nil)
      (pss_one (ps_asg (pe_op op_mod (pe_callTy call_int1 (by rfl) M.int (by decide +kernel) (pa_cons (pe_op op_add (pe_op op_add (pe_op op_mul (pe_ix (ix_listK K) (pv 0) pe_int (fun _ _ => rfl)) pe_int) (pv 3)) pe_int) pa_nil)) pe_int) (pg_sub (pv 0) pe_int set_list)))))) (pss_one (ps_asg (pe_op op_mod (pe_callTy call_int1 (by rfl) M.int (by decide +kernel) (pa_cons (pe_op op_add (pe_op op_mul (pe_ix (ix_listK K) (pv 0) pe_int (fun _ _ => rfl)) pe_int) pe_int) pa_nil)) pe_int) (pg_sub (pv 0) pe_int set_list))))
      (pss_one (ps_ret (pe_op op_mod (pe_op op_fdivW (pe_callTy call_int1 (by rfl) M.int (by decide +kernel) (pa_cons (pe_op op_mod (pe_op op_mul (pe_ix (ix_listK K) (pv 0) pe_int (fun _ _ => rfl)) pe_int) pe_int) pa_nil)) pe_int) (pv 1)))))), ?_⟩
    refine ⟨_, rfl, d, _, 2, .int rest, rfl, rfl, L0, at2 .., ?_⟩
    refine ⟨_, _, rfl, rfl, _, rfl, ite2 (fun e => ?_) (fun e => ?_)⟩
    · -- draw[2] > 0
      have hr0 : 0 < rest := of_decide_eq_true e
      refine ⟨_, rfl, d, _, 2, .int rest, rfl, rfl, L0, at2 .., .inl ⟨_, rfl, ?_⟩⟩
      refine ⟨_, rfl, _, _, rfl, rfl, by omega, ?_⟩
      refine ⟨_, rfl, d, _, 2, .int rest, rfl, rfl, L0, at2 .., ?_⟩
      refine ⟨_, rfl, _, _, rfl, rfl, hdv _, ?_⟩
      refine ⟨_, rfl, d, _, 2, 2, rfl, rfl, h1, rfl, ?_⟩
      refine ⟨_, rfl, ?_⟩
      have e1 := fr H (.lst ([.ref c, .int pos, .int rest, .int seed].set 2 (.int (rest / many)))) (fun _ _ => rfl)
      exact q _ _ (fF _ e1) e1 (next_aux ncd h2 rfl h0 (Int.ediv_nonneg h3 (by omega)) h4 h5) (Int.emod_nonneg _ (by omega)) (Int.emod_lt_of_pos _ (by omega))
    · refine ⟨_, rfl, d, _, 1, .int pos, rfl, rfl, L0, at1 .., ?_⟩
      refine ⟨_, rfl, d, _, 0, .ref c, rfl, rfl, L0, at0 .., ?_⟩
      refine ⟨c, _, rfl, .inl (.of h2), ?_⟩
      refine ⟨_, _, rfl, rfl, _, rfl, ite2 (fun e2 => ?_) (fun e2 => ?_)⟩
      · have hp : pos < ((ns.map V.int).length : Int) := of_decide_eq_true e2
        rw [List.length_map] at hp
        obtain ⟨i, rfl⟩ := Int.eq_ofNat_of_zero_le h0
        have hi : i < ns.length := by omega
        have hat : atI (ns.map V.int) ((i : Nat) : Int) = some (.int ns[i]) := atI_nat (by rw [List.getElem?_map, List.getElem?_eq_getElem hi]; rfl)
        -- cell = abs(..)
        refine ⟨_, rfl, d, _, 0, .ref c, rfl, rfl, L0, at0 .., ?_⟩
        refine ⟨_, rfl, d, _, 1, _, rfl, rfl, L0, at1 .., ?_⟩
        refine ⟨c, _, _, _, rfl, rfl, .of h2, hat, ?_⟩
        refine ⟨_, rfl, ?_⟩
        have hcell : (0 : Int) ≤ (if ns[i] < 0 then -ns[i] else ns[i]) := by split <;> omega
        generalize (if ns[i] < 0 then -ns[i] else ns[i]) = cell at hcell
        -- draw[1] = draw[1] + 1
        refine ⟨_, rfl, d, _, 1, _, rfl, rfl, L0, at1 .., ?_⟩
        refine ⟨_, _, rfl, rfl, ?_⟩
        refine ⟨_, rfl, d, _, 1, 1, rfl, rfl, h1, rfl, ?_⟩
        have hd1 : (upd H d (.lst ([.ref c, .int ((i : Nat) : Int), .int rest, .int seed].set 1 (.int ((i : Nat) + 1))))) d = some (.lst [.ref c, .int ((i : Nat) + 1), .int rest, .int seed]) := upd_same
        have e1 := fr H (.lst ([.ref c, .int ((i : Nat) : Int), .int rest, .int seed].set 1 (.int ((i : Nat) + 1)))) (fun _ _ => rfl)
        generalize upd H d (.lst ([.ref c, .int ((i : Nat) : Int), .int rest, .int seed].set 1 (.int ((i : Nat) + 1)))) = H1 at hd1 e1
        have h2' : H1 c = some (.lst (ns.map V.int)) := by rw [e1 c ncd]; exact h2
        -- cell >= 10 ** 18
        refine ⟨_, rfl, _, _, rfl, rfl, ⟨by decide, by decide, by decide⟩, ?_⟩
        refine ⟨_, _, rfl, rfl, _, rfl, ite2 (fun e3 => ?_) (fun e3 => ?_)⟩
        · refine ⟨_, rfl, _, rfl, _, _, rfl, rfl, hdv _, ?_⟩
          refine ⟨_, rfl, d, _, 2, 2, rfl, rfl, hd1, rfl, ?_⟩
          refine ⟨_, rfl, .inl ⟨_, rfl, ?_⟩⟩
          refine ⟨_, rfl, _, _, rfl, rfl, by omega, ?_⟩
          have e5 := fr H1 (.lst ([.ref c, .int ((i : Nat) + 1), .int rest, .int seed].set 2 (.int (cell / many)))) e1
          exact q _ _ (fF _ e5) e5 (next_aux ncd h2' rfl (by omega) (Int.ediv_nonneg hcell (by omega)) h4 h5) (Int.emod_nonneg _ (by omega)) (Int.emod_lt_of_pos _ (by omega))
        · -- draw[3] = ..
          refine ⟨_, rfl, d, _, 3, .int seed, rfl, rfl, .of hd1, at3 .., ?_⟩
          refine ⟨_, _, rfl, rfl, .inl ⟨by omega, by omega⟩, ?_⟩
          refine ⟨_, rfl, _, _, rfl, rfl, ?_⟩
          refine ⟨_, _, rfl, rfl, .inl ⟨_, rfl, ?_⟩⟩
          refine ⟨_, _, rfl, rfl, by show (0 : Int) < 2147483647; decide, ?_⟩
          refine ⟨_, rfl, d, _, 3, 3, rfl, rfl, hd1, rfl, ?_⟩
          have hs0 : 0 ≤ (seed * 48271 + cell + 11) % 2147483647 := Int.emod_nonneg _ (by decide)
          have hs1 : (seed * 48271 + cell + 11) % 2147483647 < 2147483647 := Int.emod_lt_of_pos _ (by decide)
          have e5 := fr H1 (.lst ([.ref c, .int ((i : Nat) + 1), .int rest, .int seed].set 3 (.int ((seed * 48271 + cell + 11) % 2147483647)))) e1
          have hd5 : (upd H1 d (.lst ([.ref c, .int ((i : Nat) + 1), .int rest, .int seed].set 3 (.int ((seed * 48271 + cell + 11) % 2147483647))))) d = some (.lst [.ref c, .int ((i : Nat) + 1), .int rest, .int ((seed * 48271 + cell + 11) % 2147483647)]) := upd_same
          dsimp only
          generalize (seed * 48271 + cell + 11) % 2147483647 = seed' at hs0 hs1 e5 hd5 ⊢
          refine ⟨_, rfl, d, _, 3, .int seed', rfl, rfl, .of hd5, at3 .., ?_⟩
          refine ⟨_, _, rfl, rfl, .inl ⟨by omega, by omega⟩, ?_⟩
          refine ⟨_, _, rfl, rfl, by show (0 : Int) < 2147483629; decide, .inl ⟨_, rfl, ?_⟩⟩
          refine ⟨_, _, rfl, rfl, ⟨by decide, by decide⟩, ?_⟩
          refine ⟨_, rfl, _, _, rfl, rfl, by omega, ?_⟩
          exact last seed' hs0 hs1 _ e5 ⟨_, _, hd5, by omega, h3⟩
      · -- draw[3] = ..
        refine ⟨_, rfl, d, _, 3, .int seed, rfl, rfl, L0, at3 .., ?_⟩
        refine ⟨_, _, rfl, rfl, .inl ⟨by omega, by omega⟩, ?_⟩
        refine ⟨_, _, rfl, rfl, .inl ⟨_, rfl, ?_⟩⟩
        refine ⟨_, _, rfl, rfl, by show (0 : Int) < 2147483647; decide, ?_⟩
        refine ⟨_, rfl, d, _, 3, 3, rfl, rfl, h1, rfl, ?_⟩
        have hs0 : 0 ≤ (seed * 48271 + 12345) % 2147483647 := Int.emod_nonneg _ (by decide)
        have hs1 : (seed * 48271 + 12345) % 2147483647 < 2147483647 := Int.emod_lt_of_pos _ (by decide)
        have e5 := fr H (.lst ([.ref c, .int pos, .int rest, .int seed].set 3 (.int ((seed * 48271 + 12345) % 2147483647)))) (fun _ _ => rfl)
        have hd5 : (upd H d (.lst ([.ref c, .int pos, .int rest, .int seed].set 3 (.int ((seed * 48271 + 12345) % 2147483647))))) d = some (.lst [.ref c, .int pos, .int rest, .int ((seed * 48271 + 12345) % 2147483647)]) := upd_same
        dsimp only
        generalize (seed * 48271 + 12345) % 2147483647 = seed' at hs0 hs1 e5 hd5 ⊢
        refine ⟨_, rfl, d, _, 3, .int seed', rfl, rfl, .of hd5, at3 .., ?_⟩
        refine ⟨_, _, rfl, rfl, .inl ⟨by omega, by omega⟩, ?_⟩
        refine ⟨_, _, rfl, rfl, by show (0 : Int) < 2147483629; decide, .inl ⟨_, rfl, ?_⟩⟩
        refine ⟨_, _, rfl, rfl, ⟨by decide, by decide⟩, ?_⟩
        refine ⟨_, rfl, _, _, rfl, rfl, by omega, ?_⟩
        exact last seed' hs0 hs1 _ e5 ⟨_, _, hd5, h0, h3⟩
end

/-! ### data in the heap -/
theorem SqT.ext {K : PySem.W.Frag} {H H' : Hp} {a : Addr} {xs : List V} (e : Same H H') (h : SqT K H a xs) : SqT K H' a xs := by
  rcases h with (h | ⟨o, h⟩) | h
  · exact .inl (.inl (e _ _ h))
  · exact .inl (.inr ⟨o, e _ _ h⟩)
  · exact .inr h
mutual
theorem Dp.ext {K : PySem.W.Frag} {H H' : Hp} (e : Same H H') : ∀ (d : PyData) (v : V), Dp K H v d → Dp K H' v d
  | .none, _, h => by cases h; exact .non
  | .bool b, _, h => by cases h; exact .bl b
  | .int i, _, h => by cases h; exact .int i
  | .str x, _, h => by cases h; exact .str x
  | .list ds, _, h => by
    cases h with
    | lst hs ha => exact .lst (e.seq hs) (DpAll.ext e ds _ ha)
  | .tuple ds, _, h => by
    cases h with
    | tup hs ha => exact .tup (SqT.ext e hs) (DpAll.ext e ds _ ha)
  | .dict _, _, h => by cases h
theorem DpAll.ext {K : PySem.W.Frag} {H H' : Hp} (e : Same H H') : ∀ (ds : List PyData) (vs : List V), DpAll K H vs ds → DpAll K H' vs ds
  | [], _, h => by cases h; exact .nil
  | d :: ds, _, h => by
    cases h with
    | cons h1 h2 => exact .cons (Dp.ext e d _ h1) (DpAll.ext e ds _ h2)
end
theorem DpAll.len {K : PySem.W.Frag} {H : Hp} : ∀ {ds : List PyData} {vs : List V}, DpAll K H vs ds → vs.length = ds.length
  | [], _, h => by cases h; rfl
  | d :: ds, _, h => by
    cases h with
    | cons h1 h2 => exact congrArg (· + 1) (DpAll.len h2)
theorem DpAll.get {K : PySem.W.Frag} {H : Hp} : ∀ {ds : List PyData} {vs : List V} {i : Nat} {d : PyData}, DpAll K H vs ds → ds[i]? = some d → ∃ v, vs[i]? = some v ∧ Dp K H v d
  | [], _, _, _, _, e => by simp at e
  | x :: ds, _, 0, d, h, e => by
    cases h with
    | cons h1 h2 =>
      have e1 : x = d := Option.some.inj e
      subst e1
      exact ⟨_, rfl, h1⟩
  | x :: ds, _, i + 1, d, h, e => by
    cases h with
    | cons h1 h2 =>
      obtain ⟨v, hv, hd⟩ := DpAll.get (i := i) h2 (by simpa using e)
      exact ⟨v, by simpa using hv, hd⟩
theorem tyL {K : PySem.W.Frag} {H : Hp} {a : Addr} {xs : List V} (h : SqL K H a xs) : TyX K H (.ref a) (.type "list") := by
  rcases h with (h | ⟨o, h⟩) | ⟨o, its, n, h, c, _⟩
  · exact .base (.lst h)
  · exact .base (.frz h)
  · exact .kList h c
theorem tyT {K : PySem.W.Frag} {H : Hp} {a : Addr} {xs : List V} (h : SqT K H a xs) : TyX K H (.ref a) (.type "tuple") := by
  rcases h with (h | ⟨o, h⟩) | ⟨o, its, n, h, c, _⟩
  · exact .base (.tup h)
  · exact .fTuple h
  · exact .kTuple h c
mutual
/-- no list within -/
def tupOnly : PyData → Bool
  | .list _ => false
  | .dict _ => false
  | .tuple ds => tupOnlys ds
  | _ => true
def tupOnlys : List PyData → Bool
  | [] => true
  | d :: ds => tupOnly d && tupOnlys ds
end
mutual
theorem Dp.away {K : PySem.W.Frag} {H : Hp} {D : Addr} {zs : List V} {o : HO} (hD : H D = some (.lst zs)) : ∀ (d : PyData) (v : V), tupOnly d = true → Dp K H v d → Dp K (upd H D o) v d
  | .none, _, _, h => by cases h; exact .non
  | .bool b, _, _, h => by cases h; exact .bl b
  | .int i, _, _, h => by cases h; exact .int i
  | .str x, _, _, h => by cases h; exact .str x
  | .list ds, _, e, _ => by unfold tupOnly at e; cases e
  | .tuple ds, _, e, h => by
    unfold tupOnly at e
    cases h with
    | @tup a _ _ hs ha =>
      refine .tup ?_ (DpAll.away hD ds _ e ha)
      rcases hs with (hs | ⟨o', hs⟩) | hs
      · exact .inl (.inl (by rw [upd_ne (ne_of hs hD (fun z => nomatch z))]; exact hs))
      · exact .inl (.inr ⟨o', by rw [upd_ne (ne_of hs hD (fun z => nomatch z))]; exact hs⟩)
      · exact .inr hs
  | .dict _, _, _, h => by cases h
theorem DpAll.away {K : PySem.W.Frag} {H : Hp} {D : Addr} {zs : List V} {o : HO} (hD : H D = some (.lst zs)) : ∀ (ds : List PyData) (vs : List V), tupOnlys ds = true → DpAll K H vs ds → DpAll K (upd H D o) vs ds
  | [], _, _, h => by cases h; exact .nil
  | d :: ds, _, e, h => by
    unfold tupOnlys at e
    rw [Bool.and_eq_true] at e
    cases h with
    | cons h1 h2 => exact .cons (Dp.away hD d _ e.1 h1) (DpAll.away hD ds _ e.2 h2)
end
theorem DpAll.snoc {K : PySem.W.Frag} {H : Hp} : ∀ {ds : List PyData} {xs : List V} {v : V} {d : PyData}, DpAll K H xs ds → Dp K H v d → DpAll K H (xs ++ [v]) (ds ++ [d])
  | [], _, _, _, h, h2 => by cases h; exact .cons h2 .nil
  | _ :: ds, _, _, _, h, h2 => by
    cases h with
    | cons a b => exact .cons a (DpAll.snoc b h2)
theorem at_0 {α : Type} {xs : List α} {i : Nat} {v : α} (h : xs[i]? = some v) : atI xs (0 + (i : Int)) = some v := by
  rw [Int.zero_add]
  exact atI_nat h

/-! ### t < u of tuples whose first different place alone can be compared -/
section
open PySem.SeqAt AutoSeq1 MeetsSeq MeetsSeq2 MeetsSeq3 SeqRoads2
/-- what the first different place says; fin where there is none -/
def fstLt (e r : Nat → Bool) (fin : Bool) (n : Nat) : Bool := SeqAt.firstLt e r fin (List.range n)
theorem ltFirst (p q : Addr) (xs ys : Array Value) (n1 n2 : Nat) (d1 d2 : Option Addr) (z1 z2 : Array (Option Value)) (e r : Nat → Bool) :
    Meets (Builtin.«tuple.__lt__» ⟨[.ref p, .ref q], []⟩) (fun A R s =>
      s.heap.get? p = some { cls := .type "tuple", dict := d1, data := .seq xs n1, slots := z1 } ∧
      s.heap.get? q = some { cls := .type "tuple", dict := d2, data := .seq ys n2, slots := z2 } ∧
      (∀ j (a : j < xs.size) (b : j < ys.size), (∀ i < j, e i = true) → EqAt A.in1 s xs[j] ys[j] (e j)) ∧
      (∀ j (a : j < xs.size) (b : j < ys.size), (∀ i < j, e i = true) → e j = false → RcLt A.in1 s xs[j] ys[j] (r j)) ∧
      R (.ok (.ret (.bool (fstLt e r (decide (xs.size < ys.size)) (min xs.size ys.size))))) s) :=
  .of_wp fun prog w A R s h => by
    obtain ⟨h0, g, d, tk, os⟩ := s
    obtain ⟨hp, hq, he, hr, h⟩ := h
    have sub := AutoSeq1.sub_tuple_tuple
    have len : (xs.toList.zip ys.toList).length = min xs.size ys.size := by simp
    unfold fstLt at h
    wp_walk using wpAny_loadPart' hp, wpAny_loadPart' hq,
      wpAny_forIn_list _ (fun rest b s' => b.1 = none ∧ s' = ⟨h0, g, d, tk, os⟩ ∧ ∃ i, rest = (xs.toList.zip ys.toList).drop i ∧ (∀ k < i, e k = true) ∧
        R (.ok (.ret (.bool (firstLt e r (decide (xs.size < ys.size)) ((List.range (min xs.size ys.size)).drop i))))) ⟨h0, g, d, tk, os⟩) _
    case turn =>
      rintro ⟨y, x⟩ rest b s' ⟨eb, rfl, i, ez, ei, hR⟩
      have lt : i < (xs.toList.zip ys.toList).length := by
        refine Nat.lt_of_not_le fun z => ?_
        rw [List.drop_of_length_le z] at ez
        cases ez
      have lm : i < min xs.size ys.size := len ▸ lt
      have l1 : i < xs.size := by omega
      have l2 : i < ys.size := by omega
      rw [List.drop_eq_getElem_cons lt] at ez
      injection ez with e1 e2
      have ey : y = xs[i] := by simpa using congrArg Prod.fst e1
      have ex : x = ys[i] := by simpa using congrArg Prod.snd e1
      subst ey ex
      have er : (List.range (min xs.size ys.size)).drop i = i :: (List.range (min xs.size ys.size)).drop (i + 1) := by
        rw [List.drop_eq_getElem_cons (by simpa using lm)]
        simp
      rw [er] at hR
      have hq : e i = false → ∀ (E : Value → Shared → Prop) (Q : Value → Shared → Prop), Q (.bool (r i)) ⟨h0, g, d, tk, os⟩ → wpAny (model prog w) A.in1 (PySem.richCompare .Lt xs[i] ys[i]) Q E ⟨h0, g, d, tk, os⟩ := fun ee E Q z => hr i l1 l2 ei ee prog w E Q z
      have hb : ∀ (E : Value → Shared → Prop) (Q : Bool → Shared → Prop), Q (e i) ⟨h0, g, d, tk, os⟩ → wpAny (model prog w) A.in1 (PySem.eqBool xs[i] ys[i]) Q E ⟨h0, g, d, tk, os⟩ := fun E Q z => he i l1 l2 ei prog w E Q z
      refine wpAny_bind (hb _ _ ?_)
      cases ee : e i with
      | true =>
        rw [firstLt_yes ee] at hR
        wp_walk
        refine ⟨rfl, rfl, i + 1, e2, fun k hk => ?_, hR⟩
        by_cases z : k = i
        · exact z ▸ ee
        · exact ei k (by omega)
      | false =>
        rw [firstLt_no ee] at hR
        generalize PySem.richCompare .Lt xs[i] ys[i] = less at hq ⊢
        wp_walk
        refine hq ee _ _ ?_
        wp_walk
        exact ⟨_, rfl, hR⟩
    case fin =>
      rintro ⟨b1, b2⟩ s' ⟨eb, rfl, i, ez, ei, hR⟩
      simp only at eb
      subst eb
      have ge : min xs.size ys.size ≤ i := by
        refine Nat.le_of_not_lt fun z => ?_
        rw [List.drop_eq_getElem_cons (by rw [len]; exact z)] at ez
        cases ez
      rw [List.drop_of_length_le (by simpa using ge)] at hR
      wp_walk
      exact ⟨_, rfl, by simpa [Builtin.Tuple.tupleCompareSizes, firstLt] using hR⟩
    case h => exact ⟨rfl, rfl, 0, rfl, (fun k hk => absurd hk (Nat.not_lt_zero k)), by simpa using h⟩
theorem rcLt_first {A : Around} {s : Shared} {p q : Addr} {xs ys : Array Value} {e r : Nat → Bool} (hp : s.heap.IsTuple p xs) (hq : s.heap.IsTuple q ys) (hu : A.units < cLine)
    (he : ∀ j (a : j < xs.size) (b : j < ys.size), (∀ i < j, e i = true) → EqAt A.in1 s xs[j] ys[j] (e j)) (hr : ∀ j (a : j < xs.size) (b : j < ys.size), (∀ i < j, e i = true) → e j = false → RcLt A.in1 s xs[j] ys[j] (r j)) :
    RcLt A s (.ref p) (.ref q) (fstLt e r (decide (xs.size < ys.size)) (min xs.size ys.size)) := fun prog w E Q h => by
  obtain ⟨⟨c1, d1, t1, z1⟩, o1, k1, n1, m1⟩ := id hp
  obtain ⟨⟨c2, d2, t2, z2⟩, o2, k2, n2, m2⟩ := id hq
  simp only at k1 m1 k2 m2
  subst k1 m1 k2 m2
  exact richCompare_meets_room (op := .Lt) ⟨_, o1, rfl⟩ ⟨_, o2, rfl⟩ F.slot_tuple_lt F.entry_tuple_lt (F.args_tuple_lt_2 _ _) (ltFirst p q xs ys n1 n2 d1 d2 z1 z2 e r)
    ⟨o1, o2, he, hr, show Value.bool (fstLt e r (decide (xs.size < ys.size)) (min xs.size ys.size)) ≠ Value.notImplemented ∧ Q (.bool (fstLt e r (decide (xs.size < ys.size)) (min xs.size ys.size))) s from ⟨(fun z => nomatch z), h⟩⟩ hu
end
/-! the order of data, and where it may be asked -/
mutual
def ltD : PyData → PyData → Bool
  | .int a, .int b => decide (a < b)
  | .str a, .str b => decide (a.cps.toList < b.cps.toList)
  | .tuple xs, .tuple ys => ltDs xs ys
  | _, _ => false
def ltDs : List PyData → List PyData → Bool
  | [], [] => false
  | [], _ :: _ => true
  | _ :: _, [] => false
  | x :: xs, y :: ys => if PyData.eqv x y = true then ltDs xs ys else ltD x y
end
mutual
def okD : PyData → PyData → Bool
  | .int _, .int _ => true
  | .str _, .str _ => true
  | .tuple xs, .tuple ys => okDs xs ys
  | _, _ => false
def okDs : List PyData → List PyData → Bool
  | x :: xs, y :: ys => if PyData.eqv x y = true then okDs xs ys else okD x y
  | [], _ => true
  | _ :: _, [] => true
end
theorem fst_all (f : Nat → Nat → Bool) (e r e' r' : Nat → Bool) (fin : Bool) : ∀ l : List Nat, (∀ j, e (j + 1) = e' j) → (∀ j, r (j + 1) = r' j) → SeqAt.firstLt e r fin (l.map (· + 1)) = SeqAt.firstLt e' r' fin l
  | [], _, _ => rfl
  | j :: l, he, hr => by
    rw [List.map_cons]
    unfold SeqAt.firstLt
    rw [he, hr, fst_all f e r e' r' fin l he hr]
theorem fst_cons (e r : Nat → Bool) (fin : Bool) (n : Nat) : fstLt e r fin (n + 1) = if e 0 = true then fstLt (fun j => e (j + 1)) (fun j => r (j + 1)) fin n else r 0 := by
  unfold fstLt
  rw [List.range_succ_eq_map]
  show (if e 0 = true then SeqAt.firstLt e r fin ((List.range n).map Nat.succ) else r 0) = _
  rw [show (List.range n).map Nat.succ = (List.range n).map (· + 1) from rfl, fst_all (fun _ _ => true) e r (fun j => e (j + 1)) (fun j => r (j + 1)) fin _ (fun _ => rfl) (fun _ => rfl)]
/-- what the places of two lists say -/
def eqP (xs ys : List PyData) (j : Nat) : Bool := PyData.eqv (xs.getD j .none) (ys.getD j .none)
def ltP (xs ys : List PyData) (j : Nat) : Bool := ltD (xs.getD j .none) (ys.getD j .none)
theorem ltDs_first : ∀ xs ys : List PyData, ltDs xs ys = fstLt (eqP xs ys) (ltP xs ys) (decide (xs.length < ys.length)) (min xs.length ys.length)
  | [], [] => by unfold ltDs; rfl
  | [], y :: ys => by
    unfold ltDs
    rw [List.length_nil, Nat.zero_min]
    rfl
  | x :: xs, [] => by
    unfold ltDs
    rw [List.length_nil, Nat.min_zero]
    rfl
  | x :: xs, y :: ys => by
    unfold ltDs
    rw [List.length_cons, List.length_cons, Nat.succ_min_succ, fst_cons, ltDs_first xs ys]
    have e : decide (xs.length + 1 < ys.length + 1) = decide (xs.length < ys.length) := by
      rw [decide_eq_decide]
      omega
    rw [e]
    rfl
theorem okDs_at : ∀ (xs ys : List PyData) (j : Nat), okDs xs ys = true → j < xs.length → j < ys.length → (∀ i < j, eqP xs ys i = true) → eqP xs ys j = false → okD (xs.getD j .none) (ys.getD j .none) = true
  | [], _, j, _, h, _, _, _ => absurd h (Nat.not_lt_zero _)
  | _ :: _, [], j, _, _, h, _, _ => absurd h (Nat.not_lt_zero _)
  | x :: xs, y :: ys, 0, h, _, _, _, e => by
    have e' : PyData.eqv x y = false := e
    unfold okDs at h
    rw [e', if_neg Bool.false_ne_true] at h
    exact h
  | x :: xs, y :: ys, j + 1, h, h1, h2, ei, e => by
    have e0 : PyData.eqv x y = true := ei 0 (Nat.succ_pos j)
    unfold okDs at h
    rw [if_pos e0] at h
    exact okDs_at xs ys j h (Nat.lt_of_succ_lt_succ h1) (Nat.lt_of_succ_lt_succ h2) (fun i hi => ei (i + 1) (Nat.succ_lt_succ hi)) e
theorem pairEq_eqP : ∀ (xs ys : List PyData) (j : Nat), SeqAt.pairEq xs ys j = eqP xs ys j := fun xs ys j => rfl
section
open PySem.SeqAt
mutual
theorem rcLt_D : ∀ (x y : PyData) (A : Around) (s : Shared) (u v : Value) (as bs : List Addr), Reads s.heap u x as → Reads s.heap v y bs → x.canLay0 = true → y.canLay0 = true → okD x y = true → A.units + min x.depth y.depth < cLine → RcLt A s u v (ltD x y)
  | .none, _, _, _, _, _, _, _, _, _, _, _, h, _ => by unfold okD at h; cases h
  | .bool _, _, _, _, _, _, _, _, _, _, _, _, h, _ => by unfold okD at h; cases h
  | .list _, _, _, _, _, _, _, _, _, _, _, _, h, _ => by unfold okD at h; cases h
  | .dict _, _, _, _, _, _, _, _, _, _, _, _, h, _ => by unfold okD at h; cases h
  | .int a, y, A, s, u, v, as, bs, ra, rb, _, _, h, _ => by
    cases y with
    | int b =>
      cases ra
      cases rb
      intro prog w E Q hq
      exact P.lt_int (by unfold ltD at hq; exact hq)
    | _ => unfold okD at h; cases h
  | .str a, y, A, s, u, v, as, bs, ra, rb, _, _, h, _ => by
    cases y with
    | str b =>
      cases ra
      cases rb
      intro prog w E Q hq
      exact P.lt_str (by unfold ltD at hq; exact hq)
    | _ => unfold okD at h; cases h
  | .tuple xs, y, A, s, u, v, as, bs, ra, rb, ca, cb, h, hu => by
    cases y with
    | tuple ys =>
      have ho : okDs xs ys = true := by unfold okD at h; exact h
      have c1 : PyData.canLayAll0 xs = true := by simpa [PyData.canLay0] using ca
      have c2 : PyData.canLayAll0 ys = true := by simpa [PyData.canLay0] using cb
      cases ra with
      | @tuple p o vs n _ as1 a1 a2 a3 a4 =>
        cases rb with
        | @tuple q o' ws n' _ bs1 b1 b2 b3 b4 =>
          have l1 : vs.size = xs.length := by simpa using ReadsAll.length _ _ _ a4
          have l2 : ws.size = ys.length := by simpa using ReadsAll.length _ _ _ b4
          have e : ltD (.tuple xs) (.tuple ys) = ltDs xs ys := by unfold ltD; rfl
          rw [e, ltDs_first, ← l1, ← l2]
          refine rcLt_first ⟨_, a1, a2, _, a3⟩ ⟨_, b1, b2, _, b3⟩ (room_here hu) (fun j j1 j2 _ => ?_) (fun j j1 j2 hi hj => ?_)
          · have z : EqAt A.in1 s (vs.toList[j]'(by simpa using j1)) (ws.toList[j]'(by simpa using j2)) (eqP xs ys j) := eqAt_readsAll xs ys A.in1 s vs.toList ws.toList _ _ a4 b4 c1 c2 (room_in hu) j (by simpa using j1) (by simpa using j2)
            simpa using z
          · have := rcLt_Ds xs ys A.in1 s vs.toList ws.toList _ _ a4 b4 c1 c2 (room_in hu) j (by simpa using j1) (by simpa using j2) (okDs_at xs ys j ho (by omega) (by omega) hi hj)
            simpa using this
    | _ => unfold okD at h; cases h
theorem rcLt_Ds : ∀ (xs ys : List PyData) (A : Around) (s : Shared) (vs ws : List Value) (as bs : List Addr), ReadsAll s.heap vs xs as → ReadsAll s.heap ws ys bs → PyData.canLayAll0 xs = true → PyData.canLayAll0 ys = true →
    A.units + min (PyData.depthAll xs) (PyData.depthAll ys) < cLine → ∀ j (a : j < vs.length) (b : j < ws.length), okD (xs.getD j .none) (ys.getD j .none) = true → RcLt A s vs[j] ws[j] (ltP xs ys j)
  | [], _, _, _, _, _, _, _, ra, _, _, _, _, j, h, _, _ => by cases ra; exact absurd h (Nat.not_lt_zero _)
  | _ :: _, [], _, _, _, _, _, _, _, rb, _, _, _, j, _, h, _ => by cases rb; exact absurd h (Nat.not_lt_zero _)
  | x :: xs, y :: ys, A, s, _, _, _, _, ra, rb, ca, cb, hu, j, h1, h2, hk => by
    have c1 : x.canLay0 = true ∧ PyData.canLayAll0 xs = true := by simpa [PyData.canLayAll0] using ca
    have c2 : y.canLay0 = true ∧ PyData.canLayAll0 ys = true := by simpa [PyData.canLayAll0] using cb
    cases ra with
    | cons r rs =>
      cases rb with
      | cons r' rs' =>
        cases j with
        | zero => exact rcLt_D x y A s _ _ _ _ r r' c1.1 c2.1 hk (room_head hu)
        | succ j => exact rcLt_Ds xs ys A s _ _ _ _ rs rs' c1.2 c2.2 (room_tail hu) j (Nat.lt_of_succ_lt_succ h1) (Nat.lt_of_succ_lt_succ h2) hk
end
end
def rLtD (K : PySem.W.Frag) : R2 := fun x y H Q => ∃ d e, Dp K H x d ∧ Dp K H y e ∧ SeqAt.shaped d = true ∧ SeqAt.shaped e = true ∧ okD d e = true ∧ Q (.bl (ltD d e)) H
theorem ltDK {X : Cx} (K : PySem.W.Frag) (hu : X.A.units + 64 < cLine) (h : X.K = K := by rfl) : OpR X (compareOp .Lt) (rLtD K) := by
  subst h
  intro pins s σ H x y v u Q I rx ry h
  obtain ⟨d, e, hd, he, sd, se, ho, q⟩ := h
  obtain ⟨as, r1⟩ := Dp.reads I d x v hd rx
  obtain ⟨bs, r2⟩ := Dp.reads I e y u he ry
  have go := rcLt_D d e X.A s v u as bs r1 r2 (SeqAt.canLay_of_shaped sd) (SeqAt.canLay_of_shaped se) ho (SeqAt.room_of_shaped sd hu)
  exact go X.prog X.w X.xe _ ⟨.bl _, H, I, rfl, q⟩

/-! ### the values -/
inductive Vl where
  | n
  | i (k : Int)
  | s (l : List Nat)
def Vl.v : Vl → V
  | .n => .non
  | .i k => .int k
  | .s l => .str ⟨l.toArray⟩
/-- the key of a value -/
def Vl.d : Vl → PyData
  | .n => .tuple [.int 0]
  | .i k => .tuple [.int 1, .int k]
  | .s l => .tuple [.int 2, .str ⟨l.toArray⟩]
def abz (l : List Nat) : Prop := l.length ≤ 3 ∧ ∀ c ∈ l, c = 97 ∨ c = 98 ∨ c = 122
def Vl.ok : Vl → Prop
  | .s l => abz l
  | _ => True
def bf : Vl → Vl → Bool
  | .n, .n => false
  | .n, _ => true
  | _, .n => false
  | .i a, .i b => decide (a < b)
  | .i _, .s _ => true
  | .s _, .i _ => false
  | .s l, .s m => decide (l < m)
def eqb (v w : Vl) : Bool := !bf v w && !bf w v
def sp_key (K : PySem.W.Frag) : Sp := fun vs H Q _ => ∃ v : Vl, vs = [v.v] ∧ ∀ H' p, Same H H' → Dp K H' (.ref p) v.d → Q (.ref p) H'
def sp_rkey (K : PySem.W.Frag) : Sp := fun vs H Q _ => ∃ (a : Addr) (row : List Vl), vs = [.ref a] ∧ SqT K H a (row.map Vl.v) ∧ row.length ≤ 1000 ∧ ∀ H' p, Same H H' → Dp K H' (.ref p) (.tuple (row.map Vl.d)) → Q (.ref p) H'
section
variable {P : Program} {w : World} {K : PySem.W.Frag} {mg : Str → Option Value} {base : Heap}
theorem ok_key {f : Addr} {fd : FuncData} (F : Fun K "value_key" "value_key" s_value_key f fd) (M : Mg mg) : FnOk P w K mg base CX0 1 f fd ["value"] (sp_key K) := by
  refine F.ok sc_value_key (fun vs H Q E h => ?_) (fun cdv A outer s H vs Q E hr h => ?_)
  · obtain ⟨v, rfl, _⟩ := h
    rfl
  · obtain ⟨v, rfl, q⟩ := h
    refine ⟨_, (pss_cons (ps_if (pt_cmpR op_isN (pv 0) pe_non (nomark _)) (pss_one (ps_ret (pe_tup (pa_cons pe_int pa_nil)))) pss_nil)
      (pss_cons (ps_if (pt_val (pe_callB (isiK K) (by rfl) M.isinstance (by decide +kernel) (pa_cons (pv 0) (pa_cons (pe_bltn (v := .ty "int") (by rfl) M.int (by decide +kernel) rfl) pa_nil)))) (pss_one (ps_ret (pe_tup (pa_cons pe_int (pa_cons (pv 0) pa_nil))))) pss_nil)
      (pss_one (ps_ret (pe_tup (pa_cons pe_int (pa_cons (pv 0) pa_nil))))))), ?_⟩
    cases v with
    | n =>
      refine ⟨_, rfl, rfl, _, rfl, iteT ?_⟩
      exact ⟨by show 1 ≤ sizeLine; decide, fun p np => q _ p (same_upd np) (.tup (.of upd_same) (.cons (.int _) .nil))⟩
    | i k =>
      refine ⟨_, rfl, rfl, _, rfl, iteF ?_⟩
      refine ⟨_, rfl, _, _, _, _, _, rfl, .ty _, TyX.base (TyOf.int k), kit_ty (show kitB _ _ = some true by decide +kernel), _, rfl, iteT ?_⟩
      exact ⟨_, rfl, by show 2 ≤ sizeLine; decide, fun p np => q _ p (same_upd np) (.tup (.of upd_same) (.cons (.int _) (.cons (.int _) .nil)))⟩
    | s l =>
      refine ⟨_, rfl, rfl, _, rfl, iteF ?_⟩
      refine ⟨_, rfl, _, _, _, _, _, rfl, .ty _, TyX.base (TyOf.str _), kit_ty (show kitB _ _ = some false by decide +kernel), _, rfl, iteF ?_⟩
      exact ⟨_, rfl, by show 2 ≤ sizeLine; decide, fun p np => q _ p (same_upd np) (.tup (.of upd_same) (.cons (.int _) (.cons (.str _) .nil)))⟩
theorem keys_only : ∀ row : List Vl, tupOnlys (row.map Vl.d) = true
  | [] => rfl
  | v :: row => by
    rw [List.map_cons]
    unfold tupOnlys
    rw [keys_only row, Bool.and_true]
    cases v <;> rfl
theorem ok_rkey {f : Addr} {fd : FuncData} (F : Fun K "row_key" "row_key" s_row_key f fd) (M : Mg mg) (c_value_key : Cl P w K mg base 1 "value_key" (sp_key K)) : FnOk P w K mg base CX0 2 f fd ["row"] (sp_rkey K) := by
  refine F.ok sc_row_key (fun vs H Q E h => ?_) (fun cdv A outer s H vs Q E hr h => ?_)
  · obtain ⟨a, row, rfl, _⟩ := h
    rfl
  · obtain ⟨a, row, rfl, hS, hl, q⟩ := h
    refine ⟨_, (pss_one (ps_ret (pe_callTy (tupleK K) (by rfl) M.tuple (by decide +kernel) (pa_cons (pe_lc (own := [("value", 1)]) (g := gName 1) (tt := tYes) rfl sc_row_key.nd (pi_tup (pv 0)) (blkOk_by (N := N_row_key) (sc := defScope s_row_key) (by decide +kernel)) (fun _ _ _ _ _ => (pg_name (i := 1) sc_row_key.nd rfl (.inl rfl))) (fun _ _ _ _ _ => pts_nil) (fun _ _ _ _ _ => (pe_u c_value_key hr (by first | decide | omega) (by rfl) (pa_cons (pv 1) pa_nil)))) pa_nil)))), ?_⟩
    refine ⟨_, rfl, a, rfl, ⟨_, hS⟩, fun D nD => ?_⟩
    refine lc_tup (K := K) (a := a) (xs := row.map Vl.v) (fun i Hi => Same H Hi ∧ ∃ xs, Hi D = some (.lst xs) ∧ DpAll K Hi xs ((row.take i).map Vl.d)) ⟨same_upd nD, [], upd_same, .nil⟩ (fun i Hi _ hp => SqT.ext hp.1 hS) (fun i x Hi hx hp => ?_) (fun Hn hp => ?_)
    · obtain ⟨si, xs, eD, da⟩ := hp
      rw [List.getElem?_map] at hx
      obtain ⟨v, hv, rfl⟩ := Option.map_eq_some_iff.mp hx
      have hi : i < row.length := (List.getElem?_eq_some_iff.mp hv).1
      refine ⟨rfl, ?_⟩
      refine ⟨_, rfl, v, rfl, fun H' p s' dp => ?_⟩
      have eD' := s' _ _ eD
      have hxs : xs.length = i := by
        rw [DpAll.len da, List.length_map, List.length_take]
        omega
      refine ⟨xs, eD', by rw [hxs]; exact Nat.lt_of_lt_of_le (m := 1001) (by omega) (by decide), fun b o e => ?_, xs ++ [.ref p], upd_same, ?_⟩
      · have nb : b ≠ D := ne_of_none e nD
        rw [upd_ne nb]
        exact s' _ _ (si _ _ e)
      · rw [List.take_add_one, hv, List.map_append]
        exact DpAll.snoc (DpAll.away eD' _ _ (keys_only _) (DpAll.ext s' _ _ da)) (Dp.away eD' _ _ (by cases v <;> rfl) dp)
    · obtain ⟨sn, xs, eD, da⟩ := hp
      have er : row.take (row.map Vl.v).length = row := List.take_of_length_le (by rw [List.length_map]; exact Nat.le_refl _)
      rw [er] at da
      refine ⟨D, xs, rfl, .inl ⟨.of eD, fun T nT => ?_⟩⟩
      exact q _ T (sn.trans (same_upd nT)) (.tup (.of upd_same) (DpAll.ext (same_upd nT) _ _ da))
end
/-! ### the law's own defs -/
def sp_value : Sp := fun vs H Q _ => ∃ (d c : Addr), vs = [.ref d] ∧ Dr H d c ∧ ∀ H' (v : Vl), Fd d H H' → Dr H' d c → v.ok → Q v.v H'
def sp_tb : Sp := fun vs H Q _ => ∃ (l m : List Nat), vs = [.str ⟨l.toArray⟩, .str ⟨m.toArray⟩] ∧ abz l ∧ abz m ∧ Q (.bl (decide (l < m))) H
def sp_bf : Sp := fun vs H Q _ => ∃ (v w : Vl), vs = [v.v, w.v] ∧ v.ok ∧ w.ok ∧ Q (.bl (bf v w)) H
def sp_eq : Sp := fun vs H Q _ => ∃ (v w : Vl), vs = [v.v, w.v] ∧ v.ok ∧ w.ok ∧ Q (.bl (eqb v w)) H
theorem lt_at : ∀ (l m : List Nat) (i : Nat) (a b : Nat), (∀ j < i, l[j]? = m[j]?) → l[i]? = some a → m[i]? = some b → a ≠ b → (l < m ↔ a < b)
  | [], _, _, _, _, _, h, _, _ => by simp at h
  | _ :: _, [], _, _, _, _, _, h, _ => by simp at h
  | x :: l, y :: m, 0, a, b, _, h1, h2, hn => by
    have e1 : x = a := Option.some.inj h1
    have e2 : y = b := Option.some.inj h2
    subst e1 e2
    rw [List.cons_lt_cons_iff]
    exact ⟨fun h => h.elim id (fun z => absurd z.1 hn), .inl⟩
  | x :: l, y :: m, i + 1, a, b, hj, h1, h2, hn => by
    have e0 : x = y := Option.some.inj (hj 0 (Nat.succ_pos i))
    subst e0
    rw [List.cons_lt_cons_iff, ← lt_at l m i a b (fun j h => by simpa using hj (j + 1) (by omega)) (by simpa using h1) (by simpa using h2) hn]
    exact ⟨fun h => h.elim (fun z => absurd z (Nat.lt_irrefl x)) (·.2), fun h => .inr ⟨rfl, h⟩⟩
theorem lt_end : ∀ (l m : List Nat), (∀ j < min l.length m.length, l[j]? = m[j]?) → (l < m ↔ l.length < m.length)
  | [], [], _ => by simp
  | [], _ :: _, _ => by simp
  | _ :: _, [], _ => by simp
  | x :: l, y :: m, hj => by
    have e0 : x = y := Option.some.inj (hj 0 (by simp))
    subst e0
    rw [List.cons_lt_cons_iff, List.length_cons, List.length_cons, Nat.add_lt_add_iff_right, ← lt_end l m (fun j h => by simpa using hj (j + 1) (by simp; omega))]
    exact ⟨fun h => h.elim (fun z => absurd z (Nat.lt_irrefl x)) (·.2), fun h => .inr ⟨rfl, h⟩⟩
theorem sum_one : ∀ l : List Nat, ((l.map fun x => (⟨#[x]⟩ : Str)).map (·.length)).sum = l.length
  | [] => rfl
  | x :: l => by
    rw [List.map_cons, List.map_cons, List.sum_cons, sum_one l, List.length_cons]
    show 1 + l.length = _
    omega
theorem flat_one : ∀ l : List Nat, ((l.map fun x => (⟨#[x]⟩ : Str)).map TL.tl).flatten = l
  | [] => rfl
  | x :: l => by
    rw [List.map_cons, List.map_cons, List.flatten_cons, flat_one l]
    rfl
/-- the place of a letter in abz -/
theorem abz_at {c : Nat} (h : c = 97 ∨ c = 98 ∨ c = 122) : ∃ (i : Nat) (r : List Nat), Builtin.Str.occurrences (Str.ofString "abz") ⟨#[c]⟩ 0 (Str.ofString "abz").length 1 = i :: r ∧ i = (if c = 97 then 0 else if c = 98 then 1 else 2) := by
  rcases h with rfl | rfl | rfl
  · exact ⟨0, [], by decide +kernel, by decide⟩
  · exact ⟨1, [], by decide +kernel, by decide⟩
  · exact ⟨2, [], by decide +kernel, by decide⟩
section
variable {P : Program} {w : World} {K : PySem.W.Frag} {mg : Str → Option Value} {base : Heap}
theorem ok_tb {f : Addr} {fd : FuncData} (F : Fun K "_law_text_before" "_law_text_before" s__law_text_before f fd) (M : Mg mg) : FnOk P w K mg base CX0 1 f fd ["first", "second"] sp_tb := by
  refine F.ok sc__law_text_before (fun vs H Q E h => ?_) (fun cdv A outer s H vs Q E hr h => ?_)
  · obtain ⟨l, m, rfl, _⟩ := h
    rfl
  · obtain ⟨l, m, rfl, hl, hm, q⟩ := h
    have z1 : l.length ≤ sizeLine := Nat.le_trans hl.1 (by decide)
    have z2 : m.length ≤ sizeLine := Nat.le_trans hm.1 (by decide)
    have hl1 := hl.1
    have hm1 := hm.1
    refine ⟨_, (pss_cons (ps_for PassesOwn.never rfl (pi_range1 (by rfl) M.range (pa_cons (pe_callB (call_min2 rfl) (by rfl) M.min (by decide +kernel) (pa_cons (pe_callB call_len_str (by rfl) M.len PySem.boot_len (pa_cons (pv 0) pa_nil)) (pa_cons (pe_callB call_len_str (by rfl) M.len PySem.boot_len (pa_cons (pv 1) pa_nil)) pa_nil))) pa_nil)) (pg_name (i := 2) sc__law_text_before.nd rfl (.inl rfl)) (pss_one (ps_if (pt_cmpR op_ne (pe_ix ix_str (pv 0) (pv 2) (fun _ _ => rfl)) (pe_ix ix_str (pv 1) (pv 2) (fun _ _ => rfl)) (nomark _)) (pss_one (ps_ret (pe_cmpR op_lt (pe_bm PySem.F.plainAttrs_str PySem.F.slot_str_index PySem.F.type_str_index mt_sindex pe_str (pa_cons (pe_ix ix_str (pv 0) (pv 2) (fun _ _ => rfl)) pa_nil)) (pe_bm PySem.F.plainAttrs_str PySem.F.slot_str_index PySem.F.type_str_index mt_sindex pe_str (pa_cons (pe_ix ix_str (pv 1) (pv 2) (fun _ _ => rfl)) pa_nil)) (nomark _)))) pss_nil)))
      (pss_one (ps_ret (pe_cmpR op_lt (pe_callB call_len_str (by rfl) M.len PySem.boot_len (pa_cons (pv 0) pa_nil)) (pe_callB call_len_str (by rfl) M.len PySem.boot_len (pa_cons (pv 1) pa_nil)) (nomark _))))), ?_⟩
    refine ⟨_, rfl, _, rfl, by rw [S_len']; exact z1, _, rfl, _, rfl, by rw [S_len']; exact z2, _, _, rfl, ?_⟩
    rw [S_len', S_len']
    have em : (if ((m.length : Nat) : Int) < ((l.length : Nat) : Int) then ((m.length : Nat) : Int) else ((l.length : Nat) : Int)) = ((min l.length m.length : Nat) : Int) := by split <;> omega
    rw [em]
    refine ⟨_, rfl, by omega, by omega, ?_⟩
    refine for_range (lo := 0) (n := ((min l.length m.length : Nat) : Int).toNat) (fun i σ Hi => Hi = H ∧ (∃ z, σ = [some (.str ⟨l.toArray⟩), some (.str ⟨m.toArray⟩), z]) ∧ ∀ j < i, l[j]? = m[j]?) ⟨rfl, ⟨none, rfl⟩, fun j h => absurd h (Nat.not_lt_zero j)⟩ (fun i σ Hi hi hp => ?_) (fun σ Hn hp => ?_)
    · obtain ⟨rfl, ⟨z, rfl⟩, hj⟩ := hp
      have h1 : i < l.length := by omega
      have h2 : i < m.length := by omega
      have a1 : atI (⟨l.toArray⟩ : Str).cps.toList (0 + (i : Int)) = some l[i] := at_0 (show l[i]? = _ from List.getElem?_eq_getElem h1)
      have a2 : atI (⟨m.toArray⟩ : Str).cps.toList (0 + (i : Int)) = some m[i] := at_0 (show m[i]? = _ from List.getElem?_eq_getElem h2)
      refine ⟨_, rfl, _, rfl, _, _, _, rfl, rfl, by rw [S_len']; exact z1, a1, ?_⟩
      refine ⟨_, rfl, _, rfl, _, _, _, rfl, rfl, by rw [S_len']; exact z2, a2, ?_⟩
      refine ⟨rfl, _, rfl, ?_⟩
      rw [str1]
      by_cases e : l[i] = m[i]
      · rw [decide_eq_true e]
        refine iteF ?_
        refine ⟨rfl, ⟨_, rfl⟩, fun j hj' => ?_⟩
        by_cases ej : j = i
        · subst ej
          rw [List.getElem?_eq_getElem h1, List.getElem?_eq_getElem h2, e]
        · exact hj j (by omega)
      · rw [decide_eq_false e]
        refine iteT ?_
        obtain ⟨k1, r1, o1, i1⟩ := abz_at (hl.2 _ (List.getElem_mem h1))
        obtain ⟨k2, r2, o2, i2⟩ := abz_at (hm.2 _ (List.getElem_mem h2))
        refine ⟨rfl, _, rfl, _, rfl, _, _, _, rfl, rfl, by rw [S_len']; exact z1, a1, _, _, k1, r1, rfl, rfl, o1, ?_⟩
        refine ⟨rfl, _, rfl, _, rfl, _, _, _, rfl, rfl, by rw [S_len']; exact z2, a2, _, _, k2, r2, rfl, rfl, o2, ?_⟩
        refine ⟨_, _, rfl, rfl, ?_⟩
        have key : decide (((k1 : Nat) : Int) < ((k2 : Nat) : Int)) = decide (l < m) := by
          rw [decide_eq_decide, lt_at l m i l[i] m[i] hj (List.getElem?_eq_getElem h1) (List.getElem?_eq_getElem h2) e]
          have c1 := hl.2 _ (List.getElem_mem h1)
          have c2 := hm.2 _ (List.getElem_mem h2)
          generalize l[i] = x at *
          generalize m[i] = y at *
          rcases c1 with rfl | rfl | rfl <;> rcases c2 with rfl | rfl | rfl <;> simp at i1 i2 <;> omega
        dsimp only
        rw [key]
        exact q
    · obtain ⟨rfl, ⟨z, rfl⟩, hj⟩ := hp
      refine ⟨_, rfl, _, rfl, by rw [S_len']; exact z1, _, rfl, _, rfl, by rw [S_len']; exact z2, _, _, rfl, rfl, ?_⟩
      have key : decide ((((⟨l.toArray⟩ : Str).length : Nat) : Int) < (((⟨m.toArray⟩ : Str).length : Nat) : Int)) = decide (l < m) := by
        rw [S_len', S_len', decide_eq_decide, lt_end l m (fun j h => hj j (by omega))]
        omega
      dsimp only
      rw [key]
      exact q
theorem ok_bf {f : Addr} {fd : FuncData} (F : Fun K "_law_before" "_law_before" s__law_before f fd) (M : Mg mg) (c__law_text_before : Cl P w K mg base 1 "_law_text_before" sp_tb) : FnOk P w K mg base CX0 2 f fd ["first", "second"] sp_bf := by
  refine F.ok sc__law_before (fun vs H Q E h => ?_) (fun cdv A outer s H vs Q E hr h => ?_)
  · obtain ⟨v, w, rfl, _⟩ := h
    rfl
  · obtain ⟨v, w, rfl, hv, hw, q⟩ := h
    refine ⟨_, (pss_cons (ps_if (PW.pt (pw_or (pt_cmpR op_isN (pv 0) pe_non (nomark _)) (pw_or1 (pt_cmpR op_isN (pv 1) pe_non (nomark _))))) (pss_one (ps_ret (pe_and (pe_cmpR op_isN (pv 0) pe_non (nomark _)) (pe_one (pe_cmpR op_notN (pv 1) pe_non (nomark _)))))) pss_nil)
      (pss_cons (ps_if (pt_cmpR op_ne (pe_callB (isiK K) (by rfl) M.isinstance (by decide +kernel) (pa_cons (pv 0) (pa_cons (pe_bltn (v := .ty "str") (by rfl) M.str (by decide +kernel) rfl) pa_nil))) (pe_callB (isiK K) (by rfl) M.isinstance (by decide +kernel) (pa_cons (pv 1) (pa_cons (pe_bltn (v := .ty "str") (by rfl) M.str (by decide +kernel) rfl) pa_nil))) (nomark _)) (pss_one (ps_ret (pe_callB (isiK K) (by rfl) M.isinstance (by decide +kernel) (pa_cons (pv 1) (pa_cons (pe_bltn (v := .ty "str") (by rfl) M.str (by decide +kernel) rfl) pa_nil))))) pss_nil)
      (pss_one (ps_ret (pe_ifExp (pt_val (pe_callB (isiK K) (by rfl) M.isinstance (by decide +kernel) (pa_cons (pv 0) (pa_cons (pe_bltn (v := .ty "str") (by rfl) M.str (by decide +kernel) rfl) pa_nil)))) (pe_u c__law_text_before hr (by first | decide | omega) (by rfl) (pa_cons (pv 0) (pa_cons (pv 1) pa_nil))) (pe_cmpR op_lt (pv 0) (pv 1) (nomark _))))))), ?_⟩
    cases v with
    | n =>
      refine ⟨_, rfl, rfl, _, rfl, iteT (iteT ?_)⟩
      refine ⟨_, rfl, rfl, _, rfl, iteT ?_⟩
      refine ⟨_, rfl, rfl, ?_⟩
      cases w <;> exact q
    | i a =>
      refine ⟨_, rfl, rfl, _, rfl, iteF ?_⟩
      cases w with
      | n =>
        refine ⟨_, rfl, rfl, _, rfl, iteT ?_⟩
        exact ⟨_, rfl, rfl, _, rfl, iteF q⟩
      | i b =>
        refine ⟨_, rfl, rfl, _, rfl, iteF ?_⟩
        refine ⟨_, rfl, ⟨_, _, _, _, _, rfl, .ty _, TyX.base (TyOf.int a), kit_ty (show kitB _ _ = some false by decide +kernel), _, rfl, ⟨_, _, _, _, _, rfl, .ty _, TyX.base (TyOf.int b), kit_ty (show kitB _ _ = some false by decide +kernel), rfl, _, rfl, iteF ?_⟩⟩⟩
        refine ⟨_, rfl, ⟨_, _, _, _, _, rfl, .ty _, TyX.base (TyOf.int a), kit_ty (show kitB _ _ = some false by decide +kernel), _, rfl, iteF ?_⟩⟩
        exact ⟨_, rfl, _, rfl, _, _, rfl, rfl, q⟩
      | s m =>
        refine ⟨_, rfl, rfl, _, rfl, iteF ?_⟩
        refine ⟨_, rfl, ⟨_, _, _, _, _, rfl, .ty _, TyX.base (TyOf.int a), kit_ty (show kitB _ _ = some false by decide +kernel), _, rfl, ⟨_, _, _, _, _, rfl, .ty _, TyX.base (TyOf.str _), kit_ty (show kitB _ _ = some true by decide +kernel), rfl, _, rfl, iteT ?_⟩⟩⟩
        exact ⟨_, rfl, ⟨_, _, _, _, _, rfl, .ty _, TyX.base (TyOf.str _), kit_ty (show kitB _ _ = some true by decide +kernel), q⟩⟩
    | s l =>
      refine ⟨_, rfl, rfl, _, rfl, iteF ?_⟩
      cases w with
      | n =>
        refine ⟨_, rfl, rfl, _, rfl, iteT ?_⟩
        exact ⟨_, rfl, rfl, _, rfl, iteF q⟩
      | i b =>
        refine ⟨_, rfl, rfl, _, rfl, iteF ?_⟩
        refine ⟨_, rfl, ⟨_, _, _, _, _, rfl, .ty _, TyX.base (TyOf.str _), kit_ty (show kitB _ _ = some true by decide +kernel), _, rfl, ⟨_, _, _, _, _, rfl, .ty _, TyX.base (TyOf.int b), kit_ty (show kitB _ _ = some false by decide +kernel), rfl, _, rfl, iteT ?_⟩⟩⟩
        exact ⟨_, rfl, ⟨_, _, _, _, _, rfl, .ty _, TyX.base (TyOf.int b), kit_ty (show kitB _ _ = some false by decide +kernel), q⟩⟩
      | s m =>
        refine ⟨_, rfl, rfl, _, rfl, iteF ?_⟩
        refine ⟨_, rfl, ⟨_, _, _, _, _, rfl, .ty _, TyX.base (TyOf.str _), kit_ty (show kitB _ _ = some true by decide +kernel), _, rfl, ⟨_, _, _, _, _, rfl, .ty _, TyX.base (TyOf.str _), kit_ty (show kitB _ _ = some true by decide +kernel), rfl, _, rfl, iteF ?_⟩⟩⟩
        refine ⟨_, rfl, ⟨_, _, _, _, _, rfl, .ty _, TyX.base (TyOf.str _), kit_ty (show kitB _ _ = some true by decide +kernel), _, rfl, iteT ?_⟩⟩
        exact ⟨_, rfl, _, rfl, l, m, rfl, hv, hw, q⟩
theorem ok_eq {f : Addr} {fd : FuncData} (F : Fun K "_law_equal" "_law_equal" s__law_equal f fd) (c__law_before : Cl P w K mg base 2 "_law_before" sp_bf) : FnOk P w K mg base CX0 3 f fd ["first", "second"] sp_eq := by
  refine F.ok sc__law_equal (fun vs H Q E h => ?_) (fun cdv A outer s H vs Q E hr h => ?_)
  · obtain ⟨v, w, rfl, _⟩ := h
    rfl
  · obtain ⟨v, w, rfl, hv, hw, q⟩ := h
    refine ⟨_, (pss_one (ps_ret (pe_and (pe_not (pe_u c__law_before hr (by first | decide | omega) (by rfl) (pa_cons (pv 0) (pa_cons (pv 1) pa_nil)))) (pe_one (pe_not (pe_u c__law_before hr (by first | decide | omega) (by rfl) (pa_cons (pv 1) (pa_cons (pv 0) pa_nil)))))))), ?_⟩
    refine ⟨_, rfl, _, rfl, v, w, rfl, hv, hw, _, rfl, _, rfl, ?_⟩
    unfold eqb at q
    cases e : bf v w with
    | true =>
      rw [e] at q
      exact iteF q
    | false =>
      rw [e] at q
      refine iteT ?_
      refine ⟨_, rfl, _, rfl, w, v, rfl, hw, hv, _, rfl, ?_⟩
      exact q
theorem ok_value {f : Addr} {fd : FuncData} (F : Fun K "_law_value" "_law_value" s__law_value f fd) (M : Mg mg) (c__law_next : Cl P w K mg base 1 "_law_next" sp_next) : FnOk P w K mg base CX0 2 f fd ["draw"] sp_value := by
  refine F.ok sc__law_value (fun vs H Q E h => ?_) (fun cdv A outer s H vs Q E hr h => ?_)
  · obtain ⟨d, c, rfl, _⟩ := h
    rfl
  · obtain ⟨d, c, rfl, dr, q⟩ := h
    refine ⟨_, (pss_cons (ps_set (i := 1) sc__law_value.nd rfl (.inl rfl) (pe_u c__law_next hr (by first | decide | omega) (by rfl) (pa_cons (pv 0) (pa_cons pe_int pa_nil))))
      (pss_cons (ps_if (pt_cmpR op_eq (pv 1) pe_int (nomark _)) (pss_one (ps_ret pe_non)) pss_nil)
      (pss_cons (ps_if (pt_cmpR op_lt (pv 1) pe_int (nomark _)) (pss_one (ps_ret (pe_op op_sub (pe_u c__law_next hr (by first | decide | omega) (by rfl) (pa_cons (pv 0) (pa_cons pe_int pa_nil))) pe_int))) pss_nil)
      (pss_cons (ps_if (pt_cmpR op_eq (pv 1) pe_int (nomark _)) (pss_one (ps_ret (pe_op op_mul (pe_op op_sub (pe_op op_pow pe_int pe_int) (pe_u c__law_next hr (by first | decide | omega) (by rfl) (pa_cons (pv 0) (pa_cons pe_int pa_nil)))) (pe_op op_sub pe_int (pe_op op_mul pe_int (pe_u c__law_next hr (by first | decide | omega) (by rfl) (pa_cons (pv 0) (pa_cons pe_int pa_nil)))))))) pss_nil)
      (pss_one (ps_ret (pe_join pe_str (pe_lc (own := [("k", 2)]) (g := gName 2) (tt := tYes) rfl sc__law_value.nd (pi_range1 (by rfl) M.range (pa_cons (pe_u c__law_next hr (by first | decide | omega) (by rfl) (pa_cons (pv 0) (pa_cons pe_int pa_nil))) pa_nil)) (blkOk_by (N := N__law_value) (sc := defScope s__law_value) (by decide +kernel)) (fun _ _ _ _ _ => (pg_name (i := 2) sc__law_value.nd rfl (.inl rfl))) (fun _ _ _ _ _ => pts_nil) (fun _ _ _ _ _ => (pe_ix ix_str pe_str (pe_u c__law_next hr (by first | decide | omega) (by rfl) (pa_cons (pv 0) (pa_cons pe_int pa_nil))) (fun _ _ => rfl))))))))))), ?_⟩
    refine ⟨_, rfl, d, c, 6, rfl, dr, by decide, by decide, fun H1 r f1 _ dr1 r0 r1 => ?_⟩
    refine ⟨_, rfl, rfl, _, rfl, ite2 (fun e => ?_) (fun e => ?_)⟩
    · exact q H1 .n f1 dr1 trivial
    · refine ⟨_, rfl, _, _, rfl, rfl, _, rfl, ite2 (fun e2 => ?_) (fun e2 => ?_)⟩
      · refine ⟨_, rfl, d, c, 7, rfl, dr1, by decide, by decide, fun H2 r2 f2 _ dr2 _ _ => ?_⟩
        exact ⟨_, _, rfl, rfl, q H2 (.i (r2 - 3)) (f1.trans f2) dr2 trivial⟩
      · refine ⟨_, rfl, rfl, _, rfl, ite2 (fun e3 => ?_) (fun e3 => ?_)⟩
        · refine ⟨_, _, rfl, rfl, ⟨by decide, by decide, by decide⟩, ?_⟩
          refine ⟨_, rfl, d, c, 2, rfl, dr1, by decide, by decide, fun H2 r2 f2 _ dr2 r20 r21 => ?_⟩
          refine ⟨_, _, rfl, rfl, ?_⟩
          refine ⟨_, rfl, d, c, 2, rfl, dr2, by decide, by decide, fun H3 r3 f3 _ dr3 r30 r31 => ?_⟩
          refine ⟨_, _, rfl, rfl, .inl ⟨by decide, by decide⟩, _, _, rfl, rfl, _, _, rfl, rfl, .inr ⟨by omega, by omega⟩, ?_⟩
          exact q H3 (.i _) ((f1.trans f2).trans f3) dr3 trivial
        · -- a text
          refine ⟨⟨_, rfl⟩, _, rfl, d, c, 4, rfl, dr1, by decide, by decide, fun H2 n f2 _ dr2 n0 n1 => ?_⟩
          refine ⟨_, rfl, by omega, by omega, fun D nD => ?_⟩
          refine lc_range (lo := 0) (n := n.toNat) (fun i Hi => D ≠ d ∧ D ≠ c ∧ Fd d H2 Hi ∧ Dr Hi d c ∧ ∃ l : List Nat, l.length = i ∧ (∀ x ∈ l, x = 97 ∨ x = 98 ∨ x = 122) ∧ Hi D = some (.lst ((l.map fun x => (⟨#[x]⟩ : Str)).map V.str))) ⟨dr2.nd nD, dr2.nc nD, Fd.new nD, dr2.ext (same_upd nD), [], rfl, (fun _ h => by cases h), upd_same⟩ (fun i Hi hi hp => ?_) (fun Hn hp => ?_)
          · obtain ⟨nDd, nDc, fi, di, l, hl, hx, eD⟩ := hp
            refine ⟨rfl, ?_⟩
            refine ⟨_, rfl, d, c, 3, rfl, di, by decide, by decide, fun H' r f' _ dr' r0 r1 => ?_⟩
            obtain ⟨k, rfl⟩ := Int.eq_ofNat_of_zero_le r0
            have hk : k < 3 := by omega
            have hit : ∃ x : Nat, (x = 97 ∨ x = 98 ∨ x = 122) ∧ (Str.ofString "abz").cps.toList[k]? = some x := by
              rcases k with _ | _ | _ | k
              · exact ⟨97, .inl rfl, rfl⟩
              · exact ⟨98, .inr (.inl rfl), rfl⟩
              · exact ⟨122, .inr (.inr rfl), rfl⟩
              · omega
            obtain ⟨x, hxx, hit⟩ := hit
            have eD' := f' _ _ nDd eD
            refine ⟨_, _, x, rfl, rfl, by decide, atI_nat hit, _, eD', ?_, nDd, nDc, ?_, dr'.upd nDd nDc, l ++ [x], ?_, ?_, ?_⟩
            · rw [List.length_map, List.length_map, hl]
              exact Nat.lt_of_lt_of_le (m := 10) (by omega) (by decide)
            · intro b o nb e
              have nbD : b ≠ D := ne_of_none e nD
              rw [upd_ne nbD]
              exact f' _ _ nb (fi _ _ nb e)
            · rw [List.length_append, hl]
              rfl
            · intro y hy
              rcases List.mem_append.mp hy with hy | hy
              · exact hx y hy
              · rw [List.mem_singleton.mp hy]
                exact hxx
            · rw [upd_same, List.map_append, List.map_append]
              rfl
          · obtain ⟨nDd, nDc, fi, di, l, hl, hx, eD⟩ := hp
            have hz : ((l.map fun x => (⟨#[x]⟩ : Str)).map (·.length)).sum = l.length := sum_one l
            refine ⟨_, D, l.map fun x => (⟨#[x]⟩ : Str), rfl, rfl, .inl (.of eD), ?_, ?_⟩
            · rw [hz, List.length_map, hl]
              show n.toNat + n.toNat * 0 ≤ 16777216
              omega
            · rw [show Txt.join (Str.ofString "") (l.map fun x => (⟨#[x]⟩ : Str)) = ⟨(((l.map fun x => (⟨#[x]⟩ : Str)).map TL.tl).flatten).toArray⟩ from join0 _, flat_one]
              exact q Hn (.s l) ((f1.trans f2).trans fi) di ⟨by omega, hx⟩
end
/-! ### the order of the keys is the law's order -/
theorem fst_at {e r : Nat → Bool} {fin : Bool} : ∀ (n i : Nat), (∀ j < i, e j = true) → e i = false → i < n → fstLt e r fin n = r i
  | 0, _, _, _, h => absurd h (Nat.not_lt_zero _)
  | n + 1, 0, _, h2, _ => by rw [fst_cons, if_neg (by rw [h2]; exact Bool.false_ne_true)]
  | n + 1, i + 1, h1, h2, h3 => by
    rw [fst_cons, if_pos (h1 0 (Nat.succ_pos i))]
    exact fst_at (e := fun j => e (j + 1)) (r := fun j => r (j + 1)) n i (fun j h => h1 (j + 1) (Nat.succ_lt_succ h)) h2 (Nat.lt_of_succ_lt_succ h3)
theorem fst_end {e r : Nat → Bool} {fin : Bool} : ∀ n : Nat, (∀ j < n, e j = true) → fstLt e r fin n = fin
  | 0, _ => rfl
  | n + 1, h => by
    rw [fst_cons, if_pos (h 0 (Nat.succ_pos n))]
    exact fst_end (e := fun j => e (j + 1)) (r := fun j => r (j + 1)) n fun j hj => h (j + 1) (Nat.succ_lt_succ hj)
theorem mk_inj {l m : List Nat} (h : (⟨l.toArray⟩ : Str) = ⟨m.toArray⟩) : l = m := by
  have e := Str.mk.inj h
  have e2 := congrArg Array.toList e
  simpa using e2
theorem lt_tri (l m : List Nat) : (!decide (l < m) && !decide (m < l)) = decide (l = m) := by
  by_cases e : l = m
  · subst e
    simp [List.lt_irrefl]
  · rw [decide_eq_false e]
    by_cases h : l < m
    · rw [decide_eq_true h]
      rfl
    · rw [decide_eq_false h]
      have h2 : m < l := by
        have := List.not_lt.mp h
        exact (Std.lt_of_le_of_ne this (fun z => e z.symm))
      rw [decide_eq_true h2]
      rfl
theorem eqv_d (v w : Vl) : PyData.eqv v.d w.d = eqb v w := by
  cases v <;> cases w <;> simp [Vl.d, PyData.eqv, PyData.eqvAll, eqb, bf]
  · rw [Bool.eq_iff_iff]
    simp
    omega
  · rw [lt_tri]
    exact SX.S_beq_eq
theorem ok_d (v w : Vl) : okD v.d w.d = true := by
  cases v <;> cases w <;> simp [Vl.d, okD, okDs, PyData.eqv, PyData.eqvAll]
theorem lt_d (v w : Vl) : ltD v.d w.d = bf v w := by
  cases v <;> cases w <;> simp [Vl.d, ltD, ltDs, PyData.eqv, PyData.eqvAll, bf]
  · omega
  · exact fun h e => by subst e; exact List.lt_irrefl _ h
theorem tail_d (xs : List Vl) (j : Nat) (h : j < xs.length) : (xs.map Vl.d).getD j .none = (xs[j]).d := by
  rw [List.getD_eq_getElem?_getD, List.getElem?_map, List.getElem?_eq_getElem h]
  rfl
theorem eqP_d (xs ys : List Vl) (j : Nat) (h1 : j < xs.length) (h2 : j < ys.length) : eqP (xs.map Vl.d) (ys.map Vl.d) j = eqb xs[j] ys[j] := by
  unfold eqP
  rw [tail_d xs j h1, tail_d ys j h2, eqv_d]
theorem ltP_d (xs ys : List Vl) (j : Nat) (h1 : j < xs.length) (h2 : j < ys.length) : ltP (xs.map Vl.d) (ys.map Vl.d) j = bf xs[j] ys[j] := by
  unfold ltP
  rw [tail_d xs j h1, tail_d ys j h2, lt_d]
theorem okDs_d : ∀ xs ys : List Vl, okDs (xs.map Vl.d) (ys.map Vl.d) = true
  | [], _ => by unfold okDs; split <;> simp_all
  | _ :: _, [] => by unfold okDs; rfl
  | x :: xs, y :: ys => by
    rw [List.map_cons, List.map_cons]
    unfold okDs
    rw [okDs_d xs ys, ok_d]
    split <;> rfl
def rb (xs ys : List Vl) : Bool := ltDs (xs.map Vl.d) (ys.map Vl.d)
theorem eqvs_d : ∀ xs ys : List Vl, PyData.eqvAll (xs.map Vl.d) (ys.map Vl.d) = (!rb xs ys && !rb ys xs)
  | [], [] => by unfold rb; simp [PyData.eqvAll, ltDs]
  | [], y :: ys => by unfold rb; simp [PyData.eqvAll, ltDs]
  | x :: xs, [] => by unfold rb; simp [PyData.eqvAll, ltDs]
  | x :: xs, y :: ys => by
    have ih := eqvs_d xs ys
    unfold rb at ih ⊢
    rw [List.map_cons, List.map_cons]
    have e2 : PyData.eqv y.d x.d = PyData.eqv x.d y.d := by
      rw [eqv_d, eqv_d]
      unfold eqb
      rw [Bool.and_comm]
    rw [show PyData.eqvAll (x.d :: xs.map Vl.d) (y.d :: ys.map Vl.d) = (PyData.eqv x.d y.d && PyData.eqvAll (xs.map Vl.d) (ys.map Vl.d)) by rw [PyData.eqvAll]]
    rw [show ltDs (x.d :: xs.map Vl.d) (y.d :: ys.map Vl.d) = if PyData.eqv x.d y.d = true then ltDs (xs.map Vl.d) (ys.map Vl.d) else ltD x.d y.d by rw [ltDs]]
    rw [show ltDs (y.d :: ys.map Vl.d) (x.d :: xs.map Vl.d) = if PyData.eqv y.d x.d = true then ltDs (ys.map Vl.d) (xs.map Vl.d) else ltD y.d x.d by rw [ltDs]]
    rw [e2, ih]
    cases e : PyData.eqv x.d y.d with
    | true =>
      rw [if_pos rfl, if_pos rfl, Bool.true_and]
    | false =>
      rw [if_neg Bool.false_ne_true, if_neg Bool.false_ne_true, Bool.false_and, lt_d, lt_d]
      rw [eqv_d] at e
      unfold eqb at e
      exact e.symm
theorem strOk_abz {l : List Nat} (h : abz l) : PyData.strOk ⟨l.toArray⟩ = true := by
  unfold PyData.strOk
  rw [Array.all_eq_true']
  intro c hc
  have hc' : c ∈ l := by simpa using hc
  rcases h.2 c hc' with rfl | rfl | rfl <;> decide
theorem key_lay {v : Vl} (h : v.ok) : PyData.canLay0 v.d = true := by
  cases v with
  | n => rfl
  | i k => rfl
  | s l =>
    have := strOk_abz h
    simp [Vl.d, PyData.canLay0, PyData.canLayAll0, this]
theorem row_shaped (xs : List Vl) (ho : ∀ x ∈ xs, x.ok) : SeqAt.shaped (.tuple (xs.map Vl.d)) = true := by
  have h1 : PyData.canLayAll0 (xs.map Vl.d) = true := by
    induction xs with
    | nil => rfl
    | cons x xs ih =>
      rw [List.map_cons]
      unfold PyData.canLayAll0
      rw [ih (fun y hy => ho y (List.mem_cons_of_mem _ hy)), Bool.and_true]
      exact key_lay (ho x (List.mem_cons_self ..))
  have h2 : PyData.depthAll (xs.map Vl.d) ≤ 1 := by
    clear h1 ho
    induction xs with
    | nil => exact Nat.zero_le _
    | cons x xs ih =>
      rw [List.map_cons]
      unfold PyData.depthAll
      refine Nat.max_le.mpr ⟨?_, ih⟩
      cases x <;> simp [Vl.d, PyData.depth, PyData.depthAll]
  unfold SeqAt.shaped
  rw [Bool.and_eq_true]
  refine ⟨by unfold PyData.canLay0; exact h1, ?_⟩
  refine decide_eq_true ?_
  unfold PyData.depth
  omega
theorem key_shaped (v : Vl) (h : v.ok) : SeqAt.shaped v.d = true := by
  unfold SeqAt.shaped
  rw [key_lay h, Bool.true_and]
  refine decide_eq_true ?_
  cases v <;> simp [Vl.d, PyData.depth, PyData.depthAll]
def sp_rb (K : PySem.W.Frag) : Sp := fun vs H Q _ => ∃ (a b : Addr) (xs ys : List Vl), vs = [.ref a, .ref b] ∧ SqT K H a (xs.map Vl.v) ∧ SqT K H b (ys.map Vl.v) ∧ (∀ x ∈ xs, x.ok) ∧ (∀ y ∈ ys, y.ok) ∧ xs.length ≤ 1000 ∧ Q (.bl (rb xs ys)) H
section
variable {P : Program} {w : World} {K : PySem.W.Frag} {mg : Str → Option Value} {base : Heap}
theorem ok_rb {f : Addr} {fd : FuncData} (F : Fun K "_law_row_before" "_law_row_before" s__law_row_before f fd) (M : Mg mg) (c__law_before : Cl P w K mg base 2 "_law_before" sp_bf) (c__law_equal : Cl P w K mg base 3 "_law_equal" sp_eq) : FnOk P w K mg base CX0 4 f fd ["first", "second"] (sp_rb K) := by
  refine F.ok sc__law_row_before (fun vs H Q E h => ?_) (fun cdv A outer s H vs Q E hr h => ?_)
  · obtain ⟨a, b, xs, ys, rfl, _⟩ := h
    rfl
  · obtain ⟨a, b, xs, ys, rfl, ha, hb, hx, hy, hl, q⟩ := h
    refine ⟨_, (pss_cons (ps_for PassesOwn.never rfl (pi_range1 (by rfl) M.range (pa_cons (pe_callB (call_min2 rfl) (by rfl) M.min (by decide +kernel) (pa_cons (pe_callB (len_seqK K) (by rfl) M.len PySem.boot_len (pa_cons (pv 0) pa_nil)) (pa_cons (pe_callB (len_seqK K) (by rfl) M.len PySem.boot_len (pa_cons (pv 1) pa_nil)) pa_nil))) pa_nil)) (pg_name (i := 2) sc__law_row_before.nd rfl (.inl rfl)) (pss_one (ps_if (pt_not (pt_val (pe_u c__law_equal hr (by first | decide | omega) (by rfl) (pa_cons (pe_ix (ix_tupK K) (pv 0) (pv 2) (fun _ _ => rfl)) (pa_cons (pe_ix (ix_tupK K) (pv 1) (pv 2) (fun _ _ => rfl)) pa_nil))))) (pss_one (ps_ret (pe_u c__law_before hr (by first | decide | omega) (by rfl) (pa_cons (pe_ix (ix_tupK K) (pv 0) (pv 2) (fun _ _ => rfl)) (pa_cons (pe_ix (ix_tupK K) (pv 1) (pv 2) (fun _ _ => rfl)) pa_nil))))) pss_nil)))
      (pss_one (ps_ret (pe_cmpR op_lt (pe_callB (len_seqK K) (by rfl) M.len PySem.boot_len (pa_cons (pv 0) pa_nil)) (pe_callB (len_seqK K) (by rfl) M.len PySem.boot_len (pa_cons (pv 1) pa_nil)) (nomark _))))), ?_⟩
    refine ⟨_, rfl, a, _, rfl, .inr ha, _, rfl, b, _, rfl, .inr hb, _, _, rfl, ?_⟩
    rw [List.length_map, List.length_map]
    have em : (if ((ys.length : Nat) : Int) < ((xs.length : Nat) : Int) then ((ys.length : Nat) : Int) else ((xs.length : Nat) : Int)) = ((min xs.length ys.length : Nat) : Int) := by split <;> omega
    rw [em]
    refine ⟨_, rfl, by omega, by omega, ?_⟩
    have key : rb xs ys = fstLt (eqP (xs.map Vl.d) (ys.map Vl.d)) (ltP (xs.map Vl.d) (ys.map Vl.d)) (decide (xs.length < ys.length)) (min xs.length ys.length) := by
      unfold rb
      rw [ltDs_first, List.length_map, List.length_map]
    refine for_range (lo := 0) (n := ((min xs.length ys.length : Nat) : Int).toNat) (fun i σ Hi => Hi = H ∧ (∃ z, σ = [some (.ref a), some (.ref b), z]) ∧ ∀ j < i, eqP (xs.map Vl.d) (ys.map Vl.d) j = true) ⟨rfl, ⟨none, rfl⟩, fun j h => absurd h (Nat.not_lt_zero j)⟩ (fun i σ Hi hi hp => ?_) (fun σ Hn hp => ?_)
    · obtain ⟨rfl, ⟨z, rfl⟩, hj⟩ := hp
      have h1 : i < xs.length := by omega
      have h2 : i < ys.length := by omega
      have a1 : atI (xs.map Vl.v) (0 + (i : Int)) = some xs[i].v := at_0 (by rw [List.getElem?_map, List.getElem?_eq_getElem h1]; rfl)
      have a2 : atI (ys.map Vl.v) (0 + (i : Int)) = some ys[i].v := at_0 (by rw [List.getElem?_map, List.getElem?_eq_getElem h2]; rfl)
      refine ⟨_, rfl, _, rfl, a, _, _, _, rfl, rfl, ha, a1, _, rfl, _, rfl, b, _, _, _, rfl, rfl, hb, a2, xs[i], ys[i], rfl, hx _ (List.getElem_mem h1), hy _ (List.getElem_mem h2), _, rfl, ?_⟩
      have e1 := eqP_d xs ys i h1 h2
      cases e : eqb xs[i] ys[i] with
      | true =>
        refine iteF ?_
        refine ⟨rfl, ⟨_, rfl⟩, fun j hj' => ?_⟩
        by_cases ej : j = i
        · subst ej
          rw [e1, e]
        · exact hj j (by omega)
      | false =>
        refine iteT ?_
        refine ⟨_, rfl, _, rfl, a, _, _, _, rfl, rfl, ha, a1, _, rfl, _, rfl, b, _, _, _, rfl, rfl, hb, a2, xs[i], ys[i], rfl, hx _ (List.getElem_mem h1), hy _ (List.getElem_mem h2), ?_⟩
        rw [key, fst_at _ i hj (by rw [e1, e]) (by omega), ltP_d xs ys i h1 h2] at q
        exact q
    · obtain ⟨rfl, ⟨z, rfl⟩, hj⟩ := hp
      refine ⟨_, rfl, a, _, rfl, .inr ha, _, rfl, b, _, rfl, .inr hb, _, _, rfl, rfl, ?_⟩
      rw [key, fst_end _ (fun j h => hj j (by omega))] at q
      have e : decide (((xs.map Vl.v).length : Int) < ((ys.map Vl.v).length : Int)) = decide (xs.length < ys.length) := by
        rw [List.length_map, List.length_map, decide_eq_decide]
        omega
      dsimp only
      rw [e]
      exact q
end
section
variable {P : Program} {w : World} {K : PySem.W.Frag} {mg : Str → Option Value} {base : Heap}
theorem key_tup {H : Hp} {p : V} {v : Vl} (h : Dp K H p v.d) : TyX K H p (.type "tuple") := by
  cases v with
  | n => cases h with | tup h _ => exact tyT h
  | i k => cases h with | tup h _ => exact tyT h
  | s l => cases h with | tup h _ => exact tyT h
def sp_law (K : PySem.W.Frag) : Sp := fun vs H Q _ => ∃ (a : Addr) (ns : List Int), vs = [.ref a] ∧ SqL K H a (ns.map V.int) ∧ ns.length ≤ 63 ∧ ∀ H', Q (.bl true) H'
theorem ok_law {f : Addr} {fd : FuncData} (F : Fun K "law" "law" s_law f fd) (M : Mg mg) (c__law_draw : Cl P w K mg base 1 "_law_draw" (sp_draw K)) (c__law_next : Cl P w K mg base 1 "_law_next" sp_next) (c__law_value : Cl P w K mg base 2 "_law_value" sp_value) (c_value_key : Cl P w K mg base 1 "value_key" (sp_key K)) (c_row_key : Cl P w K mg base 2 "row_key" (sp_rkey K)) (c__law_before : Cl P w K mg base 2 "_law_before" sp_bf) (c__law_equal : Cl P w K mg base 3 "_law_equal" sp_eq) (c__law_row_before : Cl P w K mg base 4 "_law_row_before" (sp_rb K)) : FnOk P w K mg base CX0 5 f fd ["script"] (sp_law K) := by
  refine F.ok sc_law (fun vs H Q E h => ?_) (fun cdv A outer s H vs Q E hr h => ?_)
  · obtain ⟨a, ns, rfl, _⟩ := h
    rfl
  · obtain ⟨a, ns, rfl, hS, _, q⟩ := h
    refine ⟨_, (pss_cons (ps_set (i := 1) sc_law.nd rfl (.inr rfl) (pe_u c__law_draw hr (by first | decide | omega) (by rfl) (pa_cons (pv 0) pa_nil)))
      (pss_cons (ps_set (i := 2) sc_law.nd rfl (.inr rfl) (pe_lc (own := [("k", 10)]) (g := gName 10) (tt := tYes) rfl sc_law.nd (pi_range1 (by rfl) M.range (pa_cons pe_int pa_nil)) (blkOk_by (N := N_law) (sc := defScope s_law) (by decide +kernel)) (fun _ _ _ _ _ => (pg_name (i := 10) sc_law.nd rfl (.inl rfl))) (fun _ _ _ _ _ => pts_nil) (fun _ _ _ _ _ => (pe_u c__law_value hr (by first | decide | omega) (by rfl) (pa_cons (pv 1) pa_nil)))))
      (pss_cons (ps_for PassesOwn.never rfl (pi_list (pv 2)) (pg_name (i := 3) sc_law.nd rfl (.inl rfl)) (pss_one (ps_for PassesOwn.never rfl (pi_list (pv 2)) (pg_name (i := 4) sc_law.nd rfl (.inl rfl)) (pss_cons (ps_set (i := 5) sc_law.nd rfl (.inl rfl) (pe_u c_value_key hr (by first | decide | omega) (by rfl) (pa_cons (pv 3) pa_nil)))
      (pss_cons (ps_set (i := 6) sc_law.nd rfl (.inl rfl) (pe_u c_value_key hr (by first | decide | omega) (by rfl) (pa_cons (pv 4) pa_nil)))
      (pss_cons (ps_if (PW.pt (pw_or (pt_not (pt_val (pe_callB (isiK K) (by rfl) M.isinstance (by decide +kernel) (pa_cons (pv 5) (pa_cons (pe_bltn (v := .ty "tuple") (by rfl) M.tuple (by decide +kernel) rfl) pa_nil))))) (pw_or1 (pt_not (pt_val (pe_callB (isiK K) (by rfl) M.isinstance (by decide +kernel) (pa_cons (pv 6) (pa_cons (pe_bltn (v := .ty "tuple") (by rfl) M.tuple (by decide +kernel) rfl) pa_nil)))))))) (pss_one (ps_ret pe_bl)) pss_nil)
      (pss_one (ps_if (PW.pt (pw_or (pt_cmpR op_ne (pe_cmpR (ltDK K hr.units) (pv 5) (pv 6) (nomark _)) (pe_u c__law_before hr (by first | decide | omega) (by rfl) (pa_cons (pv 3) (pa_cons (pv 4) pa_nil))) (nomark _)) (pw_or1 (pt_cmpR op_ne (pe_cmpR (eqDK K hr.units) (pv 5) (pv 6) (nomark _)) (pe_u c__law_equal hr (by first | decide | omega) (by rfl) (pa_cons (pv 3) (pa_cons (pv 4) pa_nil))) (nomark _))))) (pss_one (ps_ret pe_bl)) pss_nil))))))))
      (pss_cons (ps_set (i := 7) sc_law.nd rfl (.inl rfl) (pe_lst pa_nil))
      (pss_cons (ps_for PassesOwn.never rfl (pi_tup (pe_tup (pa_cons (pe_u c__law_next hr (by first | decide | omega) (by rfl) (pa_cons (pv 1) (pa_cons pe_int pa_nil))) (pa_cons (pe_u c__law_next hr (by first | decide | omega) (by rfl) (pa_cons (pv 1) (pa_cons pe_int pa_nil))) pa_nil)))) (pg_name (i := 8) sc_law.nd rfl (.inl rfl)) (pss_one (ps_expr (pe_bm PySem.F.plainAttrs_list PySem.F.slot_list_append PySem.F.type_list_append mt_append (pv 7) (pa_cons (pe_callTy (tupleK K) (by rfl) M.tuple (by decide +kernel) (pa_cons (pe_lc (own := [("k", 10)]) (g := gName 10) (tt := tYes) rfl sc_law.nd (pi_range1 (by rfl) M.range (pa_cons (pv 8) pa_nil)) (blkOk_by (N := N_law) (sc := defScope s_law) (by decide +kernel)) (fun _ _ _ _ _ => (pg_name (i := 10) sc_law.nd rfl (.inl rfl))) (fun _ _ _ _ _ => pts_nil) (fun _ _ _ _ _ => (pe_ifExp (pt_truthK K (pe_u c__law_next hr (by first | decide | omega) (by rfl) (pa_cons (pv 1) (pa_cons pe_int pa_nil))) (by intro _; rfl)) (pe_u c__law_value hr (by first | decide | omega) (by rfl) (pa_cons (pv 1) pa_nil)) (pe_ix (ix_listK K) (pv 2) (pe_op op_mod (pv 10) pe_int) (fun _ _ => rfl))))) pa_nil)) pa_nil)))))
      (pss_cons (ps_set (i := 5) sc_law.nd rfl (.inl rfl) (pe_u c_row_key hr (by first | decide | omega) (by rfl) (pa_cons (pe_ix (ix_listK K) (pv 7) pe_int (fun _ _ => rfl)) pa_nil)))
      (pss_cons (ps_set (i := 6) sc_law.nd rfl (.inl rfl) (pe_u c_row_key hr (by first | decide | omega) (by rfl) (pa_cons (pe_ix (ix_listK K) (pv 7) pe_int (fun _ _ => rfl)) pa_nil)))
      (pss_cons (ps_if (PW.pt (pw_or (pt_not (pt_val (pe_callB (isiK K) (by rfl) M.isinstance (by decide +kernel) (pa_cons (pv 5) (pa_cons (pe_bltn (v := .ty "tuple") (by rfl) M.tuple (by decide +kernel) rfl) pa_nil))))) (pw_or1 (pt_not (pt_val (pe_callB (isiK K) (by rfl) M.isinstance (by decide +kernel) (pa_cons (pv 6) (pa_cons (pe_bltn (v := .ty "tuple") (by rfl) M.tuple (by decide +kernel) rfl) pa_nil)))))))) (pss_one (ps_ret pe_bl)) pss_nil)
      (pss_cons (ps_set (i := 9) sc_law.nd rfl (.inl rfl) (pe_and (pe_not (pe_u c__law_row_before hr (by first | decide | omega) (by rfl) (pa_cons (pe_ix (ix_listK K) (pv 7) pe_int (fun _ _ => rfl)) (pa_cons (pe_ix (ix_listK K) (pv 7) pe_int (fun _ _ => rfl)) pa_nil)))) (pe_one (pe_not (pe_u c__law_row_before hr (by first | decide | omega) (by rfl) (pa_cons (pe_ix (ix_listK K) (pv 7) pe_int (fun _ _ => rfl)) (pa_cons (pe_ix (ix_listK K) (pv 7) pe_int (fun _ _ => rfl)) pa_nil)))))))
      (pss_one (ps_ret (pe_and (pe_cmpR op_eq (pe_cmpR (ltDK K hr.units) (pv 5) (pv 6) (nomark _)) (pe_u c__law_row_before hr (by first | decide | omega) (by rfl) (pa_cons (pe_ix (ix_listK K) (pv 7) pe_int (fun _ _ => rfl)) (pa_cons (pe_ix (ix_listK K) (pv 7) pe_int (fun _ _ => rfl)) pa_nil))) (nomark _)) (pe_one (pe_cmpR op_eq (pe_cmpR (eqDK K hr.units) (pv 5) (pv 6) (nomark _)) (pv 9) (nomark _))))))))))))))), ?_⟩
    refine ⟨_, rfl, a, ns, rfl, hS, fun H1 d c s1 nd dr => ?_⟩
    -- values
    refine ⟨3, rfl, by decide, by decide, fun vl nvl => ?_⟩
    refine lc_range (lo := 0) (n := (3 : Int).toNat) (fun i Hi => vl ≠ d ∧ vl ≠ c ∧ Dr Hi d c ∧ ∃ us : List Vl, us.length = i ∧ (∀ u ∈ us, u.ok) ∧ Hi vl = some (.lst (us.map Vl.v))) ⟨dr.nd nvl, dr.nc nvl, dr.ext (same_upd nvl), [], rfl, (fun _ h => by cases h), upd_same⟩ (fun i Hi hi hp => ?_) (fun Hn hp => ?_)
    · obtain ⟨n1, n2, di, us, hl, ho, ev⟩ := hp
      refine ⟨rfl, ?_⟩
      refine ⟨_, rfl, d, c, rfl, di, fun H' v f' dr' hv => ?_⟩
      refine ⟨_, f' _ _ n1 ev, ?_, n1, n2, dr'.upd n1 n2, us ++ [v], ?_, ?_, ?_⟩
      · rw [List.length_map, hl]
        exact Nat.lt_of_lt_of_le (m := 10) (by omega) (by decide)
      · rw [List.length_append, hl]
        rfl
      · intro y hy
        rcases List.mem_append.mp hy with hy | hy
        · exact ho y hy
        · rw [List.mem_singleton.mp hy]
          exact hv
      · rw [upd_same, List.map_append]
        rfl
    · obtain ⟨n1, n2, d2, us, hl, ho, ev⟩ := hp
      have hl3 : us.length = 3 := hl
      -- two by two
      refine ⟨_, rfl, vl, rfl, ⟨_, .of ev⟩, ?_⟩
      refine for_list (K := K) (a := vl) (xs := us.map Vl.v) (fun i σ Hi => Dr Hi d c ∧ Hi vl = some (.lst (us.map Vl.v)) ∧ ∃ x y z u, σ = [some (.ref a), some (.ref d), some (.ref vl), x, y, z, u, none, none, none, none]) ⟨d2, ev, none, none, none, none, rfl⟩ (fun i σ Hi _ hp => .of hp.2.1) (fun i x σ Hi hx hp => ?_) (fun σ Hn hp => ?_)
      · obtain ⟨di, evi, w1, w2, w3, w4, rfl⟩ := hp
        rw [List.getElem?_map] at hx
        obtain ⟨v, hv, rfl⟩ := Option.map_eq_some_iff.mp hx
        have hov : v.ok := ho v (List.mem_of_getElem? hv)
        refine ⟨_, rfl, vl, rfl, ⟨_, .of evi⟩, ?_⟩
        refine for_list (K := K) (a := vl) (xs := us.map Vl.v) (fun i σ Hi => Dr Hi d c ∧ Hi vl = some (.lst (us.map Vl.v)) ∧ ∃ y z u, σ = [some (.ref a), some (.ref d), some (.ref vl), some v.v, y, z, u, none, none, none, none]) ⟨di, evi, _, _, _, rfl⟩ (fun i σ Hi _ hp => .of hp.2.1) (fun i2 x2 σ2 Hi2 hx2 hp => ?_) (fun σ2 Hn2 hp => ?_)
        · obtain ⟨di2, evi2, u1, u2, u3, rfl⟩ := hp
          rw [List.getElem?_map] at hx2
          obtain ⟨v2, hv2, rfl⟩ := Option.map_eq_some_iff.mp hx2
          have hov2 : v2.ok := ho v2 (List.mem_of_getElem? hv2)
          refine ⟨_, rfl, v, rfl, fun H3 p s3 dp => ?_⟩
          refine ⟨_, rfl, v2, rfl, fun H4 p2 s4 dp2 => ?_⟩
          have dp' := Dp.ext s4 _ _ dp
          refine ⟨_, rfl, _, _, _, _, _, rfl, .ty _, key_tup dp', kit_ty (show kitB _ _ = some true by decide +kernel), _, rfl, iteF ?_⟩
          refine ⟨_, rfl, _, _, _, _, _, rfl, .ty _, key_tup dp2, kit_ty (show kitB _ _ = some true by decide +kernel), _, rfl, iteF ?_⟩
          refine ⟨_, rfl, _, rfl, _, _, dp', dp2, key_shaped v hov, key_shaped v2 hov2, ok_d v v2, ?_⟩
          refine ⟨_, rfl, _, rfl, v, v2, rfl, hov, hov2, rfl, _, rfl, ?_⟩
          rw [lt_d, decide_eq_true (rfl : V.bl (bf v v2) = V.bl (bf v v2))]
          refine iteF ?_
          refine ⟨_, rfl, _, rfl, _, _, dp', dp2, key_shaped v hov, key_shaped v2 hov2, ?_⟩
          refine ⟨_, rfl, _, rfl, v, v2, rfl, hov, hov2, rfl, _, rfl, ?_⟩
          rw [eqv_d, decide_eq_true (rfl : V.bl (eqb v v2) = V.bl (eqb v v2))]
          refine iteF ?_
          exact ⟨di2.ext (s3.trans s4), s4 _ _ (s3 _ _ evi2), _, _, _, rfl⟩
        · obtain ⟨di2, evi2, u1, u2, u3, rfl⟩ := hp
          exact ⟨di2, evi2, _, _, _, _, rfl⟩
      · obtain ⟨di, evi, w1, w2, w3, w4, rfl⟩ := hp
        -- rows
        refine ⟨Nat.zero_le _, fun R nR => ?_⟩
        have nRd := di.nd nR
        have nRc := di.nc nR
        have nRv : R ≠ vl := (ne_of_none evi nR).symm
        have d3 := di.ext (same_upd nR (o := .lst []))
        have ev3 := same_upd nR (o := .lst []) _ _ evi
        have eR3 : (upd Hn R (.lst [])) R = some (.lst []) := upd_same
        generalize upd Hn R (.lst []) = H3 at d3 ev3 eR3
        refine ⟨_, rfl, d, c, 4, rfl, d3, by decide, by decide, fun H4 m1 f4 _ d4 m10 m11 => ?_⟩
        refine ⟨_, rfl, d, c, 4, rfl, d4, by decide, by decide, fun H5 m2 f5 _ d5 m20 m21 => ?_⟩
        have ev5 := f5 _ _ n1 (f4 _ _ n1 ev3)
        have eR5 := f5 _ _ nRd (f4 _ _ nRd eR3)
        refine ⟨by show 2 ≤ sizeLine; decide, fun T nT => ?_⟩
        have nTd := d5.nd nT
        have nTR : T ≠ R := (ne_of_none eR5 nT).symm
        refine ⟨T, rfl, ⟨_, .of upd_same⟩, ?_⟩
        refine for_tup (K := K) (a := T) (xs := [.int m1, .int m2]) (fun i σ Hi => Dr Hi d c ∧ Hi vl = some (.lst (us.map Vl.v)) ∧ Hi T = some (.tup [.int m1, .int m2]) ∧ (∃ z, σ = [some (.ref a), some (.ref d), some (.ref vl), w1, w2, w3, w4, some (.ref R), z, none, none]) ∧
            ∃ ts : List (Addr × List Vl), ts.length = i ∧ Hi R = some (.lst (ts.map fun t => V.ref t.1)) ∧ ∀ t ∈ ts, Hi t.1 = some (.tup (t.2.map Vl.v)) ∧ (∀ x ∈ t.2, x.ok) ∧ t.2.length ≤ 3)
          ⟨d5.ext (same_upd nT), same_upd nT _ _ ev5, upd_same, ⟨none, rfl⟩, [], rfl, same_upd nT _ _ eR5, fun _ h => by cases h⟩ (fun i σ Hi _ hp => .of hp.2.2.1) (fun i x σ Hi hx hp => ?_) (fun σ Hm hp => ?_)
        · obtain ⟨d6, ev6, eT6, ⟨z, rfl⟩, ts, hts, eR6, ht⟩ := hp
          have hm : ∃ m : Int, x = .int m ∧ 0 ≤ m ∧ m ≤ 3 := by
            rcases i with _ | _ | i
            · exact ⟨m1, (Option.some.inj hx).symm, m10, by omega⟩
            · exact ⟨m2, (Option.some.inj hx).symm, m20, by omega⟩
            · cases hx
          obtain ⟨m, rfl, mm0, mm1⟩ := hm
          have hi2 : i < 2 := (List.getElem?_eq_some_iff.mp hx).1
          refine ⟨_, rfl, .inl ⟨rfl, _, .of eR6⟩, ?_⟩
          refine ⟨_, rfl, _, rfl, by omega, by omega, fun D nD => ?_⟩
          have nDd := d6.nd nD
          have nDc := d6.nc nD
          have nDv : D ≠ vl := (ne_of_none ev6 nD).symm
          refine lc_range (lo := 0) (n := m.toNat) (fun j Hj => (∀ b o, b ≠ d → Hi b = some o → Hj b = some o) ∧ Dr Hj d c ∧ ∃ ws : List Vl, ws.length = j ∧ (∀ x ∈ ws, x.ok) ∧ Hj D = some (.lst (ws.map Vl.v))) ⟨fun b o _ e => same_upd nD _ _ e, d6.ext (same_upd nD), [], rfl, (fun _ h => by cases h), upd_same⟩ (fun j Hj hj hp => ?_) (fun Hk hp => ?_)
          · obtain ⟨fj, dj, ws, hw, how, eD⟩ := hp
            have push : ∀ (H' : Hp) (v : Vl), Fd d Hj H' → Dr H' d c → v.ok → ∃ acc, H' D = some (.lst acc) ∧ acc.length < sizeLine ∧ ((∀ b o, b ≠ d → Hi b = some o → (upd H' D (.lst (acc ++ [v.v]))) b = some o) ∧ Dr (upd H' D (.lst (acc ++ [v.v]))) d c ∧ ∃ ws : List Vl, ws.length = j + 1 ∧ (∀ x ∈ ws, x.ok) ∧ (upd H' D (.lst (acc ++ [v.v]))) D = some (.lst (ws.map Vl.v))) := by
              intro H' v f' dr' hv
              refine ⟨_, f' _ _ nDd eD, ?_, fun b o nb e => ?_, dr'.upd nDd nDc, ws ++ [v], ?_, ?_, ?_⟩
              · rw [List.length_map, hw]
                exact Nat.lt_of_lt_of_le (m := 10) (by omega) (by decide)
              · rw [upd_ne (ne_of_none e nD)]
                exact f' _ _ nb (fj _ _ nb e)
              · rw [List.length_append, hw]
                rfl
              · intro y hy
                rcases List.mem_append.mp hy with hy | hy
                · exact how y hy
                · rw [List.mem_singleton.mp hy]
                  exact hv
              · rw [upd_same, List.map_append]
                rfl
            refine ⟨rfl, ?_⟩
            refine ⟨_, rfl, d, c, 2, rfl, dj, by decide, by decide, fun H' r f' _ dr' r0 r1 => ?_⟩
            refine ⟨_, rfl, ite2 (fun e => ?_) (fun e => ?_)⟩
            · refine ⟨_, rfl, d, c, rfl, dr', fun H'' v f'' dr'' hv => ?_⟩
              exact push H'' v (f'.trans f'') dr'' hv
            · have e3 : (0 + (j : Int)) % 3 = ((j % 3 : Nat) : Int) := by omega
              have h3 : j % 3 < us.length := by omega
              have e4 : atI (us.map Vl.v) ((0 + (j : Int)) % 3) = some (us[j % 3]).v := by
                rw [e3]
                exact atI_nat (by rw [List.getElem?_map, List.getElem?_eq_getElem h3]; rfl)
              refine ⟨_, rfl, _, rfl, _, _, rfl, rfl, by show (0 : Int) < 3; decide, ?_⟩
              refine ⟨vl, _, _, _, rfl, rfl, .of (f' _ _ n1 (fj _ _ n1 ev6)), e4, ?_⟩
              exact push H' us[j % 3] f' dr' (ho _ (List.getElem_mem h3))
          · obtain ⟨fk, dk, ws, hw, how, eD⟩ := hp
            have nRd' := nRd
            refine ⟨D, _, rfl, .inl ⟨.of eD, fun T2 nT2 => ?_⟩⟩
            have eR7 := fk _ _ nRd eR6
            have nT2R : R ≠ T2 := ne_of_none eR7 nT2
            have s7 := same_upd nT2 (o := .tup (ws.map Vl.v))
            have eR8 := s7 _ _ eR7
            have keep : ∀ b o, b ≠ R → (upd Hk T2 (.tup (ws.map Vl.v))) b = some o → (upd (upd Hk T2 (.tup (ws.map Vl.v))) R (.lst ((ts.map fun t => V.ref t.1) ++ [.ref T2]))) b = some o := fun b o nb e => by
              rw [upd_ne nb]
              exact e
            refine ⟨R, _, _, rfl, rfl, eR8, ?_, (dk.ext s7).upd nRd nRc, ?_, ?_, ⟨_, rfl⟩, ts ++ [(T2, ws)], ?_, ?_, fun t hmem => ?_⟩
            · rw [List.length_map, hts]
              exact Nat.lt_of_lt_of_le (m := 10) (by omega) (by decide)
            · exact keep _ _ nRv.symm (s7 _ _ (fk _ _ n1 ev6))
            · exact keep _ _ nTR (s7 _ _ (fk _ _ nTd eT6))
            · rw [List.length_append, hts]
              rfl
            · rw [upd_same, List.map_append]
              rfl
            · rcases List.mem_append.mp hmem with hmem | hmem
              · obtain ⟨h1, h2, h3⟩ := ht t hmem
                have ntR : t.1 ≠ R := ne_of h1 eR6 (fun z => nomatch z)
                have ntd : t.1 ≠ d := by
                  intro z
                  obtain ⟨_, ns', p', r', s', hd, _⟩ := d6
                  rw [z, hd] at h1
                  cases h1
                exact ⟨keep _ _ ntR (s7 _ _ (fk _ _ ntd h1)), h2, h3⟩
              · rw [List.mem_singleton.mp hmem]
                exact ⟨keep _ _ nT2R.symm upd_same, how, by show ws.length ≤ 3; omega⟩
        · obtain ⟨d6, ev6, eT6, ⟨z, rfl⟩, ts, hts, eR6, ht⟩ := hp
          obtain ⟨⟨t1, xs⟩, ⟨t2, ys⟩, rfl⟩ : ∃ x y, ts = [x, y] := by
            rcases ts with _ | ⟨x, _ | ⟨y, _ | ⟨z, r⟩⟩⟩
            · cases hts
            · cases hts
            · exact ⟨x, y, rfl⟩
            · cases hts
          obtain ⟨e1, o1, l1⟩ := ht _ (List.mem_cons_self ..)
          obtain ⟨e2, o2, l2⟩ := ht _ (List.mem_cons_of_mem _ (List.mem_singleton.mpr rfl))
          have l1' : xs.length ≤ 3 := l1
          have l2' : ys.length ≤ 3 := l2
          have lR : SqL K Hm R [.ref t1, .ref t2] := .of eR6
          have at0 : atI [V.ref t1, V.ref t2] 0 = some (.ref t1) := atI_nat (j := 0) rfl
          have at1 : atI [V.ref t1, V.ref t2] 1 = some (.ref t2) := atI_nat (j := 1) rfl
          refine ⟨_, rfl, R, _, _, _, rfl, rfl, lR, at0, t1, xs, rfl, .of e1, by omega, fun H6 p1 s6 dp1 => ?_⟩
          refine ⟨_, rfl, R, _, _, _, rfl, rfl, s6.seq lR, at1, t2, ys, rfl, .of (s6 _ _ e2), by omega, fun H7 p2 s7 dp2 => ?_⟩
          have dp1' := Dp.ext s7 _ _ dp1
          have ty1 : TyX K H7 (.ref p1) (.type "tuple") := by cases dp1' with | tup h _ => exact tyT h
          have ty2 : TyX K H7 (.ref p2) (.type "tuple") := by cases dp2 with | tup h _ => exact tyT h
          have lR7 : SqL K H7 R [.ref t1, .ref t2] := s7.seq (s6.seq lR)
          have st1 : SqT K H7 t1 (xs.map Vl.v) := .of (s7 _ _ (s6 _ _ e1))
          have st2 : SqT K H7 t2 (ys.map Vl.v) := .of (s7 _ _ (s6 _ _ e2))
          refine ⟨_, rfl, _, _, _, _, _, rfl, .ty _, ty1, kit_ty (show kitB _ _ = some true by decide +kernel), _, rfl, iteF ?_⟩
          refine ⟨_, rfl, _, _, _, _, _, rfl, .ty _, ty2, kit_ty (show kitB _ _ = some true by decide +kernel), _, rfl, iteF ?_⟩
          refine ⟨_, rfl, R, _, _, _, rfl, rfl, lR7, at0, _, rfl, R, _, _, _, rfl, rfl, lR7, at1, t1, t2, xs, ys, rfl, st1, st2, o1, o2, by omega, _, rfl, _, rfl, ?_⟩
          have sh1 := row_shaped xs o1
          have sh2 := row_shaped ys o2
          have okk : okD (.tuple (xs.map Vl.d)) (.tuple (ys.map Vl.d)) = true := by
            unfold okD
            exact okDs_d xs ys
          have elt : ltD (.tuple (xs.map Vl.d)) (.tuple (ys.map Vl.d)) = rb xs ys := by
            unfold ltD
            rfl
          have eeq : PyData.eqv (.tuple (xs.map Vl.d)) (.tuple (ys.map Vl.d)) = (!rb xs ys && !rb ys xs) := by
            rw [PyData.eqv]
            exact eqvs_d xs ys
          cases er : rb xs ys with
          | true =>
            refine iteF ?_
            refine ⟨_, rfl, _, rfl, _, _, dp1', dp2, sh1, sh2, okk, ?_⟩
            refine ⟨_, rfl, R, _, _, _, rfl, rfl, lR7, at0, _, rfl, R, _, _, _, rfl, rfl, lR7, at1, t1, t2, xs, ys, rfl, st1, st2, o1, o2, by omega, rfl, _, rfl, ?_⟩
            rw [elt, decide_eq_true (rfl : V.bl (rb xs ys) = V.bl (rb xs ys))]
            refine iteT ?_
            refine ⟨_, rfl, _, rfl, _, _, dp1', dp2, sh1, sh2, _, rfl, rfl, ?_⟩
            rw [eeq, er]
            exact q _
          | false =>
            refine iteT ?_
            refine ⟨_, rfl, R, _, _, _, rfl, rfl, lR7, at1, _, rfl, R, _, _, _, rfl, rfl, lR7, at0, t2, t1, ys, xs, rfl, st2, st1, o2, o1, by omega, _, rfl, ?_⟩
            refine ⟨_, rfl, _, rfl, _, _, dp1', dp2, sh1, sh2, okk, ?_⟩
            refine ⟨_, rfl, R, _, _, _, rfl, rfl, lR7, at0, _, rfl, R, _, _, _, rfl, rfl, lR7, at1, t1, t2, xs, ys, rfl, st1, st2, o1, o2, by omega, rfl, _, rfl, ?_⟩
            rw [elt, decide_eq_true (rfl : V.bl (rb xs ys) = V.bl (rb xs ys))]
            refine iteT ?_
            refine ⟨_, rfl, _, rfl, _, _, dp1', dp2, sh1, sh2, _, rfl, rfl, ?_⟩
            rw [eeq, er, Bool.not_false, Bool.true_and, decide_eq_true rfl]
            exact q _
end
theorem all_mk {l : PySem.W.OpenLaw} {w : World} {K : PySem.W.Frag} {h : Heap} {mg : Str → Option Value} {fa : Addr} (X : K.In h) (G : h.Ns mainGlobals mg) (hfa : mg "law" = some (.ref fa))
    {od0 an0 : Option Addr} {sl0 : Array (Option Value)} {oc0 kV0 dc0 pm0 cd0 ct0 : Value} {f0 : Addr}
    {od1 an1 : Option Addr} {sl1 : Array (Option Value)} {oc1 kV1 dc1 pm1 cd1 ct1 : Value} {f1 : Addr}
    {od2 an2 : Option Addr} {sl2 : Array (Option Value)} {oc2 kV2 dc2 pm2 cd2 ct2 : Value} {f2 : Addr}
    {od3 an3 : Option Addr} {sl3 : Array (Option Value)} {oc3 kV3 dc3 pm3 cd3 ct3 : Value} {f3 : Addr}
    {od4 an4 : Option Addr} {sl4 : Array (Option Value)} {oc4 kV4 dc4 pm4 cd4 ct4 : Value} {f4 : Addr}
    {od5 an5 : Option Addr} {sl5 : Array (Option Value)} {oc5 kV5 dc5 pm5 cd5 ct5 : Value} {f5 : Addr}
    {od6 an6 : Option Addr} {sl6 : Array (Option Value)} {oc6 kV6 dc6 pm6 cd6 ct6 : Value} {f6 : Addr}
    {od7 an7 : Option Addr} {sl7 : Array (Option Value)} {oc7 kV7 dc7 pm7 cd7 ct7 : Value} {f7 : Addr}
    {od8 an8 : Option Addr} {sl8 : Array (Option Value)} {oc8 kV8 dc8 pm8 cd8 ct8 : Value} {f8 : Addr}
    {od9 an9 : Option Addr} {sl9 : Array (Option Value)} {oc9 kV9 dc9 pm9 cd9 ct9 : Value} {f9 : Addr}
    (a0 : PySem.W.nsIn K mainGlobals "value_key" = some (some (.ref f0))) (l0 : K.lookup f0 = some ⟨oc0, od0, .func (PySem.W.fnOf "value_key" "value_key" (defArgs s_value_key) (defBody s_value_key) (defScope s_value_key) .none kV0 dc0 pm0 an0 cd0 ct0), sl0⟩) (c0 : PySem.W.codeIn K cd0 "value_key" = true) (k0 : PySem.W.keepIn K (.ref f0) = true)
    (a1 : PySem.W.nsIn K mainGlobals "row_key" = some (some (.ref f1))) (l1 : K.lookup f1 = some ⟨oc1, od1, .func (PySem.W.fnOf "row_key" "row_key" (defArgs s_row_key) (defBody s_row_key) (defScope s_row_key) .none kV1 dc1 pm1 an1 cd1 ct1), sl1⟩) (c1 : PySem.W.codeIn K cd1 "row_key" = true) (k1 : PySem.W.keepIn K (.ref f1) = true)
    (a2 : PySem.W.nsIn K mainGlobals "_law_draw" = some (some (.ref f2))) (l2 : K.lookup f2 = some ⟨oc2, od2, .func (PySem.W.fnOf "_law_draw" "_law_draw" (defArgs s__law_draw) (defBody s__law_draw) (defScope s__law_draw) .none kV2 dc2 pm2 an2 cd2 ct2), sl2⟩) (c2 : PySem.W.codeIn K cd2 "_law_draw" = true) (k2 : PySem.W.keepIn K (.ref f2) = true)
    (a3 : PySem.W.nsIn K mainGlobals "_law_next" = some (some (.ref f3))) (l3 : K.lookup f3 = some ⟨oc3, od3, .func (PySem.W.fnOf "_law_next" "_law_next" (defArgs s__law_next) (defBody s__law_next) (defScope s__law_next) .none kV3 dc3 pm3 an3 cd3 ct3), sl3⟩) (c3 : PySem.W.codeIn K cd3 "_law_next" = true) (k3 : PySem.W.keepIn K (.ref f3) = true)
    (a4 : PySem.W.nsIn K mainGlobals "_law_value" = some (some (.ref f4))) (l4 : K.lookup f4 = some ⟨oc4, od4, .func (PySem.W.fnOf "_law_value" "_law_value" (defArgs s__law_value) (defBody s__law_value) (defScope s__law_value) .none kV4 dc4 pm4 an4 cd4 ct4), sl4⟩) (c4 : PySem.W.codeIn K cd4 "_law_value" = true) (k4 : PySem.W.keepIn K (.ref f4) = true)
    (a5 : PySem.W.nsIn K mainGlobals "_law_text_before" = some (some (.ref f5))) (l5 : K.lookup f5 = some ⟨oc5, od5, .func (PySem.W.fnOf "_law_text_before" "_law_text_before" (defArgs s__law_text_before) (defBody s__law_text_before) (defScope s__law_text_before) .none kV5 dc5 pm5 an5 cd5 ct5), sl5⟩) (c5 : PySem.W.codeIn K cd5 "_law_text_before" = true) (k5 : PySem.W.keepIn K (.ref f5) = true)
    (a6 : PySem.W.nsIn K mainGlobals "_law_before" = some (some (.ref f6))) (l6 : K.lookup f6 = some ⟨oc6, od6, .func (PySem.W.fnOf "_law_before" "_law_before" (defArgs s__law_before) (defBody s__law_before) (defScope s__law_before) .none kV6 dc6 pm6 an6 cd6 ct6), sl6⟩) (c6 : PySem.W.codeIn K cd6 "_law_before" = true) (k6 : PySem.W.keepIn K (.ref f6) = true)
    (a7 : PySem.W.nsIn K mainGlobals "_law_equal" = some (some (.ref f7))) (l7 : K.lookup f7 = some ⟨oc7, od7, .func (PySem.W.fnOf "_law_equal" "_law_equal" (defArgs s__law_equal) (defBody s__law_equal) (defScope s__law_equal) .none kV7 dc7 pm7 an7 cd7 ct7), sl7⟩) (c7 : PySem.W.codeIn K cd7 "_law_equal" = true) (k7 : PySem.W.keepIn K (.ref f7) = true)
    (a8 : PySem.W.nsIn K mainGlobals "_law_row_before" = some (some (.ref f8))) (l8 : K.lookup f8 = some ⟨oc8, od8, .func (PySem.W.fnOf "_law_row_before" "_law_row_before" (defArgs s__law_row_before) (defBody s__law_row_before) (defScope s__law_row_before) .none kV8 dc8 pm8 an8 cd8 ct8), sl8⟩) (c8 : PySem.W.codeIn K cd8 "_law_row_before" = true) (k8 : PySem.W.keepIn K (.ref f8) = true)
    (a9 : PySem.W.nsIn K mainGlobals "law" = some (some (.ref f9))) (l9 : K.lookup f9 = some ⟨oc9, od9, .func (PySem.W.fnOf "law" "law" (defArgs s_law) (defBody s_law) (defScope s_law) .none kV9 dc9 pm9 an9 cd9 ct9), sl9⟩) (c9 : PySem.W.codeIn K cd9 "law" = true) (k9 : PySem.W.keepIn K (.ref f9) = true)
    (z_abs : PySem.W.nsIn K mainGlobals "abs" = some none) (z_int : PySem.W.nsIn K mainGlobals "int" = some none) (z_isinstance : PySem.W.nsIn K mainGlobals "isinstance" = some none) (z_len : PySem.W.nsIn K mainGlobals "len" = some none) (z_list : PySem.W.nsIn K mainGlobals "list" = some none) (z_min : PySem.W.nsIn K mainGlobals "min" = some none) (z_range : PySem.W.nsIn K mainGlobals "range" = some none) (z_str : PySem.W.nsIn K mainGlobals "str" = some none) (z_tuple : PySem.W.nsIn K mainGlobals "tuple" = some none) :
    ∃ fd : FuncData, (∀ (s : Shared) (v : Value), BindsTo s fd ⟨[v], []⟩ [("script", v)]) ∧ ∀ base : Heap, K.In base → base.Ns mainGlobals mg → FnOk l.prog w K mg base CX0 5 fa fd ["script"] (sp_law K) := by
  have e := hfa.symm.trans (PySem.W.mg_of X G a9)
  cases e
  have F_value_key := fun_mk (st := s_value_key) l0 c0 k0
  have b_value_key := F_value_key.binds (ps := ["value"]) fun _ _ _ _ _ _ us hl => match us, hl with | [_], _ => rfl
  have g_value_key := PySem.W.mg_of X G a0
  have F_row_key := fun_mk (st := s_row_key) l1 c1 k1
  have b_row_key := F_row_key.binds (ps := ["row"]) fun _ _ _ _ _ _ us hl => match us, hl with | [_], _ => rfl
  have g_row_key := PySem.W.mg_of X G a1
  have F__law_draw := fun_mk (st := s__law_draw) l2 c2 k2
  have b__law_draw := F__law_draw.binds (ps := ["script"]) fun _ _ _ _ _ _ us hl => match us, hl with | [_], _ => rfl
  have g__law_draw := PySem.W.mg_of X G a2
  have F__law_next := fun_mk (st := s__law_next) l3 c3 k3
  have b__law_next := F__law_next.binds (ps := ["draw", "many"]) fun _ _ _ _ _ _ us hl => match us, hl with | [_, _], _ => rfl
  have g__law_next := PySem.W.mg_of X G a3
  have F__law_value := fun_mk (st := s__law_value) l4 c4 k4
  have b__law_value := F__law_value.binds (ps := ["draw"]) fun _ _ _ _ _ _ us hl => match us, hl with | [_], _ => rfl
  have g__law_value := PySem.W.mg_of X G a4
  have F__law_text_before := fun_mk (st := s__law_text_before) l5 c5 k5
  have b__law_text_before := F__law_text_before.binds (ps := ["first", "second"]) fun _ _ _ _ _ _ us hl => match us, hl with | [_, _], _ => rfl
  have g__law_text_before := PySem.W.mg_of X G a5
  have F__law_before := fun_mk (st := s__law_before) l6 c6 k6
  have b__law_before := F__law_before.binds (ps := ["first", "second"]) fun _ _ _ _ _ _ us hl => match us, hl with | [_, _], _ => rfl
  have g__law_before := PySem.W.mg_of X G a6
  have F__law_equal := fun_mk (st := s__law_equal) l7 c7 k7
  have b__law_equal := F__law_equal.binds (ps := ["first", "second"]) fun _ _ _ _ _ _ us hl => match us, hl with | [_, _], _ => rfl
  have g__law_equal := PySem.W.mg_of X G a7
  have F__law_row_before := fun_mk (st := s__law_row_before) l8 c8 k8
  have b__law_row_before := F__law_row_before.binds (ps := ["first", "second"]) fun _ _ _ _ _ _ us hl => match us, hl with | [_, _], _ => rfl
  have g__law_row_before := PySem.W.mg_of X G a8
  have F_law := fun_mk (st := s_law) l9 c9 k9
  have M : Mg mg := ⟨PySem.W.mg_none_of X G z_abs, PySem.W.mg_none_of X G z_int, PySem.W.mg_none_of X G z_isinstance, PySem.W.mg_none_of X G z_len, PySem.W.mg_none_of X G z_list, PySem.W.mg_none_of X G z_min, PySem.W.mg_none_of X G z_range, PySem.W.mg_none_of X G z_str, PySem.W.mg_none_of X G z_tuple⟩
  exact ⟨PySem.W.fnOf "law" "law" (defArgs s_law) (defBody s_law) (defScope s_law) .none kV9 dc9 pm9 an9 cd9 ct9, fun s v => .of_eq rfl, fun base _ _ => by
  have N := FnOk.cl (P := l.prog) (w := w) (base := base) (ok_next F__law_next M) F__law_next g__law_next b__law_next
  have B := FnOk.cl (P := l.prog) (w := w) (base := base) (ok_bf F__law_before M (FnOk.cl (ok_tb F__law_text_before M) F__law_text_before g__law_text_before b__law_text_before)) F__law_before g__law_before b__law_before
  have E := FnOk.cl (ok_eq F__law_equal B) F__law_equal g__law_equal b__law_equal
  have VK := FnOk.cl (P := l.prog) (w := w) (base := base) (ok_key F_value_key M) F_value_key g_value_key b_value_key
  exact ok_law F_law M (FnOk.cl (ok_draw F__law_draw M) F__law_draw g__law_draw b__law_draw) N (FnOk.cl (ok_value F__law_value M N) F__law_value g__law_value b__law_value) VK (FnOk.cl (ok_rkey F_row_key M VK) F_row_key g_row_key b_row_key) B E (FnOk.cl (ok_rb F__law_row_before M B E) F__law_row_before g__law_row_before b__law_row_before)⟩
end Lw
open PySem PySem.W PyProof.Rows
set_option maxHeartbeats 0 in
theorem PySem.Challenge.cw_lineworks_k50_values_are_ordered_holds : PySem.Challenge.rw_lineworks_k50_values_are_ordered.Holds := by
  w_on; o_law; k_head; (case hw => w_witness2)
  k_fill
  refine L2.walk_of (l := PySem.Challenge.rw_lineworks_k50_values_are_ordered) (n := 63) (k := 5) (x := "script") (CX := fun _ => L2.CX0) (sp := fun w => Lw.sp_law _) rfl (by decide) rfl ⟨rfl, by decide, by decide⟩ (fun w h Y => PySem.W.kIn_of Y) ?F (fun _ _ a ns hl _ hS => ⟨a, ns, rfl, hS, hl, fun _ => rfl⟩) (fun _ _ _ _ _ h => h)
  case F =>
    intro w mg fa h KX G hmg
    refine' Lw.all_mk KX G hmg ?a0 ?l0 ?c0 ?k0 ?a1 ?l1 ?c1 ?k1 ?a2 ?l2 ?c2 ?k2 ?a3 ?l3 ?c3 ?k3 ?a4 ?l4 ?c4 ?k4 ?a5 ?l5 ?c5 ?k5 ?a6 ?l6 ?c6 ?k6 ?a7 ?l7 ?c7 ?k7 ?a8 ?l8 ?c8 ?k8 ?a9 ?l9 ?c9 ?k9 ?z_abs ?z_int ?z_isinstance ?z_len ?z_list ?z_min ?z_range ?z_str ?z_tuple
    (case a0 => k_is); (case l0 => k_is); (case c0 => k_is); (case k0 => k_is)
    (case a1 => k_is); (case l1 => k_is); (case c1 => k_is); (case k1 => k_is)
    (case a2 => k_is); (case l2 => k_is); (case c2 => k_is); (case k2 => k_is)
    (case a3 => k_is); (case l3 => k_is); (case c3 => k_is); (case k3 => k_is)
    (case a4 => k_is); (case l4 => k_is); (case c4 => k_is); (case k4 => k_is)
    (case a5 => k_is); (case l5 => k_is); (case c5 => k_is); (case k5 => k_is)
    (case a6 => k_is); (case l6 => k_is); (case c6 => k_is); (case k6 => k_is)
    (case a7 => k_is); (case l7 => k_is); (case c7 => k_is); (case k7 => k_is)
    (case a8 => k_is); (case l8 => k_is); (case c8 => k_is); (case k8 => k_is)
    (case a9 => k_is); (case l9 => k_is); (case c9 => k_is); (case k9 => k_is)
    (case z_abs => k_is); (case z_int => k_is); (case z_isinstance => k_is); (case z_len => k_is); (case z_list => k_is); (case z_min => k_is); (case z_range => k_is); (case z_str => k_is); (case z_tuple => k_is)

