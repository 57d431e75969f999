import PyProof.Rows.All
import Wide.All
import OpenK.AllK
import Wide.FinOn
import KE.KStateDown
import HandS.Walk
import HandS.Conv
import HandS.Head0
import HandS.Head1
import HandS.Head2
import HandS.HeadEnd
import HandS.HeadHook1
import HandS.HeadHook2
import HandS.HeadHook3
import HandS.HeadHook4
import HandS.NestedK
import HandS.EndTab
import HandS.HeadWalk
import Lean
import KE.DataMinKey
import HandS.ForMost
import HandS.Exc
import HandS.TryOnly
import HandS.ExcOwn
import HandS.WordsExc
import HandS.Defaults
import HandS.Flow
import HandS.Style
import HandS.TupAny
import HandS.Zip
import HandS.IsInst
import HandS.RevRange
import HandS.SetKeys
import HandS.WrittenGet
import HandS.Strs
import HandS.SortKw
import HandS.Deep
import KE.GoesEnum
import KE.KExcSuper
import HandS.ExcInit
import HandS.ExcSuper
import HandS.Nested
import HandS.FStr
import KE.KExcIs
import HandS.ExcIs
import HandS.ExcField
import HandS.Lambda
import PySem.Challenge.RW_markscript_k14_works_texts_refused
set_option Elab.async false
set_option linter.all false
set_option maxRecDepth 100000
section
set_option maxRecDepth 100000
set_option maxHeartbeats 4000000
namespace MS
open PySem L2
def topS (i : Nat) : Stmt := PySem.Challenge.pw_markscript_k14_works_texts_refused.main.body.getD i (.Pass ⟨0, 0, 0, 0⟩)
abbrev s_is_step : Stmt := topS 14
/-- slots: 0 thing -/
theorem sc_is_step : FnScope ["thing"] ["thing"] (defScope s_is_step) := ⟨rfl, rfl, rfl, by decide +kernel, rfl, by decide +kernel, by decide +kernel⟩
abbrev s_check_work : Stmt := topS 15
/-- slots: 0 work, 1 went_wrong, 2 number, 3 step -/
theorem sc_check_work : FnScope ["work", "went_wrong", "number", "step"] ["work"] (defScope s_check_work) := ⟨rfl, rfl, rfl, by decide +kernel, rfl, by decide +kernel, by decide +kernel⟩
abbrev s_L_begun : Stmt := topS 19
/-- slots: 0 _law_script, 1 _law_stirred, 2 _law_cell -/
theorem sc_L_begun : FnScope ["_law_script", "_law_stirred", "_law_cell"] ["_law_script"] (defScope s_L_begun) := ⟨rfl, rfl, rfl, by decide +kernel, rfl, by decide +kernel, by decide +kernel⟩
abbrev s_L_take : Stmt := topS 20
/-- slots: 0 _law_box, 1 _law_many, 2 _law_number -/
theorem sc_L_take : FnScope ["_law_box", "_law_many", "_law_number"] ["_law_box", "_law_many"] (defScope s_L_take) := ⟨rfl, rfl, rfl, by decide +kernel, rfl, by decide +kernel, by decide +kernel⟩
abbrev s_L_alike : Stmt := topS 21
/-- slots: 0 _law_found, 1 _law_due, 2 _law_k -/
theorem sc_L_alike : FnScope ["_law_found", "_law_due_here", "_law_k"] ["_law_found", "_law_due_here"] (defScope s_L_alike) := ⟨rfl, rfl, rfl, by decide +kernel, rfl, by decide +kernel, by decide +kernel⟩
abbrev s_L_step : Stmt := topS 23
/-- slots: 0 _law_box, 1 _law_letters_here, 2 _law_was_wrong, 3 _law_sign -/
theorem sc_L_step : FnScope ["_law_box", "_law_letters", "_law_was_wrong", "_law_sign"] ["_law_box", "_law_letters", "_law_was_wrong"] (defScope s_L_step) := ⟨rfl, rfl, rfl, by decide +kernel, rfl, by decide +kernel, by decide +kernel⟩
abbrev s_L_work : Stmt := topS 24
/-- slots: 0 _law_box, 1 _law_letters_here, 2 _law_most, 3 _law_found, 4 _law_turn, 5 _law_step_here -/
theorem sc_L_work : FnScope ["_law_box", "_law_letters", "_law_most", "_law_found", "_law_turn", "_law_step_here"] ["_law_box", "_law_letters", "_law_most"] (defScope s_L_work) := ⟨rfl, rfl, rfl, by decide +kernel, rfl, by decide +kernel, by decide +kernel⟩
abbrev FnP (K : PySem.W.Frag) (x : Str) (st : Stmt) (f : Addr) (fd : FuncData) : Prop := FunD K x x (defArgs st) (defBody st) (defScope st) [] [] f fd
/-- a def of the text: where it stands, by which name it is called -/
structure Def (K : PySem.W.Frag) (mg : Str → Option Value) (x : Str) (st : Stmt) (ps : List Str) where
  f : Addr
  fd : FuncData
  F : FnP K x st f fd
  g : mg x = some (.ref f)
  b : Binds K fd ps []
theorem pcall {X : Cx} {x : Str} {st : Stmt} {ps : List Str} {k : Nat} {sp : Sp} {e : Expr} {es : List Expr} {t : TA} {p pos : Pos} (D : Def X.K X.mg x st ps) (G : FnOk X.prog X.w X.K X.mg X.base CX0 k D.f D.fd ps sp) (hr : Room k X.A)
    (ha : PA X (e :: es) t) (hg : Gl X x := by rfl) (hdb : (x == ("__debug__" : Str)) = false := by decide) (he : starEach (e :: es) X.env = (false, eval e X.env) :: starEach es X.env := by rfl) (hpl : (backTo pos (starEach es X.env)).any (·.1) = false := by rfl) : PE X (.Call (.Name x p) (e :: es) [] pos) (tCall sp [] E0 t) :=
  pe_call G hr hg D.g D.F.kp D.b .nil pass0 ha hdb he hpl

/-- THE RULE for a def that lets nothing out -/
theorem Def.ok {P : Program} {w : World} {K : PySem.W.Frag} {mg : Str → Option Value} {base : Heap} {x : Str} {st : Stmt} {ps N : List Str} {k : Nat} {sp : Sp} (D : Def K mg x st ps) (S : FnScope N ps (defScope st)) (len : ∀ vs H Q E, sp vs H Q E → vs.length = ps.length)
    (hbody : ∀ (cdv : Value) (A : Around) (outer : List Env) (s : Shared) (H : Hp) (vs : List V) (Q : VK) (E : XK), Room k (A.deeper (PyProof.Rows.envOfC x (defScope st) s.heap.objs.size D.f cdv)) → sp vs H Q E →
      ∃ t, PSs (cxOf CX0 P w K mg base N x (defScope st) D.f cdv A outer s H E).nox (defBody st) t ∧ t { nx := fun _ H' => Q .non H', rt := Q } (start N vs) H) : FnOk P w K mg base CX0 (k + 1) D.f D.fd ps sp :=
  D.F.ok S len fun cdv A outer s H vs Q E hr hsp => by
    obtain ⟨t, h, q⟩ := hbody cdv A outer s H vs Q E hr hsp
    exact ⟨t, h.nox, q⟩

/-! ### what stays -/
/-- all but what stands at these addresses is as it was -/
def Keep (S : List Addr) (H H' : Hp) : Prop := ∀ a o, H a = some o → a ∉ S → H' a = some o
theorem Keep.refl (S : List Addr) (H : Hp) : Keep S H H := fun _ _ h _ => h
theorem Keep.trans {S : List Addr} {H H1 H2 : Hp} (a : Keep S H H1) (b : Keep S H1 H2) : Keep S H H2 := fun c o h n => b c o (a c o h n) n
theorem Keep.mono {S T : List Addr} {H H' : Hp} (a : Keep S H H') (h : ∀ x ∈ S, x ∈ T) : Keep T H H' := fun c o e n => a c o e fun z => n (h c z)
theorem Keep.same {H H' : Hp} (a : Keep [] H H') : Same H H' := fun b o h => a b o h (by simp)
theorem Same.keep {S : List Addr} {H H' : Hp} (a : Same H H') : Keep S H H' := fun b o h _ => a b o h
theorem Keep.new {S : List Addr} {H : Hp} {p : Addr} {o : HO} (h : H p = none) : Keep S H (upd H p o) := fun b u q _ => by rw [upd_ne (ne_of_none q h)]; exact q
theorem Same.new {H : Hp} {p : Addr} {o : HO} (h : H p = none) : Same H (upd H p o) := fun b u q => by rw [upd_ne (ne_of_none q h)]; exact q
theorem Keep.put {S : List Addr} {H : Hp} {p : Addr} {o : HO} (h : p ∈ S) : Keep S H (upd H p o) := fun b u q n => by rw [upd_ne (fun z => n (by rw [z]; exact h))]; exact q
theorem Keep.free {S : List Addr} {H H' : Hp} (e : Keep S H H') {l : Addr} (h : H' l = none) (hS : ∀ x ∈ S, H x ≠ none → H' x ≠ none) : H l = none := by
  cases q : H l with
  | none => rfl
  | some o =>
    by_cases m : l ∈ S
    · exact absurd h (hS l m (by rw [q]; exact fun z => nomatch z))
    · rw [e l o q m] at h; cases h

/-! ### data that may be compared -/
def ShN (n : Nat) (d : PyData) : Prop := d.canLay0 = true ∧ d.depth ≤ n
def ShAll (n : Nat) (ds : List PyData) : Prop := PyData.canLayAll0 ds = true ∧ PyData.depthAll ds ≤ n
theorem ShAll.nil {n : Nat} : ShAll n [] := ⟨rfl, Nat.zero_le _⟩
theorem ShAll.cons {n : Nat} {d : PyData} {ds : List PyData} (h : ShN n d) (r : ShAll n ds) : ShAll n (d :: ds) :=
  ⟨by rw [PyData.canLayAll0, h.1, r.1]; rfl, by rw [PyData.depthAll]; exact Nat.max_le.mpr ⟨h.2, r.2⟩⟩
theorem ShN.int {n : Nat} (i : Int) : ShN n (.int i) := ⟨by rw [PyData.canLay0], by rw [PyData.depth]; exact Nat.zero_le _⟩
theorem ShN.str {n : Nat} {x : Str} (h : PyData.strOk x = true) : ShN n (.str x) := ⟨by rw [PyData.canLay0]; exact h, by rw [PyData.depth]; exact Nat.zero_le _⟩
theorem ShN.lst {n : Nat} {ds : List PyData} (h : ShAll n ds) : ShN (n + 1) (.list ds) := ⟨by rw [PyData.canLay0]; exact h.1, by rw [PyData.depth]; exact Nat.succ_le_succ h.2⟩
theorem ShN.tup {n : Nat} {ds : List PyData} (h : ShAll n ds) : ShN (n + 1) (.tuple ds) := ⟨by rw [PyData.canLay0]; exact h.1, by rw [PyData.depth]; exact Nat.succ_le_succ h.2⟩
theorem ShN.mono {n m : Nat} {d : PyData} (h : ShN n d) (hm : n ≤ m) : ShN m d := ⟨h.1, Nat.le_trans h.2 hm⟩
theorem ShN.ok {n : Nat} {d : PyData} (h : ShN n d) (hn : n ≤ 64) : SeqAt.shaped d = true := by
  unfold SeqAt.shaped
  rw [h.1, decide_eq_true (Nat.le_trans h.2 hn)]
  rfl
theorem ShAll.of {n : Nat} : ∀ {ds : List PyData}, (∀ d ∈ ds, ShN n d) → ShAll n ds
  | [], _ => .nil
  | d :: r, h => .cons (h d List.mem_cons_self) (ShAll.of fun e he => h e (List.mem_cons_of_mem _ he))
theorem sh_ints (n : Nat) (ns : List Int) : ShAll n (ns.map PyData.int) := ShAll.of fun d h => by
  obtain ⟨i, _, rfl⟩ := List.mem_map.mp h
  exact .int i
/-! ### the box of draws: the script's numbers left, and the number behind them -/
def Box (H : Hp) (b l : Addr) : Prop := b ≠ l ∧ (∃ n : Int, H b = some (.lst [.ref l, .int n])) ∧ ∃ ns : List Int, H l = some (.lst (ns.map V.int))
theorem Box.keep {S : List Addr} {H H' : Hp} {b l : Addr} (h : Box H b l) (k : Keep S H H') (hb : b ∉ S) (hl : l ∉ S) : Box H' b l := by
  obtain ⟨ne, ⟨n, e1⟩, ns, e2⟩ := h
  exact ⟨ne, ⟨n, k _ _ e1 hb⟩, ns, k _ _ e2 hl⟩
def spTake : Sp := fun vs H Q _ => ∃ (b l : Addr) (m : Int), vs = [.ref b, .int m] ∧ 0 < m ∧ m < 1073741824 ∧ Box H b l ∧
  ∀ (r : Int) (H' : Hp), 0 ≤ r → r < m → Box H' b l → Keep [b, l] H H' → Q (.int r) H'
section
variable {P : Program} {w : World} {K : PySem.W.Frag} {mg : Str → Option Value} {base : Heap}
theorem dp_ints {K : PySem.W.Frag} {H : Hp} : ∀ ns : List Int, DpAll K H (ns.map V.int) (ns.map PyData.int)
  | [] => .nil
  | n :: r => .cons (.int n) (dp_ints r)
theorem at0 {x : V} {xs : List V} : atI (x :: xs) 0 = some x := at_of rfl rfl
theorem at1 {x y : V} {xs : List V} : atI (x :: y :: xs) 1 = some y := at_of rfl rfl
theorem at2 {x y z : V} {xs : List V} : atI (x :: y :: z :: xs) 2 = some z := at_of rfl rfl
theorem ix0 {n : Nat} : ixN (n + 1) 0 = some 0 := by
  unfold ixN
  rw [if_pos (by omega), if_pos (by omega)]
  rfl
theorem seq0 {n : Nat} : seqIndex? 0 (n + 1) = some 0 := (ixN_seq ix0).1
theorem ok_take (D : Def K mg "_law_take" s_L_take ["_law_box", "_law_many"]) : FnOk P w K mg base CX0 1 D.f D.fd ["_law_box", "_law_many"] spTake := by
  refine D.ok sc_L_take (fun vs H Q E h => ?_) (fun cdv A outer s H vs Q E hr h => ?_)
  · obtain ⟨b, l, m, rfl, _⟩ := h
    rfl
  obtain ⟨b, l, m, rfl, m0, m1, ⟨nbl, ⟨n, eb⟩, ns, el⟩, q⟩ := h
  refine ⟨_, pss_cons (ps_if (pt_cmpR (op_eqD hr.units) (pe_ix ix_list (pv 0) pe_int (fun _ _ => rfl)) (pe_lst pa_nil) (nomark _))
      (pss_cons (ps_asg (pe_op op_mod (pe_op op_mul (pe_ix ix_list (pv 0) pe_int (fun _ _ => rfl)) pe_int) pe_int) (pg_sub (pv 0) pe_int set_list))
        (pss_one (ps_ret (pe_op op_mod (pe_op op_fdiv (pe_ix ix_list (pv 0) pe_int (fun _ _ => rfl)) pe_int) (pv 1))))) pss_nil)
    (pss_cons (ps_set (i := 2) sc_L_take.nd rfl (Or.inl rfl) (pe_ix ix_list (pe_ix ix_list (pv 0) pe_int (fun _ _ => rfl)) pe_int (fun _ _ => rfl)))
    (pss_cons (ps_asg (pe_op op_fdiv (pv 2) (pv 1)) (pg_sub (pe_ix ix_list (pv 0) pe_int (fun _ _ => rfl)) pe_int set_list))
    (pss_cons (ps_if (PW.pt (pw_or (pt_cmpR op_eq (pe_ix ix_list (pe_ix ix_list (pv 0) pe_int (fun _ _ => rfl)) pe_int (fun _ _ => rfl)) pe_int (nomark _))
        (pw_or1 (pt_cmpR op_eq (pe_ix ix_list (pe_ix ix_list (pv 0) pe_int (fun _ _ => rfl)) pe_int (fun _ _ => rfl)) (pe_un un_neg pe_int) (nomark _)))))
        (pss_one (ps_expr (pe_bm PySem.F.plainAttrs_list PySem.F.slot_list_pop PySem.F.type_list_pop mt_popAt (pe_ix ix_list (pv 0) pe_int (fun _ _ => rfl)) (pa_cons pe_int pa_nil)))) pss_nil)
    (pss_one (ps_ret (pe_op op_mod (pv 2) (pv 1))))))), ?_⟩
  refine ⟨_, rfl, b, _, 0, .ref l, rfl, rfl, SqL.of eb, rfl, ?_⟩
  refine ⟨Nat.zero_le _, fun p hp => ?_⟩
  have nlp : l ≠ p := ne_of_none el hp
  have nbp : b ≠ p := ne_of_none eb hp
  have eb1 : upd H p (.lst []) b = some (.lst [.ref l, .int n]) := by rw [upd_ne nbp]; exact eb
  have el1 : upd H p (.lst []) l = some (.lst (ns.map V.int)) := by rw [upd_ne nlp]; exact el
  have k1 : Keep [b, l] H (upd H p (.lst [])) := Keep.new hp
  refine ⟨.list (ns.map PyData.int), .list [], .lst (SqL.of el1) (dp_ints ns), .lst (SqL.of upd_same) .nil, ?_, rfl, ?_⟩
  · exact (ShN.lst (sh_ints 0 ns)).ok (by decide)
  refine ⟨_, rfl, ?_⟩
  refine ite2 (fun c => ?_) (fun c => ?_)
  · refine ⟨_, rfl, b, _, 1, .int n, rfl, rfl, SqL.of eb1, rfl, _, _, rfl, rfl, .inr ⟨by decide, by decide⟩, _, _, rfl, rfl, (by show (0 : Int) < 2147483647; decide), ?_⟩
    refine ⟨_, rfl, b, _, 1, 1, rfl, rfl, eb1, rfl, ?_⟩
    refine ⟨_, rfl, b, _, 1, _, rfl, rfl, SqL.of upd_same, rfl, _, _, rfl, rfl, ⟨by decide, by decide⟩, _, rfl, _, _, rfl, rfl, m0, ?_⟩
    refine q _ _ (Int.emod_nonneg _ (by omega)) (Int.emod_lt_of_pos _ m0) ⟨nbl, ⟨_, upd_same⟩, ns, ?_⟩ (k1.trans (Keep.put (by simp)))
    rw [upd_ne nbl.symm]
    exact el1
  · have hne : ns ≠ [] := fun z => c (by rw [z]; rfl)
    obtain ⟨z, r, rfl⟩ : ∃ z r, ns = z :: r := by
      cases ns with
      | nil => exact absurd rfl hne
      | cons z r => exact ⟨z, r, rfl⟩
    refine ⟨_, rfl, b, _, 0, .ref l, rfl, rfl, SqL.of eb1, rfl, l, _, 0, .int z, rfl, rfl, SqL.of el1, at0, ?_⟩
    refine ⟨_, rfl, _, rfl, _, _, rfl, rfl, ⟨m0, m1⟩, _, rfl, b, _, 0, .ref l, rfl, rfl, SqL.of eb1, rfl, l, _, 0, 0, rfl, rfl, el1, ix0, ?_⟩
    have eb2 : ∀ o, upd (upd H p (.lst [])) l o b = some (.lst [.ref l, .int n]) := fun o => by rw [upd_ne nbl]; exact eb1
    refine ⟨_, rfl, b, _, 0, .ref l, rfl, rfl, SqL.of (eb2 _), rfl, l, _, 0, .int (z / m), rfl, rfl, SqL.of upd_same, at0, rfl, _, rfl, ?_⟩
    have fin : ∀ (H' : Hp), Box H' b l → Keep [b, l] H H' → Q (.int (z % m)) H' := fun H' B k => q _ _ (Int.emod_nonneg _ (by omega)) (Int.emod_lt_of_pos _ m0) B k
    have k2 : ∀ o, Keep [b, l] H (upd (upd H p (.lst [])) l o) := fun o => k1.trans (Keep.put (by simp))
    refine ite2 (fun c2 => ?_) (fun c2 => ?_)
    · refine iteT ⟨_, rfl, b, _, 0, .ref l, rfl, rfl, SqL.of (eb2 _), rfl, .inl ⟨rfl, _, SqL.of upd_same⟩, l, _, 0, 0, _, rfl, rfl, upd_same, by decide, by decide, seq0, rfl, ?_⟩
      refine ⟨_, rfl, _, rfl, _, _, rfl, rfl, m0, fin _ ⟨nbl, ⟨n, by rw [upd_ne nbl]; exact eb2 _⟩, r, upd_same⟩ ((k2 _).trans (Keep.put (by simp)))⟩
    · refine ⟨_, rfl, b, _, 0, .ref l, rfl, rfl, SqL.of (eb2 _), rfl, l, _, 0, .int (z / m), rfl, rfl, SqL.of upd_same, at0, _, rfl, rfl, _, rfl, ?_⟩
      by_cases c3 : decide (V.int (z / m) = V.int (-1)) = true
      · show (if decide (V.int (z / m) = V.int (-1)) = true then _ else _)
        rw [if_pos c3]
        refine ⟨_, rfl, b, _, 0, .ref l, rfl, rfl, SqL.of (eb2 _), rfl, .inl ⟨rfl, _, SqL.of upd_same⟩, l, _, 0, 0, _, rfl, rfl, upd_same, by decide, by decide, seq0, rfl, ?_⟩
        refine ⟨_, rfl, _, rfl, _, _, rfl, rfl, m0, fin _ ⟨nbl, ⟨n, by rw [upd_ne nbl]; exact eb2 _⟩, r, upd_same⟩ ((k2 _).trans (Keep.put (by simp)))⟩
      · show (if decide (V.int (z / m) = V.int (-1)) = true then _ else _)
        rw [if_neg c3]
        refine ⟨_, rfl, _, rfl, _, _, rfl, rfl, m0, fin _ ⟨nbl, ⟨n, eb2 _⟩, (z / m) :: r, upd_same⟩ (k2 _)⟩
end
end MS
end
section
set_option maxRecDepth 100000
set_option maxHeartbeats 4000000
namespace MS
open PySem L2
/-! ### words, steps -/
def wordsL : List Str := ["a", "b", "c", "d", "e", "f", "g", "h"]
def marksL : List Str := ["r", "w", "c"]
def IsW (x : Str) : Prop := x ∈ wordsL
def IsM (x : Str) : Prop := x ∈ marksL
theorem IsW.len {x : Str} (h : IsW x) : x.length = 1 := by
  have h' : x ∈ wordsL := h
  have q : ∀ y ∈ wordsL, y.length = 1 := by decide +kernel
  exact q x h'
theorem IsM.len {x : Str} (h : IsM x) : x.length = 1 := by
  have h' : x ∈ marksL := h
  have q : ∀ y ∈ marksL, y.length = 1 := by decide +kernel
  exact q x h'
theorem IsW.ok {x : Str} (h : IsW x) : PyData.strOk x = true := by
  have h' : x ∈ wordsL := h
  have q : ∀ y ∈ wordsL, PyData.strOk y = true := by decide +kernel
  exact q x h'
/-- a step: its word, how it was done -/
abbrev StepT := Str × Str
def stepS (p : StepT) : Str := p.1 ++ p.2
def IsStep (p : StepT) : Prop := IsW p.1 ∧ IsM p.2
theorem step_look : ∀ x ∈ wordsL, ∀ m ∈ marksL, (∃ c, atI (stepS (x, m)).cps.toList 0 = some c ∧ (⟨#[c]⟩ : Str) = x) ∧ (∃ c, atI (stepS (x, m)).cps.toList 1 = some c ∧ (⟨#[c]⟩ : Str) = m) ∧ (stepS (x, m)).length = 2 ∧ PyData.strOk (stepS (x, m)) = true := by
  intro x hx m hm
  simp only [wordsL, marksL, List.mem_cons, List.not_mem_nil, or_false] at hx hm
  rcases hx with rfl | rfl | rfl | rfl | rfl | rfl | rfl | rfl <;> rcases hm with rfl | rfl | rfl <;> exact ⟨⟨_, rfl, by decide +kernel⟩, ⟨_, rfl, by decide +kernel⟩, by decide +kernel, by decide +kernel⟩
theorem IsStep.at0 {p : StepT} (h : IsStep p) : ∃ c, atI (stepS p).cps.toList 0 = some c ∧ (⟨#[c]⟩ : Str) = p.1 := (step_look p.1 h.1 p.2 h.2).1
theorem IsStep.at1 {p : StepT} (h : IsStep p) : ∃ c, atI (stepS p).cps.toList 1 = some c ∧ (⟨#[c]⟩ : Str) = p.2 := (step_look p.1 h.1 p.2 h.2).2.1
theorem IsStep.len {p : StepT} (h : IsStep p) : (stepS p).length = 2 := (step_look p.1 h.1 p.2 h.2).2.2.1
theorem IsStep.ok {p : StepT} (h : IsStep p) : PyData.strOk (stepS p) = true := (step_look p.1 h.1 p.2 h.2).2.2.2
/-- steps of which none is carried on without a wrong one ahead; w: there was one -/
def WorkFrom : Bool → List StepT → Prop
  | _, [] => True
  | w, p :: r => IsStep p ∧ (p.2 = "c" → w = true) ∧ WorkFrom (w || p.2 == "w") r
def WorkOk (ws : List StepT) : Prop := WorkFrom false ws ∧ ws.length ≤ 12
def anyWrong (ws : List StepT) : Bool := ws.any fun p => p.2 == "w"
theorem WorkFrom.snoc : ∀ {ws : List StepT} {w : Bool} {p : StepT}, WorkFrom w ws → IsStep p → (p.2 = "c" → (w || anyWrong ws) = true) → WorkFrom w (ws ++ [p])
  | [], w, p, _, hp, hc => ⟨hp, fun e => by
      have z := hc e
      rw [show anyWrong [] = false from rfl, Bool.or_false] at z
      exact z, trivial⟩
  | q :: r, w, p, h, hp, hc => ⟨h.1, h.2.1, WorkFrom.snoc h.2.2 hp fun e => by
      have z := hc e
      rw [show anyWrong (q :: r) = ((q.2 == "w") || anyWrong r) from rfl] at z
      rw [Bool.or_assoc]
      exact z⟩
theorem WorkFrom.all : ∀ {ws : List StepT} {w : Bool}, WorkFrom w ws → ∀ p ∈ ws, IsStep p
  | [], _, _, p, h => by cases h
  | q :: r, _, h, p, hp => by
    rcases List.mem_cons.mp hp with rfl | hp
    · exact h.1
    · exact WorkFrom.all h.2.2 p hp
def stepsV (ws : List StepT) : List V := ws.map fun p => V.str (stepS p)

/-! ### list(text) -/
def rListS : List V → Hp → VK → Prop := fun xs H Q => ∃ x : Str, xs = [.str x] ∧ x.cps.size ≤ sizeLine ∧ ∀ p, H p = none → Q (.ref p) (upd H p (.lst (x.cps.toList.map fun c => V.str ⟨#[c]⟩)))
theorem cr_listStr {X : Cx} (hc : X.calm = true) : CallR X (.type "list") rListS := by
  intro pins s σ H xs us Q I r h
  obtain ⟨x, rfl, hz, q⟩ := h
  obtain ⟨u, rfl, ru⟩ := vals1 r
  obtain ⟨t, rfl⟩ := ru
  refine call_list_str (hn := hz) (I.ok.hd hc) x t fun h' tk acc c' hk e hi => ?_
  refine (fun (hv : Vals (x.cps.toList.map fun c => V.str ⟨#[c]⟩) acc.toList) => ?_) ?_
  · exact ⟨.ref s.heap.objs.size, upd H s.heap.objs.size (.lst (x.cps.toList.map fun c => V.str ⟨#[c]⟩)), I.laid hk (Nat.le_refl _) ⟨by rw [List.length_map, Array.length_toList]; exact hz, acc.toList, c', hv, by rw [Array.toArray_toList]; exact e⟩, rfl, q _ (I.hok.fresh (Nat.le_refl _))⟩
  refine vals_of_idx _ _ (by rw [List.length_map, Array.length_toList, Array.length_toList]; exact hi.1) fun j u hj => ?_
  obtain ⟨c, t', hc, rfl⟩ := hi.2 j u (by rw [← Array.getElem?_toList]; exact hj)
  exact ⟨.str ⟨#[c]⟩, by simp [hc], ⟨_, rfl⟩⟩
theorem letters_of : (("abcdefgh" : Str).cps.toList.map fun c => V.str ⟨#[c]⟩) = wordsL.map V.str := by decide +kernel

/-! ### the draws' begin -/
def spBegun (K : PySem.W.Frag) : Sp := fun vs H Q _ => ∃ (a : Addr) (ns : List Int), vs = [.ref a] ∧ SqL K H a (ns.map V.int) ∧ ns.length ≤ 63 ∧
  ∀ (b l : Addr) (H' : Hp), H b = none → H l = none → Box H' b l → Same H H' → Q (.ref b) H'
section
variable {P : Program} {w : World} {K : PySem.W.Frag} {mg : Str → Option Value} {base : Heap}
theorem ok_begun (D : Def K mg "_law_begun" s_L_begun ["_law_script"]) (ml : mg "len" = none) (mli : mg "list" = none) (mi : mg "int" = none) : FnOk P w K mg base CX0 1 D.f D.fd ["_law_script"] (spBegun K) := by
  refine D.ok sc_L_begun (fun vs H Q E h => ?_) (fun cdv A outer s H vs Q E hr h => ?_)
  · obtain ⟨a, ns, rfl, _⟩ := h
    rfl
  obtain ⟨a, ns, rfl, hS, hlen, q⟩ := h
  refine ⟨_, pss_cons (ps_set (i := 1) sc_L_begun.nd rfl (Or.inl rfl) pe_int)
    (pss_cons (ps_for PassesOwn.never rfl (pi_list (pv 0)) (pg_name (i := 2) sc_L_begun.nd rfl (Or.inl rfl))
      (pss_one (ps_set (i := 1) sc_L_begun.nd rfl (Or.inl rfl) (pe_op op_mod (pe_op op_add (pe_op op_add (pe_op op_mul (pv 1) pe_int) (pe_op op_mul (pv 2) pe_int)) pe_int) pe_int))))
    (pss_one (ps_ret (pe_lst (pa_cons (pe_callTy call_list_of rfl mli (by decide +kernel) (pa_cons (pv 0) pa_nil))
      (pa_cons (pe_op op_mul (pv 1) (pe_callTy call_int1 rfl mi (by decide +kernel) (pa_cons (pe_cmpR op_gt (pe_callB call_len_seq rfl ml PySem.boot_len (pa_cons (pv 0) pa_nil)) pe_int (nomark _)) pa_nil))) pa_nil)))))), ?_⟩
  refine ⟨_, rfl, a, rfl, ⟨_, hS⟩, for_list (K := K) (a := a) (xs := ns.map V.int) (fun i σ H' => ∃ (z : Int) (v : Option V), σ = [some (.ref a), some (.int z), v] ∧ H' = H)
    ⟨0, none, rfl, rfl⟩ (fun i σ H' _ ⟨_, _, _, e⟩ => by rw [e]; exact hS) ?_ ?_⟩
  · rintro i y σ H' hi ⟨z, v, rfl, rfl⟩
    obtain ⟨u, rfl⟩ : ∃ u, y = V.int u := by
      obtain ⟨u, _, e⟩ := List.mem_map.mp (List.mem_of_getElem? hi)
      exact ⟨u, e.symm⟩
    exact ⟨_, rfl, _, _, rfl, rfl, .inr ⟨by decide, by decide⟩, _, rfl, _, _, rfl, rfl, .inr ⟨by decide, by decide⟩, _, _, rfl, rfl, _, _, rfl, rfl, _, _, rfl, rfl, (by show (0 : Int) < 2147483647; decide), _, _, rfl, rfl⟩
  · rintro σ H' ⟨z, v, rfl, rfl⟩
    refine ⟨_, rfl, a, _, rfl, .inl hS, fun l hl => ?_⟩
    have s1 : Same H' (upd H' l (.lst (ns.map V.int))) := Same.new hl
    refine ⟨_, rfl, _, rfl, a, _, rfl, .inl (s1.seq hS), _, _, rfl, rfl, .inr ⟨_, rfl, ?_⟩⟩
    refine ⟨_, _, rfl, rfl, .inr ?_, ?_⟩
    · split <;> exact ⟨by decide, by decide⟩
    refine ⟨(by show 2 ≤ sizeLine; decide), fun b hb => ?_⟩
    have nb : l ≠ b := ne_of_none upd_same hb
    have hb0 : H' b = none := s1.free hb
    refine q b l _ hb0 hl ⟨nb.symm, ⟨_, upd_same⟩, ns, by rw [upd_ne nb]; exact upd_same⟩ (s1.trans (Same.new hb))
/-! ### the letters -/
def spLetters : Sp := fun vs H Q _ => ∃ (b l : Addr), vs = [.ref b] ∧ Box H b l ∧
  ∀ (p : Addr) (F : List Str) (H' : Hp), H p = none → H' p = some (.lst (F.map V.str)) → (∀ x ∈ F, IsW x) → 0 < F.length → F.length ≤ 8 → Box H' b l → Keep [b, l] H H' → Q (.ref p) H'
end
end MS
end
section
set_option maxRecDepth 100000
set_option maxHeartbeats 4000000
namespace MS
open PySem L2
theorem mem_eraseIdx {α : Type} {l : List α} {k : Nat} {x : α} (h : x ∈ l.eraseIdx k) : x ∈ l := List.mem_of_mem_eraseIdx h
theorem map_erase {α β : Type} (f : α → β) : ∀ (l : List α) (k : Nat), (l.map f).eraseIdx k = (l.eraseIdx k).map f
  | [], _ => rfl
  | _ :: _, 0 => rfl
  | a :: r, k + 1 => congrArg (f a :: ·) (map_erase f r k)
theorem seq_of {n : Nat} {i : Int} (h0 : 0 ≤ i) (h1 : i < n) : seqIndex? i n = some i.toNat := by
  have e : ixN n i = some i.toNat := by
    unfold ixN
    rw [if_pos h0, if_pos h1]
  exact (ixN_seq e).1
theorem atI_of {α : Type} {l : List α} {i : Int} {x : α} (h0 : 0 ≤ i) (h : l[i.toNat]? = some x) : atI l i = some x := by
  have e : i = ((i.toNat : Nat) : Int) := by omega
  rw [e]
  exact atI_nat h
theorem get_map {α β : Type} (f : α → β) (l : List α) {i : Nat} (h : i < l.length) : (l.map f)[i]? = some (f (l[i]'h)) := by
  rw [List.getElem?_map, List.getElem?_eq_getElem h]
  rfl
theorem Keep.newer {S : List Addr} {H H1 : Hp} {p : Addr} {o : HO} (k : Keep S H H1) (h : H p = none) : Keep S H (upd H1 p o) := fun b u q n => by
  rw [upd_ne (ne_of_none q h)]
  exact k b u q n
theorem Box.ne_new {H : Hp} {b l x : Addr} (B : Box H b l) (hx : H x = none) : x ≠ b ∧ x ≠ l := by
  obtain ⟨_, ⟨n, e1⟩, ns, e2⟩ := B
  exact ⟨(ne_of_none e1 hx).symm, (ne_of_none e2 hx).symm⟩
theorem Box.nin {H : Hp} {b l x : Addr} (B : Box H b l) (hx : H x = none) : x ∉ [b, l] := fun hm => by
  rcases List.mem_cons.mp hm with e | hm
  · exact (B.ne_new hx).1 e
  · exact (B.ne_new hx).2 (List.mem_singleton.mp hm)
theorem Box.put {H : Hp} {b l x : Addr} {o : HO} (B : Box H b l) (hb : x ≠ b) (hl : x ≠ l) : Box (upd H x o) b l := by
  obtain ⟨ne, ⟨n, e1⟩, ns, e2⟩ := B
  exact ⟨ne, ⟨n, by rw [upd_ne hb.symm]; exact e1⟩, ns, by rw [upd_ne hl.symm]; exact e2⟩
theorem Box.new {H : Hp} {b l x : Addr} {o : HO} (B : Box H b l) (hx : H x = none) : Box (upd H x o) b l := B.put (B.ne_new hx).1 (B.ne_new hx).2
theorem sz2 : 2 ≤ sizeLine := by decide
theorem szN {n : Nat} (h : n ≤ 1000) : n ≤ sizeLine := Nat.le_of_lt (small1000 h)
/-- one of two numbers, by a draw -/
theorem pick2 {x y r m : Int} (hx : 0 ≤ x ∧ x < m) (hy : 0 ≤ y ∧ y < m) (h0 : 0 ≤ r) (h1 : r < 2) : ∃ z, atI [V.int x, V.int y] r = some (.int z) ∧ 0 ≤ z ∧ z < m := by
  have e : r = 0 ∨ r = 1 := by omega
  rcases e with rfl | rfl
  · exact ⟨x, at0, hx⟩
  · exact ⟨y, at1, hy⟩
section
variable {P : Program} {w : World} {K : PySem.W.Frag} {mg : Str → Option Value} {base : Heap}
end
end MS
end
section
set_option maxRecDepth 100000
set_option maxHeartbeats 4000000
namespace MS
open PySem L2
def spStep : Sp := fun vs H Q _ => ∃ (b l L : Addr) (F : List Str) (c : Bool), vs = [.ref b, .ref L, .bl c] ∧ Box H b l ∧ L ≠ b ∧ L ≠ l ∧ H L = some (.lst (F.map V.str)) ∧ (∀ x ∈ F, IsW x) ∧ 0 < F.length ∧ F.length ≤ 8 ∧
  ∀ (p : StepT) (H' : Hp), IsStep p → (p.2 = "c" → c = true) → Box H' b l → Keep [b, l] H H' → Q (.str (stepS p)) H'
theorem pick_mark {r : Int} (h0 : 0 ≤ r) (h1 : r < 4) : ∃ m, atI [V.str "r", V.str "w", V.str "r", V.str "c"] r = some (.str m) ∧ IsM m := by
  have e : r = 0 ∨ r = 1 ∨ r = 2 ∨ r = 3 := by omega
  rcases e with rfl | rfl | rfl | rfl
  · exact ⟨"r", at0, by unfold IsM; decide +kernel⟩
  · exact ⟨"w", at1, by unfold IsM; decide +kernel⟩
  · exact ⟨"r", at2, by unfold IsM; decide +kernel⟩
  · exact ⟨"c", at_of (j := 3) rfl rfl, by unfold IsM; decide +kernel⟩
theorem pick_word {F : List Str} {r : Int} (w1 : ∀ x ∈ F, IsW x) (h0 : 0 ≤ r) (h1 : r < ((F.map V.str).length : Nat)) : ∃ x, atI (F.map V.str) r = some (.str x) ∧ IsW x ∧ x ∈ F := by
  rw [List.length_map] at h1
  have hr : r.toNat < F.length := by omega
  exact ⟨F[r.toNat]'hr, atI_of h0 (get_map V.str F hr), w1 _ (List.getElem_mem hr), List.getElem_mem hr⟩
section
variable {P : Program} {w : World} {K : PySem.W.Frag} {mg : Str → Option Value} {base : Heap}
theorem ok_step (D : Def K mg "_law_step" s_L_step ["_law_box", "_law_letters", "_law_was_wrong"]) (DT : Def K mg "_law_take" s_L_take ["_law_box", "_law_many"]) (ml : mg "len" = none) : FnOk P w K mg base CX0 2 D.f D.fd ["_law_box", "_law_letters", "_law_was_wrong"] spStep := by
  have GT : FnOk P w K mg base CX0 1 DT.f DT.fd ["_law_box", "_law_many"] spTake := ok_take DT
  refine D.ok sc_L_step (fun vs H Q E h => ?_) (fun cdv A outer s H vs Q E hr h => ?_)
  · obtain ⟨b, l, L, F, c, rfl, _⟩ := h
    rfl
  obtain ⟨b, l, L, F, c, rfl, B, nb, nl, eL, w1, l0, l1, q⟩ := h
  refine ⟨_, pss_cons (ps_set (i := 3) sc_L_step.nd rfl (Or.inl rfl) (pe_ix ix_list (pe_lst (pa_cons pe_str (pa_cons pe_str (pa_cons pe_str (pa_cons pe_str pa_nil))))) (pcall DT GT hr (pa_cons (pv 0) (pa_cons pe_int pa_nil))) (fun _ _ => rfl)))
    (pss_one (ps_ret (pe_op op_add_str (pe_ix ix_list (pv 1) (pcall DT GT hr (pa_cons (pv 0) (pa_cons (pe_callB call_len_seq rfl ml PySem.boot_len (pa_cons (pv 1) pa_nil)) pa_nil))) (fun _ _ => rfl))
      (pe_ifExp (PW.pt (pw_or (pt_cmpR op_ne (pv 3) pe_str (nomark _)) (pw_or1 (pt_val (pv 2))))) (pv 3) pe_str)))), ?_⟩
  refine ⟨(by show 4 ≤ sizeLine; decide), fun T hT => ?_⟩
  refine ⟨_, rfl, b, l, 4, rfl, by decide, by decide, B.new hT, fun r H1 a0 a1 B1 k1 => ?_⟩
  have k2 : Keep [b, l] H H1 := (Keep.new hT).trans k1
  have eT := k1 T _ upd_same (B.nin hT)
  obtain ⟨m, em, hm⟩ := pick_mark a0 a1
  refine ⟨T, _, r, .str m, rfl, rfl, SqL.of eT, em, ?_⟩
  have eL1 := k2 L _ eL (by simp [nb, nl])
  refine ⟨_, rfl, _, rfl, _, rfl, L, _, rfl, .inl (SqL.of eL1), b, l, _, rfl, (by rw [List.length_map]; omega), (by rw [List.length_map]; omega), B1, fun r2 H2 b0 b1 B2 k3 => ?_⟩
  have eL2 := k3 L _ eL1 (by simp [nb, nl])
  obtain ⟨x, ex, hx, _⟩ := pick_word w1 b0 b1
  refine ⟨L, _, r2, .str x, rfl, rfl, SqL.of eL2, ex, ?_⟩
  have fin : ∀ m' : Str, IsM m' → (m' = "c" → c = true) → x.length + m'.length ≤ sizeLine ∧ Q (.str (x ++ m')) H2 := fun m' h1 h2 =>
    ⟨by rw [hx.len, h1.len]; decide, q (x, m') H2 ⟨hx, h1⟩ h2 B2 (k2.trans k3)⟩
  refine ⟨_, rfl, rfl, _, rfl, ?_⟩
  refine ite2 (fun c1 => ?_) (fun c1 => ?_)
  · refine iteT ⟨_, rfl, x, m, rfl, rfl, fin m hm fun e => ?_⟩
    subst e
    exact absurd c1 (by decide +kernel)
  · have e : m = "c" := by
      by_cases z : m = "c"
      · exact z
      · refine absurd ?_ c1
        rw [decide_eq_false (fun y => z (V.str.inj y))]
        rfl
    subst e
    refine ⟨_, rfl, c, rfl, ?_⟩
    cases c with
    | true => exact iteT ⟨_, rfl, x, "c", rfl, rfl, fin "c" hm fun _ => rfl⟩
    | false => exact iteF ⟨x, "w", rfl, rfl, fin "w" (by unfold IsM; decide +kernel) fun e => absurd e (by decide +kernel)⟩
/-! ### a work -/
def spWork : Sp := fun vs H Q _ => ∃ (b l L : Addr) (F : List Str), vs = [.ref b, .ref L, .int 12] ∧ Box H b l ∧ L ≠ b ∧ L ≠ l ∧ H L = some (.lst (F.map V.str)) ∧ (∀ x ∈ F, IsW x) ∧ 0 < F.length ∧ F.length ≤ 8 ∧
  ∀ (p : Addr) (ws : List StepT) (H' : Hp), H p = none → H' p = some (.lst (stepsV ws)) → WorkOk ws → Box H' b l → Keep [b, l] H H' → Q (.ref p) H'
theorem ok_work (D : Def K mg "_law_work" s_L_work ["_law_box", "_law_letters", "_law_most"]) (DT : Def K mg "_law_take" s_L_take ["_law_box", "_law_many"]) (DS : Def K mg "_law_step" s_L_step ["_law_box", "_law_letters", "_law_was_wrong"]) (ml : mg "len" = none) (mr : mg "range" = none) (ma : mg "any" = none) :
    FnOk P w K mg base CX0 3 D.f D.fd ["_law_box", "_law_letters", "_law_most"] spWork := by
  have GT : FnOk P w K mg base CX0 1 DT.f DT.fd ["_law_box", "_law_many"] spTake := ok_take DT
  have GS : FnOk P w K mg base CX0 2 DS.f DS.fd ["_law_box", "_law_letters", "_law_was_wrong"] spStep := ok_step DS DT ml
  refine D.ok sc_L_work (fun vs H Q E h => ?_) (fun cdv A outer s H vs Q E hr h => ?_)
  · obtain ⟨b, l, L, F, rfl, _⟩ := h
    rfl
  obtain ⟨b, l, L, F, rfl, B, nb, nl, eL, w1, l0, l1, q⟩ := h
  have hr1 : Room 1 _ := hr.mono (by decide)
  have nd := sc_L_work.nd
  refine ⟨_, pss_cons (ps_set (i := 3) nd rfl (Or.inl rfl) (pe_lst pa_nil))
    (pss_cons (ps_for PassesOwn.never rfl (pi_range1 rfl mr (pa_cons (pcall DT GT hr1 (pa_cons (pv 0) (pa_cons (pe_op op_add (pv 2) pe_int) pa_nil))) pa_nil)) (pg_name (i := 4) nd rfl (Or.inl rfl))
      (pss_one (ps_expr (pe_bm PySem.F.plainAttrs_list PySem.F.slot_list_append PySem.F.type_list_append mt_append (pv 3)
        (pa_cons (pcall DS GS hr (pa_cons (pv 0) (pa_cons (pv 1) (pa_cons (pe_callB (cr_any rfl) rfl ma (by decide +kernel) (pa_cons
          (pe_lc (own := [("_law_step_here", 5)]) (g := gName 5) (tt := tYes) rfl nd (pi_list (pv 3)) (blkOk_by (N := ["_law_box", "_law_letters", "_law_most", "_law_found", "_law_turn", "_law_step_here"]) (sc := defScope s_L_work) (by decide +kernel)) (fun _ _ _ _ _ => pg_name (i := 5) nd rfl (Or.inl rfl)) (fun _ _ _ _ _ => pts_nil)
            (fun _ _ _ _ _ => pe_cmpR op_eq (pe_ix ix_str (pv 5) pe_int (fun _ _ => rfl)) pe_str (nomark _))) pa_nil)) pa_nil)))) pa_nil)))))
    (pss_one (ps_ret (pv 3)))), ?_⟩
  refine ⟨Nat.zero_le _, fun f hf => ?_⟩
  have nfb := B.ne_new hf
  refine ⟨_, rfl, _, rfl, _, _, rfl, rfl, b, l, _, rfl, by decide, by decide, B.new hf, fun r H1 a0 a1 B1 k1 => ?_⟩
  have a1' : r < 13 := a1
  have nin : ∀ {x : Addr}, x ≠ b ∧ x ≠ l → x ∉ [b, l] := fun {x} h => by simp [h.1, h.2]
  refine ⟨_, rfl, by omega, by omega, ?_⟩
  refine for_range (lo := 0) (n := r.toNat) (fun i σ H' => ∃ (ws : List StepT) (v : Option V), σ = [some (.ref b), some (.ref L), some (.int 12), some (.ref f), v, none] ∧ H' f = some (.lst (stepsV ws)) ∧ ws.length = i ∧ WorkFrom false ws ∧ Box H' b l ∧ Keep [b, l] H H')
    ⟨[], none, rfl, k1 _ _ upd_same (nin nfb), rfl, trivial, B1, (Keep.new hf).trans k1⟩ ?_ ?_
  · rintro i σ H' hi ⟨ws, v, rfl, ef, hl, hw, B', k'⟩
    have lws : (stepsV ws).length = ws.length := List.length_map _
    have all := hw.all
    refine ⟨_, rfl, .inl ⟨rfl, _, SqL.of ef⟩, _, rfl, _, rfl, _, rfl, f, rfl, ⟨_, SqL.of ef⟩, fun D hD => ?_⟩
    have nfD : f ≠ D := ne_of_none ef hD
    refine lc_list (K := K) (a := f) (xs := stepsV ws) (fun j H'' => H'' = upd H' D (.lst ((ws.take j).map fun p : StepT => V.bl (p.2 == ("w" : Str))))) rfl (fun j H'' _ e => by rw [e]; exact SqL.of (by rw [upd_ne nfD]; exact ef)) ?_ ?_
    · rintro j x H'' hj rfl
      have hjl : j < ws.length := by
        have z := (List.getElem?_eq_some_iff.mp hj).1
        rw [lws] at z
        exact z
      have ex : x = V.str (stepS (ws[j]'hjl)) := by
        have z := get_map (fun p => V.str (stepS p)) ws hjl
        exact Option.some.inj (hj.symm.trans z)
      subst ex
      have hs := all _ (List.getElem_mem hjl)
      obtain ⟨c, ec, em⟩ := hs.at1
      refine ⟨rfl, _, rfl, _, 1, c, rfl, rfl, by rw [hs.len]; decide, ec, rfl, _, upd_same, ?_, ?_⟩
      · rw [List.length_map, List.length_take]
        exact small1000 (by omega)
      · rw [upd_upd, em, List.take_succ_eq_append_getElem hjl, List.map_append, dec_str]
        rfl
    · rintro H'' rfl
      rw [lws, List.take_length]
      refine ⟨D, ws.map fun p : StepT => p.2 == ("w" : Str), rfl, SqL.of (by rw [upd_same, List.map_map]; rfl), ?_⟩
      have kD : Keep [b, l] H' (upd H' D (.lst (ws.map fun p : StepT => V.bl (p.2 == ("w" : Str))))) := Keep.new hD
      refine ⟨b, l, L, F, _, rfl, B'.new hD, nb, nl, (k'.trans kD) L _ eL (by simp [nb, nl]), w1, l0, l1, fun p H2 hp hc B2 k2 => ?_⟩
      have ef2 := (kD.trans k2) f _ ef (nin nfb)
      refine ⟨f, _, _, rfl, rfl, ef2, by rw [lws]; exact small1000 (by omega), ?_⟩
      refine ⟨ws ++ [p], _, rfl, ?_, ?_, hw.snoc hp fun e => ?_, B2.put nfb.1 nfb.2, ((k'.trans (kD.trans k2)).newer hf)⟩
      · rw [upd_same]
        unfold stepsV
        rw [List.map_append]
        rfl
      · rw [List.length_append, hl]
        rfl
      · have z := hc e
        rw [Bool.false_or]
        unfold anyWrong
        rw [List.any_map] at z
        exact z
  · rintro σ H' ⟨ws, v, rfl, ef, hl, hw, B', k'⟩
    exact ⟨_, rfl, q f ws H' hf ef ⟨hw, by omega⟩ B' k'⟩
end
end MS
end
section
set_option maxRecDepth 100000
set_option maxHeartbeats 4000000
namespace MS
open PySem L2
/-! ### schemes -/
inductive Sch where
  | step (w : Str) (p : Int)
  | all (k : List Sch)
  | best (k : List Sch)
  | most (n : Int) (s : Sch)
  | half (s : Sch)
  | seen (w : Str) (s : Sch)
  | behind (w : Str) (s : Sch)
  | carry (s : Sch)
  | fin (w : Str) (p : Int) (s : Sch)
  | use (n : Nat)
/-- a scheme of at most d levels stands in the heap -/
def SAt (H : Hp) : Nat → Sch → V → Prop
  | 0, _, _ => False
  | _ + 1, .step w p, v => ∃ a, v = .ref a ∧ H a = some (.tup [.str "step", .str w, .int p])
  | d + 1, .all k, v => ∃ a b vs, v = .ref a ∧ H a = some (.tup [.str "all", .ref b]) ∧ H b = some (.tup vs) ∧ Paired (SAt H d) k vs
  | d + 1, .best k, v => ∃ a b vs, v = .ref a ∧ H a = some (.tup [.str "best", .ref b]) ∧ H b = some (.tup vs) ∧ Paired (SAt H d) k vs
  | d + 1, .most n s, v => ∃ a u, v = .ref a ∧ H a = some (.tup [.str "most", .int n, u]) ∧ SAt H d s u
  | d + 1, .half s, v => ∃ a u, v = .ref a ∧ H a = some (.tup [.str "half", u]) ∧ SAt H d s u
  | d + 1, .seen w s, v => ∃ a u, v = .ref a ∧ H a = some (.tup [.str "seen", .str w, u]) ∧ SAt H d s u
  | d + 1, .behind w s, v => ∃ a u, v = .ref a ∧ H a = some (.tup [.str "behind", .str w, u]) ∧ SAt H d s u
  | d + 1, .carry s, v => ∃ a u, v = .ref a ∧ H a = some (.tup [.str "carry", u]) ∧ SAt H d s u
  | d + 1, .fin w p s, v => ∃ a u, v = .ref a ∧ H a = some (.tup [.str "end", .str w, .int p, u]) ∧ SAt H d s u
  | _ + 1, .use n, v => ∃ a, v = .ref a ∧ H a = some (.tup [.str "use", .int (n : Int)])
/-- tuples stay -/
def TupK (H H' : Hp) : Prop := ∀ a xs, H a = some (.tup xs) → H' a = some (.tup xs)
theorem TupK.refl (H : Hp) : TupK H H := fun _ _ h => h
theorem TupK.trans {H H1 H2 : Hp} (a : TupK H H1) (b : TupK H1 H2) : TupK H H2 := fun c o h => b c o (a c o h)
theorem TupK.new {H : Hp} {p : Addr} {o : HO} (h : H p = none) : TupK H (upd H p o) := fun b u q => by rw [upd_ne (ne_of_none q h)]; exact q
theorem TupK.put {H : Hp} {p : Addr} {o : HO} {ys : List V} (h : H p = some (.lst ys)) : TupK H (upd H p o) := fun b u q => by rw [upd_ne (ne_of q h (by intro z; cases z))]; exact q
theorem Keep.tup {S : List Addr} {H H' : Hp} (k : Keep S H H') (nt : ∀ a ∈ S, ∃ ys, H a = some (.lst ys)) : TupK H H' := fun a xs e => k a _ e fun hm => by
  obtain ⟨ys, z⟩ := nt a hm
  rw [e] at z
  cases z
theorem paired_imp {α β : Type} {R T : α → β → Prop} : ∀ {xs : List α} {ys : List β}, Paired R xs ys → (∀ x y, R x y → T x y) → Paired T xs ys
  | _, _, .nil, _ => .nil
  | _, _, .cons r t, h => .cons (h _ _ r) (paired_imp t h)
theorem SAt.keep {H H' : Hp} (k : TupK H H') : ∀ (d : Nat) (s : Sch) (v : V), SAt H d s v → SAt H' d s v
  | 0, _, _, h => by cases h
  | _ + 1, .step w p, v, ⟨a, e, h⟩ => ⟨a, e, k _ _ h⟩
  | d + 1, .all ks, v, ⟨a, b, vs, e, h1, h2, h3⟩ => ⟨a, b, vs, e, k _ _ h1, k _ _ h2, paired_imp h3 fun s v => SAt.keep k d s v⟩
  | d + 1, .best ks, v, ⟨a, b, vs, e, h1, h2, h3⟩ => ⟨a, b, vs, e, k _ _ h1, k _ _ h2, paired_imp h3 fun s v => SAt.keep k d s v⟩
  | d + 1, .most n s, v, ⟨a, u, e, h1, h2⟩ => ⟨a, u, e, k _ _ h1, SAt.keep k d s u h2⟩
  | d + 1, .half s, v, ⟨a, u, e, h1, h2⟩ => ⟨a, u, e, k _ _ h1, SAt.keep k d s u h2⟩
  | d + 1, .seen w s, v, ⟨a, u, e, h1, h2⟩ => ⟨a, u, e, k _ _ h1, SAt.keep k d s u h2⟩
  | d + 1, .behind w s, v, ⟨a, u, e, h1, h2⟩ => ⟨a, u, e, k _ _ h1, SAt.keep k d s u h2⟩
  | d + 1, .carry s, v, ⟨a, u, e, h1, h2⟩ => ⟨a, u, e, k _ _ h1, SAt.keep k d s u h2⟩
  | d + 1, .fin w p s, v, ⟨a, u, e, h1, h2⟩ => ⟨a, u, e, k _ _ h1, SAt.keep k d s u h2⟩
  | _ + 1, .use n, v, ⟨a, e, h⟩ => ⟨a, e, k _ _ h⟩
/-- a scheme that can be, in scheme i of M -/
def OkS (i M : Nat) : Nat → Sch → Prop
  | 0, _ => False
  | _ + 1, .step w p => IsW w ∧ 1 ≤ p ∧ p ≤ 9
  | d + 1, .all k => 0 < k.length ∧ k.length ≤ 4 ∧ ∀ s ∈ k, OkS i M d s
  | d + 1, .best k => 0 < k.length ∧ k.length ≤ 4 ∧ ∀ s ∈ k, OkS i M d s
  | d + 1, .most n s => (0 ≤ n ∧ n ≤ 30) ∧ OkS i M d s
  | d + 1, .half s => OkS i M d s
  | d + 1, .seen w s => IsW w ∧ OkS i M d s
  | d + 1, .behind w s => IsW w ∧ OkS i M d s
  | d + 1, .carry s => OkS i M d s
  | d + 1, .fin w p s => (IsW w ∧ 1 ≤ p ∧ p ≤ 9) ∧ OkS i M d s
  | _ + 1, .use n => i < n ∧ n < M
def sz : Nat → Sch → Int
  | 0, _ => 0
  | _ + 1, .step _ _ => 1
  | d + 1, .all k => 1 + (k.map (sz d)).sum
  | d + 1, .best k => 1 + (k.map (sz d)).sum
  | d + 1, .most _ s => 1 + sz d s
  | d + 1, .half s => 1 + sz d s
  | d + 1, .seen _ s => 1 + sz d s
  | d + 1, .behind _ s => 1 + sz d s
  | d + 1, .carry s => 1 + sz d s
  | d + 1, .fin _ _ s => 1 + sz d s
  | _ + 1, .use _ => 1
/-- steps and ends; c: those of the used ones -/
def er (c : Nat → Int) : Nat → Sch → Int
  | 0, _ => 0
  | _ + 1, .step _ _ => 1
  | d + 1, .all k => (k.map (er c d)).sum
  | d + 1, .best k => (k.map (er c d)).sum
  | d + 1, .most _ s => er c d s
  | d + 1, .half s => er c d s
  | d + 1, .seen _ s => er c d s
  | d + 1, .behind _ s => er c d s
  | d + 1, .carry s => er c d s
  | d + 1, .fin _ _ s => 1 + er c d s
  | _ + 1, .use n => c n
/-- seens and behinds -/
def wr (c : Nat → Int) : Nat → Sch → Int
  | 0, _ => 0
  | _ + 1, .step _ _ => 0
  | d + 1, .all k => (k.map (wr c d)).sum
  | d + 1, .best k => (k.map (wr c d)).sum
  | d + 1, .most _ s => wr c d s
  | d + 1, .half s => wr c d s
  | d + 1, .seen _ s => 1 + wr c d s
  | d + 1, .behind _ s => 1 + wr c d s
  | d + 1, .carry s => wr c d s
  | d + 1, .fin _ _ s => wr c d s
  | _ + 1, .use n => c n
/-- what is told of the later schemes: number, steps and ends, seens and behinds -/
def UAt (H : Hp) (i M : Nat) (ce cw : Nat → Int) (u : Addr) : Prop := ∃ (js : List Nat) (vs : List V), H u = some (.lst vs) ∧ js.length ≤ 5 ∧ (∀ j ∈ js, i < j ∧ j < M) ∧
  Paired (fun j v => ∃ t, v = V.ref t ∧ H t = some (.tup [.int ((j : Nat) : Int), .int (ce j), .int (cw j)])) js vs
theorem UAt.keep {H H' : Hp} {i M : Nat} {ce cw : Nat → Int} {u : Addr} (h : UAt H i M ce cw u) (k : TupK H H') (hu : ∀ vs, H u = some (.lst vs) → H' u = some (.lst vs)) : UAt H' i M ce cw u := by
  obtain ⟨js, vs, e, l, r, p⟩ := h
  exact ⟨js, vs, hu vs e, l, r, paired_imp p fun j v ⟨t, e1, e2⟩ => ⟨t, e1, k _ _ e2⟩⟩
end MS
end
section
set_option maxRecDepth 100000
set_option maxHeartbeats 4000000
namespace MS
open PySem L2
theorem ev_or {t u : TT} {σ : St} {H : Hp} {b c : Bool} (h1 : ∀ Q : Bool → Hp → Prop, Q b H → t σ H Q) (h2 : ∀ Q : Bool → Hp → Prop, Q c H → u σ H Q) : ∀ Q : Bool → Hp → Prop, Q (b || c) H → tOr t u σ H Q := fun Q q => h1 _ (by
  cases b with
  | true => exact iteT q
  | false => exact iteF (h2 _ q))
theorem ev_and {t u : TT} {σ : St} {H : Hp} {b c : Bool} (h1 : ∀ Q : Bool → Hp → Prop, Q b H → t σ H Q) (h2 : ∀ Q : Bool → Hp → Prop, Q c H → u σ H Q) : ∀ Q : Bool → Hp → Prop, Q (b && c) H → tAnd t u σ H Q := fun Q q => h1 _ (by
  cases b with
  | true => exact iteT (h2 _ q)
  | false => exact iteF q)
theorem seq_if {tc : TT} {t r : TS} {D : Ends} {σ : St} {H : Hp} {b : Bool} (h : ∀ Q : Bool → Hp → Prop, Q b H → tc σ H Q) (k1 : b = true → t { D with nx := r D } σ H) (k2 : b = false → r D σ H) : tSeq (tIfS tc t tNext) r D σ H := h _ (by
  cases b with
  | true => exact iteT (k1 rfl)
  | false => exact iteF (k2 rfl))
theorem one_if {tc : TT} {t : TS} {D : Ends} {σ : St} {H : Hp} {b : Bool} (h : ∀ Q : Bool → Hp → Prop, Q b H → tc σ H Q) (k1 : b = true → t D σ H) (k2 : b = false → D.nx σ H) : tIfS tc t tNext D σ H := h _ (by
  cases b with
  | true => exact iteT (k1 rfl)
  | false => exact iteF (k2 rfl))
theorem seq_if_to {tc : TT} {t r : TS} {D : Ends} {σ : St} {H : Hp} {b : Bool} (R : St → Hp → Prop) (h : ∀ Q : Bool → Hp → Prop, Q b H → tc σ H Q) (rest : ∀ σ' H', R σ' H' → r D σ' H')
    (k1 : b = true → (∀ σ' H', R σ' H' → r D σ' H') → t { D with nx := r D } σ H) (k2 : b = false → R σ H) : tSeq (tIfS tc t tNext) r D σ H := seq_if h (fun e => k1 e rest) fun e => rest _ _ (k2 e)
theorem paired_get' {α β : Type} {R : α → β → Prop} : ∀ {xs : List α} {ys : List β}, Paired R xs ys → ∀ {k : Nat} {y : β}, ys[k]? = some y → ∃ x, xs[k]? = some x ∧ R x y
  | _, _, .nil, _, _, h => by simp at h
  | _, _, .cons r t, 0, _, h => by
    simp at h
    subst h
    exact ⟨_, rfl, r⟩
  | _, _, .cons _ t, k + 1, y, h => by
    obtain ⟨x, e, r⟩ := paired_get' t (k := k) (y := y) (by simpa using h)
    exact ⟨x, by simpa using e, r⟩
theorem paired_snoc {α β : Type} {R : α → β → Prop} : ∀ {xs : List α} {ys : List β} {x : α} {y : β}, Paired R xs ys → R x y → Paired R (xs ++ [x]) (ys ++ [y])
  | _, _, _, _, .nil, h => .cons h .nil
  | _, _, _, _, .cons r t, h => .cons r (paired_snoc t h)
theorem pick_name {a b : Str} {r : Int} (h0 : 0 ≤ r) (h1 : r < 2) : atI [V.str a, V.str b] r = some (.str (if r = 0 then a else b)) := by
  have e : r = 0 ∨ r = 1 := by omega
  rcases e with rfl | rfl
  · exact at0
  · exact at1
structure GenAt (i M : Nat) (ce cw : Nat → Int) (H : Hp) (b l L m u : Addr) (F : List Str) (x y z : Int) : Prop where
  box : Box H b l
  left : H m = some (.lst [.int x, .int y, .int z])
  lets : H L = some (.lst (F.map V.str))
  words : ∀ x ∈ F, IsW x
  pos : 0 < F.length
  few : F.length ≤ 8
  uses : UAt H i M ce cw u
  bm : m ≠ b ∧ m ≠ l
  nL : L ∉ [b, l, m]
  nu : u ∉ [b, l, m]
section
variable {i M : Nat} {ce cw : Nat → Int} {H H' : Hp} {b l L m u : Addr} {F : List Str} {x y z x' y' z' : Int}
theorem GenAt.lists (G : GenAt i M ce cw H b l L m u F x y z) : ∀ a ∈ [b, l, m], ∃ ys, H a = some (.lst ys) := fun a ha => by
  obtain ⟨_, ⟨n, e1⟩, ns, e2⟩ := G.box
  rcases List.mem_cons.mp ha with rfl | ha
  · exact ⟨_, e1⟩
  · rcases List.mem_cons.mp ha with rfl | ha
    · exact ⟨_, e2⟩
    · rw [List.mem_singleton.mp ha]
      exact ⟨_, G.left⟩
theorem GenAt.tup (G : GenAt i M ce cw H b l L m u F x y z) (k : Keep [b, l, m] H H') : TupK H H' := k.tup G.lists
theorem GenAt.move (G : GenAt i M ce cw H b l L m u F x y z) (k : Keep [b, l, m] H H') (B : Box H' b l) (e : H' m = some (.lst [.int x', .int y', .int z'])) : GenAt i M ce cw H' b l L m u F x' y' z' :=
  ⟨B, e, k _ _ G.lets G.nL, G.words, G.pos, G.few, G.uses.keep (G.tup k) (fun vs h => k _ _ h G.nu), G.bm, G.nL, G.nu⟩
theorem GenAt.nm (G : GenAt i M ce cw H b l L m u F x y z) : m ∉ [b, l] := by simp [G.bm.1, G.bm.2]
theorem GenAt.draw (G : GenAt i M ce cw H b l L m u F x y z) (k : Keep [b, l] H H') (B : Box H' b l) : GenAt i M ce cw H' b l L m u F x y z :=
  G.move (k.mono fun _ h => by simp only [List.mem_cons, List.not_mem_nil, or_false] at h ⊢; rcases h with h | h <;> simp [h]) B (k _ _ G.left G.nm)
theorem GenAt.new (G : GenAt i M ce cw H b l L m u F x y z) {p : Addr} {o : HO} (h : H p = none) : GenAt i M ce cw (upd H p o) b l L m u F x y z :=
  G.draw (Keep.new h) (G.box.new h)
theorem GenAt.put (G : GenAt i M ce cw H b l L m u F x y z) : GenAt i M ce cw (upd H m (.lst [.int x', .int y', .int z'])) b l L m u F x' y' z' :=
  G.move (Keep.put (by simp)) (G.box.put G.bm.1 G.bm.2) upd_same
theorem k3 {b l m : Addr} {H H' : Hp} (k : Keep [b, l] H H') : Keep [b, l, m] H H' := k.mono fun _ h => by simp only [List.mem_cons, List.not_mem_nil, or_false] at h ⊢; rcases h with h | h <;> simp [h]
end
def spScheme (i M : Nat) (ce cw : Nat → Int) (d : Nat) : Sp := fun vs H Q _ => ∃ (b l L m u : Addr) (F : List Str) (x y z : Int), vs = [.ref b, .ref L, .ref m, .int (d : Int), .ref u] ∧ GenAt i M ce cw H b l L m u F x y z ∧ 1 ≤ x ∧ 1 ≤ y ∧ 0 ≤ z ∧
  ∀ (v : V) (s : Sch) (H' : Hp) (x' y' z' : Int), SAt H' (d + 1) s v → OkS i M (d + 1) s → sz (d + 1) s = x - x' → er ce (d + 1) s = y - y' → wr cw (d + 1) s = z - z' → 0 ≤ x' → 0 ≤ y' → 0 ≤ z' →
    H' m = some (.lst [.int x', .int y', .int z']) → Box H' b l → Keep [b, l, m] H H' → Q v H'
abbrev nmScheme : List Str := ["_law_box", "_law_letters", "_law_left", "_law_deep", "_law_uses", "_law_word", "_law_way", "_law_one", "_law_some", "_law_kids", "_law_turn"]
abbrev psScheme : List Str := ["_law_box", "_law_letters", "_law_left", "_law_deep", "_law_uses"]
section
variable {P : Program} {w : World} {K : PySem.W.Frag} {mg : Str → Option Value} {base : Heap}
end
end MS
end
section
set_option maxRecDepth 100000
set_option maxHeartbeats 4000000
namespace MS
open PySem L2
/-- two values are of the same kinds, and the same -/
def Alk (H : Hp) : Nat → V → V → Prop
  | 0, x, y => (∃ i : Int, x = .int i ∧ y = .int i) ∨ ∃ z : Str, x = .str z ∧ y = .str z
  | n + 1, x, y => Alk H n x y ∨ ∃ (a b : Addr) (xs ys : List V), x = .ref a ∧ y = .ref b ∧ ((H a = some (.lst xs) ∧ H b = some (.lst ys)) ∨ (H a = some (.tup xs) ∧ H b = some (.tup ys))) ∧ xs.length ≤ 1000 ∧ Paired (Alk H n) xs ys
theorem Alk.keep {H H' : Hp} (k : Same H H') : ∀ (n : Nat) (x y : V), Alk H n x y → Alk H' n x y
  | 0, _, _, h => h
  | n + 1, x, y, .inl h => .inl (Alk.keep k n x y h)
  | n + 1, x, y, .inr ⟨a, b, xs, ys, e1, e2, h, l, p⟩ => .inr ⟨a, b, xs, ys, e1, e2, by
      rcases h with ⟨h1, h2⟩ | ⟨h1, h2⟩
      · exact .inl ⟨k _ _ h1, k _ _ h2⟩
      · exact .inr ⟨k _ _ h1, k _ _ h2⟩, l, paired_imp p fun x y => Alk.keep k n x y⟩
def spAlike (n : Nat) : Sp := fun vs H Q _ => ∃ x y, vs = [x, y] ∧ Alk H n x y ∧ ∀ H', Same H H' → Q (.bl true) H'
theorem Alk.up {H : Hp} {n : Nat} {x y : V} (h : Alk H n x y) : Alk H (n + 1) x y := .inl h
theorem Alk.kind {H : Hp} : ∀ {n : Nat} {x y : V}, Alk H n x y → (∃ i : Int, x = .int i ∧ y = .int i) ∨ (∃ z : Str, x = .str z ∧ y = .str z) ∨ ∃ (m : Nat) (a b : Addr) (xs ys : List V), n = m + 1 ∧ x = .ref a ∧ y = .ref b ∧ ((H a = some (.lst xs) ∧ H b = some (.lst ys)) ∨ (H a = some (.tup xs) ∧ H b = some (.tup ys))) ∧ xs.length ≤ 1000 ∧ Paired (Alk H m) xs ys
  | 0, _, _, .inl h => .inl h
  | 0, _, _, .inr h => .inr (.inl h)
  | n + 1, x, y, .inl h => by
    rcases Alk.kind h with h1 | h1 | ⟨m, a, b, xs, ys, e, e1, e2, h1, l, p⟩
    · exact .inl h1
    · exact .inr (.inl h1)
    · subst e
      exact .inr (.inr ⟨m + 1, a, b, xs, ys, rfl, e1, e2, h1, l, paired_imp p fun _ _ z => z.up⟩)
  | n + 1, x, y, .inr ⟨a, b, xs, ys, e1, e2, h, l, p⟩ => .inr (.inr ⟨n, a, b, xs, ys, rfl, e1, e2, h, l, p⟩)
theorem one_to {tc : TT} {t u : TS} {D : Ends} {σ : St} {H : Hp} {b : Bool} (h : ∀ Q : Bool → Hp → Prop, (∀ H', Same H H' → Q b H') → tc σ H Q) (k1 : b = true → ∀ H', Same H H' → t D σ H') (k2 : b = false → ∀ H', Same H H' → u D σ H') : tIfS tc t u D σ H := h _ fun H' s => by
  cases b with
  | true => exact iteT (k1 rfl H' s)
  | false => exact iteF (k2 rfl H' s)
section
variable {P : Program} {w : World} {K : PySem.W.Frag} {mg : Str → Option Value} {base : Heap}
abbrev psAlike : List Str := ["_law_found", "_law_due_here"]
theorem alike_turn {n : Nat} {sp' : Sp} (D : Def K mg "_law_alike" s_L_alike psAlike) (mis : mg "isinstance" = none) (mb : mg "bool" = none) (mi : mg "int" = none) (ms : mg "str" = none) (mt : mg "tuple" = none) (mli : mg "list" = none) (ml : mg "len" = none) (mr : mg "range" = none)
    (G : FnOk P w K mg base CX0 n D.f D.fd psAlike sp') (hs : ∀ n', n = n' + 1 → sp' = spAlike n') : FnOk P w K mg base CX0 (n + 1) D.f D.fd psAlike (spAlike n) := by
  have nd := sc_L_alike.nd
  refine D.ok sc_L_alike (fun vs H Q E h => ?_) (fun cdv A outer s H vs Q E hr h => ?_)
  · obtain ⟨x, y, rfl, _⟩ := h
    rfl
  obtain ⟨x, y, rfl, hxy, q⟩ := h
  refine ⟨_, pss_cons (ps_if (pt_cmpR op_isN (pv 1) pe_non (nomark _)) (pss_one (ps_ret (pe_cmpR op_isN (pv 0) pe_non (by rfl)))) pss_nil)
    (pss_cons (ps_if (pt_val (pe_callB call_isi rfl mis (by decide +kernel) (pa_cons (pv 1) (pa_cons (pe_bltn rfl mb (by decide +kernel) (v := .ty "bool") rfl) pa_nil)))) (pss_one (ps_ret (pe_and (pe_callB call_isi rfl mis (by decide +kernel) (pa_cons (pv 0) (pa_cons (pe_bltn rfl mb (by decide +kernel) (v := .ty "bool") rfl) pa_nil))) (pe_one (pe_cmpR op_eq (pv 0) (pv 1) (nomark _)))))) pss_nil)
    (pss_cons (ps_if (pt_val (pe_callB call_isi rfl mis (by decide +kernel) (pa_cons (pv 1) (pa_cons (pe_bltn rfl mi (by decide +kernel) (v := .ty "int") rfl) pa_nil)))) (pss_one (ps_ret (pe_and (pe_callB call_isi rfl mis (by decide +kernel) (pa_cons (pv 0) (pa_cons (pe_bltn rfl mi (by decide +kernel) (v := .ty "int") rfl) pa_nil)))
        (pe_and (pe_not (pe_callB call_isi rfl mis (by decide +kernel) (pa_cons (pv 0) (pa_cons (pe_bltn rfl mb (by decide +kernel) (v := .ty "bool") rfl) pa_nil)))) (pe_one (pe_cmpR op_eq (pv 0) (pv 1) (nomark _))))))) pss_nil)
    (pss_cons (ps_if (pt_val (pe_callB call_isi rfl mis (by decide +kernel) (pa_cons (pv 1) (pa_cons (pe_bltn rfl ms (by decide +kernel) (v := .ty "str") rfl) pa_nil)))) (pss_one (ps_ret (pe_and (pe_callB call_isi rfl mis (by decide +kernel) (pa_cons (pv 0) (pa_cons (pe_bltn rfl ms (by decide +kernel) (v := .ty "str") rfl) pa_nil))) (pe_one (pe_cmpR op_eq (pv 0) (pv 1) (nomark _)))))) pss_nil)
    (pss_cons (ps_if (PW.pt (pw_or (pt_cmpR op_ne (pe_callB call_isi rfl mis (by decide +kernel) (pa_cons (pv 1) (pa_cons (pe_bltn rfl mt (by decide +kernel) (v := .ty "tuple") rfl) pa_nil))) (pe_callB call_isi rfl mis (by decide +kernel) (pa_cons (pv 0) (pa_cons (pe_bltn rfl mt (by decide +kernel) (v := .ty "tuple") rfl) pa_nil))) (nomark _))
        (pw_or1 (pt_cmpR op_ne (pe_callB call_isi rfl mis (by decide +kernel) (pa_cons (pv 1) (pa_cons (pe_bltn rfl mli (by decide +kernel) (v := .ty "list") rfl) pa_nil))) (pe_callB call_isi rfl mis (by decide +kernel) (pa_cons (pv 0) (pa_cons (pe_bltn rfl mli (by decide +kernel) (v := .ty "list") rfl) pa_nil))) (nomark _))))) (pss_one (ps_ret pe_bl)) pss_nil)
    (pss_cons (ps_if (pt_cmpR op_ne (pe_callB call_len_seq rfl ml PySem.boot_len (pa_cons (pv 0) pa_nil)) (pe_callB call_len_seq rfl ml PySem.boot_len (pa_cons (pv 1) pa_nil)) (nomark _)) (pss_one (ps_ret pe_bl)) pss_nil)
    (pss_cons (ps_for PassesOwn.never rfl (pi_range1 rfl mr (pa_cons (pe_callB call_len_seq rfl ml PySem.boot_len (pa_cons (pv 1) pa_nil)) pa_nil)) (pg_name (i := 2) nd rfl (Or.inl rfl))
      (pss_one (ps_if (pt_not (pt_val (pcall D G hr (pa_cons (pe_ix ix_seq (pv 0) (pv 2) (fun _ _ => rfl)) (pa_cons (pe_ix ix_seq (pv 1) (pv 2) (fun _ _ => rfl)) pa_nil))))) (pss_one (ps_ret pe_bl)) pss_nil)))
    (pss_one (ps_ret pe_bl)))))))), ?_⟩
  have qq : ∀ b : Bool, b = true → Q (.bl b) H := fun b e => by
    subst e
    exact q H (Same.refl _)
  rcases hxy.kind with ⟨i, rfl, rfl⟩ | ⟨z, rfl, rfl⟩ | ⟨m, a, b, xs, ys, rfl, rfl, rfl, hab, hl, hp⟩
  · refine seq_if (b := false) (fun Q q => ⟨_, rfl, rfl, _, rfl, by rw [decide_eq_false (fun z => nomatch z)]; exact q⟩) (fun z => nomatch z) (fun _ => ?_)
    refine seq_if (b := false) (fun Q q => ⟨_, rfl, _, .ty "bool", .type "int", .type "bool", false, rfl, .ty _, .base (.int i), kit_ty (by decide +kernel), _, rfl, q⟩) (fun z => nomatch z) (fun _ => ?_)
    refine seq_if (b := true) (fun Q q => ⟨_, rfl, _, .ty "int", .type "int", .type "int", true, rfl, .ty _, .base (.int i), kit_ty (by decide +kernel), _, rfl, q⟩) (fun _ => ?_) (fun z => nomatch z)
    exact ⟨_, rfl, _, .ty "int", .type "int", .type "int", true, rfl, .ty _, .base (.int i), kit_ty (by decide +kernel), _, rfl, _, rfl, _, .ty "bool", .type "int", .type "bool", false, rfl, .ty _, .base (.int i), kit_ty (by decide +kernel), _, rfl, _, rfl, _, rfl, _, rfl, rfl, qq _ (decide_eq_true rfl)⟩
  · refine seq_if (b := false) (fun Q q => ⟨_, rfl, rfl, _, rfl, by rw [decide_eq_false (fun z => nomatch z)]; exact q⟩) (fun z => nomatch z) (fun _ => ?_)
    refine seq_if (b := false) (fun Q q => ⟨_, rfl, _, .ty "bool", .type "str", .type "bool", false, rfl, .ty _, .base (.str z), kit_ty (by decide +kernel), _, rfl, q⟩) (fun z => nomatch z) (fun _ => ?_)
    refine seq_if (b := false) (fun Q q => ⟨_, rfl, _, .ty "int", .type "str", .type "int", false, rfl, .ty _, .base (.str z), kit_ty (by decide +kernel), _, rfl, q⟩) (fun z => nomatch z) (fun _ => ?_)
    refine seq_if (b := true) (fun Q q => ⟨_, rfl, _, .ty "str", .type "str", .type "str", true, rfl, .ty _, .base (.str z), kit_ty (by decide +kernel), _, rfl, q⟩) (fun _ => ?_) (fun z => nomatch z)
    exact ⟨_, rfl, _, .ty "str", .type "str", .type "str", true, rfl, .ty _, .base (.str z), kit_ty (by decide +kernel), _, rfl, _, rfl, _, rfl, rfl, qq _ (decide_eq_true rfl)⟩
  · obtain rfl := hs m rfl
    have lxy := Paired.length hp
    obtain ⟨isT, tn, tya, tyb, cT, cL, sa, sb, nb, ni, nsx⟩ : ∃ (isT : Bool) (tn : String), TyX K H (.ref a) (.type tn) ∧ TyX K H (.ref b) (.type tn) ∧ PySem.W.kitOne K (.type tn) (.type "tuple") = some isT ∧ PySem.W.kitOne K (.type tn) (.type "list") = some (!isT) ∧
        (SqL K H a xs ∨ SqT K H a xs) ∧ (SqL K H b ys ∨ SqT K H b ys) ∧ PySem.W.kitOne K (.type tn) (.type "bool") = some false ∧ PySem.W.kitOne K (.type tn) (.type "int") = some false ∧ PySem.W.kitOne K (.type tn) (.type "str") = some false := by
      rcases hab with ⟨h1, h2⟩ | ⟨h1, h2⟩
      · exact ⟨false, "list", .base (.lst h1), .base (.lst h2), kit_ty (by decide +kernel), kit_ty (by decide +kernel), .inl (SqL.of h1), .inl (SqL.of h2), kit_ty (by decide +kernel), kit_ty (by decide +kernel), kit_ty (by decide +kernel)⟩
      · exact ⟨true, "tuple", .base (.tup h1), .base (.tup h2), kit_ty (by decide +kernel), kit_ty (by decide +kernel), .inr (SqT.of h1), .inr (SqT.of h2), kit_ty (by decide +kernel), kit_ty (by decide +kernel), kit_ty (by decide +kernel)⟩
    refine seq_if (b := false) (fun Q q => ⟨_, rfl, rfl, _, rfl, by rw [decide_eq_false (fun z => nomatch z)]; exact q⟩) (fun z => nomatch z) (fun _ => ?_)
    refine seq_if (b := false) (fun Q q => ⟨_, rfl, _, .ty "bool", _, .type "bool", false, rfl, .ty _, tyb, nb, _, rfl, q⟩) (fun z => nomatch z) (fun _ => ?_)
    refine seq_if (b := false) (fun Q q => ⟨_, rfl, _, .ty "int", _, .type "int", false, rfl, .ty _, tyb, ni, _, rfl, q⟩) (fun z => nomatch z) (fun _ => ?_)
    refine seq_if (b := false) (fun Q q => ⟨_, rfl, _, .ty "str", _, .type "str", false, rfl, .ty _, tyb, nsx, _, rfl, q⟩) (fun z => nomatch z) (fun _ => ?_)
    refine seq_if (b := false || false) (ev_or (b := false) (c := false) (fun Q q => ⟨_, rfl, _, .ty "tuple", _, .type "tuple", isT, rfl, .ty _, tyb, cT, _, rfl, _, .ty "tuple", _, .type "tuple", isT, rfl, .ty _, tya, cT, rfl, _, rfl, by rw [decide_eq_true rfl]; exact q⟩)
      (fun Q q => ⟨_, rfl, _, .ty "list", _, .type "list", !isT, rfl, .ty _, tyb, cL, _, rfl, _, .ty "list", _, .type "list", !isT, rfl, .ty _, tya, cL, rfl, _, rfl, by rw [decide_eq_true rfl]; exact q⟩)) (fun z => nomatch z) (fun _ => ?_)
    refine seq_if (b := false) (fun Q q => ⟨_, rfl, a, xs, rfl, sa, _, rfl, b, ys, rfl, sb, rfl, _, rfl, by rw [lxy, decide_eq_true rfl]; exact q⟩) (fun z => nomatch z) (fun _ => ?_)
    refine ⟨_, rfl, b, ys, rfl, sb, _, rfl, by omega, by omega, ?_⟩
    rw [Int.toNat_natCast]
    have ix : ∀ {c : Addr} {zs : List V} {H' : Hp} {j : Nat} {v : V} {Q : VK}, (SqL K H' c zs ∨ SqT K H' c zs) → zs[j]? = some v → Q v H' → rIx K (.ref c) (.int ((j : Nat) : Int)) H' Q := fun h e q => by
      rcases h with h | h
      · exact .inl ⟨_, _, _, _, rfl, rfl, h, atI_nat e, q⟩
      · exact .inr (.inl ⟨_, _, _, _, rfl, rfl, h, atI_nat e, q⟩)
    have seqK : ∀ {c : Addr} {zs : List V} {H' : Hp}, ((H c = some (.lst zs)) ∨ (H c = some (.tup zs))) → Same H H' → (SqL K H' c zs ∨ SqT K H' c zs) := fun h s => by
      rcases h with h | h
      · exact .inl (SqL.of (s _ _ h))
      · exact .inr (SqT.of (s _ _ h))
    have ha' : (H a = some (.lst xs)) ∨ (H a = some (.tup xs)) := hab.imp (·.1) (·.1)
    have hb' : (H b = some (.lst ys)) ∨ (H b = some (.tup ys)) := hab.imp (·.2) (·.2)
    refine for_range (lo := 0) (n := ys.length) (fun j σ H' => ∃ v2 : Option V, σ = [some (.ref a), some (.ref b), v2] ∧ Same H H') ⟨none, rfl, Same.refl _⟩ ?_ ?_
    · rintro j σ H' hj ⟨v2, rfl, s1⟩
      have hjx : j < xs.length := by omega
      have ex : xs[j]? = some (xs[j]'hjx) := List.getElem?_eq_getElem hjx
      obtain ⟨y', ey, hy⟩ : ∃ y', ys[j]? = some y' ∧ Alk H m (xs[j]'hjx) y' := by
        have eyj : ys[j]? = some (ys[j]'hj) := List.getElem?_eq_getElem hj
        obtain ⟨x', ex', hx'⟩ := paired_get' hp eyj
        rw [ex] at ex'
        cases ex'
        exact ⟨_, eyj, hx'⟩
      simp only [Int.zero_add]
      dsimp only [gName]
      refine one_to (b := false) (fun Q q => ⟨_, rfl, _, rfl, ix (seqK ha' s1) ex ⟨_, rfl, _, rfl, ix (seqK hb' s1) ey ⟨_, _, rfl, Alk.keep s1 _ _ _ hy, fun H6 s6 => ⟨_, rfl, q H6 s6⟩⟩⟩⟩) (fun z => nomatch z) (fun _ H6 s6 => ?_)
      exact ⟨_, rfl, s1.trans s6⟩
    · rintro σ H' ⟨v2, rfl, s1⟩
      exact q H' s1
theorem ok_alike (D : Def K mg "_law_alike" s_L_alike psAlike) (mis : mg "isinstance" = none) (mb : mg "bool" = none) (mi : mg "int" = none) (ms : mg "str" = none) (mt : mg "tuple" = none) (mli : mg "list" = none) (ml : mg "len" = none) (mr : mg "range" = none) :
    ∀ n : Nat, FnOk P w K mg base CX0 (n + 1) D.f D.fd psAlike (spAlike n)
  | 0 => alike_turn (sp' := fun _ _ _ _ => False) D mis mb mi ms mt mli ml mr ⟨fun vs H Q E h => h.elim, fun A outer s H args us vs Q E _ _ _ _ h => h.elim⟩ fun n' e => by omega
  | n + 1 => alike_turn (sp' := spAlike n) D mis mb mi ms mt mli ml mr (ok_alike D mis mb mi ms mt mli ml mr n) fun n' e => by
      have e' : n = n' := by omega
      rw [e']
end
end MS
end
section
set_option maxRecDepth 100000
set_option maxHeartbeats 4000000
namespace MS
open PySem L2
theorem no_sp {k : Nat} {f : Addr} {fd : FuncData} {ps : List Str} : FnOk P w K mg base CX0 k f fd ps (fun _ _ _ _ => False) := ⟨fun vs H Q E h => h.elim, fun A outer s H args us vs Q E _ _ _ _ h => h.elim⟩
theorem Same.tupK {H H' : Hp} (k : Same H H') : TupK H H' := fun a xs e => k a _ e
theorem Same.newer {H H1 : Hp} {p : Addr} {o : HO} (k : Same H H1) (h : H p = none) : Same H (upd H1 p o) := fun b u q => by
  rw [upd_ne (ne_of_none q h)]
  exact k b u q
theorem strl2 {z : Str} (h : z.length = 2) : z.length ≤ sizeLine := by rw [h]; decide
theorem seq_new {tc : TT} {t r : TS} {D : Ends} {σ : St} {H : Hp} {b : Bool} (h : ∀ Q : Bool → Hp → Prop, (∀ H', Same H H' → Q b H') → tc σ H Q) (k1 : b = true → ∀ H', Same H H' → t { D with nx := r D } σ H') (k2 : b = false → ∀ H', Same H H' → r D σ H') : tSeq (tIfS tc t tNext) r D σ H := h _ fun H' s => by
  cases b with
  | true => exact iteT (k1 rfl H' s)
  | false => exact iteF (k2 rfl H' s)
theorem in_two {K : PySem.W.Frag} {σ : St} {H : Hp} {i : Nat} {nm x y : Str} {b : Bool} (s : σ[i]? = some (some (.str nm))) (e : inV (.str nm) [.str x, .str y] = b) : ∀ Q : Bool → Hp → Prop, (∀ H', Same H H' → Q b H') → tTest (tOp (rIn K false) (tVar i) (tTup (tCons (tC (.str x)) (tCons (tC (.str y)) tNil)))) σ H Q := fun Q q =>
  ⟨_, s, sz2, fun t ht => ⟨t, _, rfl, .inr (SqT.of upd_same), rfl, rfl, _, rfl, by
    show Q (inV (.str nm) [.str x, .str y]) _
    rw [e]
    exact q _ (Same.new ht)⟩⟩
theorem is_word {σ : St} {H : Hp} {i : Nat} {nm x : Str} {b : Bool} (s : σ[i]? = some (some (.str nm))) (e : (nm == x) = b) : ∀ Q : Bool → Hp → Prop, Q b H → tTest (tOp rEq (tVar i) (tC (.str x))) σ H Q := fun Q q =>
  ⟨_, s, rfl, _, rfl, by rw [dec_str, e]; exact q⟩
theorem ev_and_new {t u : TT} {σ : St} {H : Hp} {b c : Bool} (h1 : ∀ Q : Bool → Hp → Prop, (∀ H', Same H H' → Q b H') → t σ H Q) (h2 : b = true → ∀ H', Same H H' → ∀ Q : Bool → Hp → Prop, (∀ H'', Same H' H'' → Q c H'') → u σ H' Q) :
    ∀ Q : Bool → Hp → Prop, (∀ H', Same H H' → Q (b && c) H') → tAnd t u σ H Q := fun Q q => h1 _ fun H' s => by
  cases b with
  | true => exact iteT (h2 rfl H' s _ fun H'' s'' => q H'' (s.trans s''))
  | false => exact iteF (q H' s)
theorem seq_to {C : Prop} {tc : TT} {t r : TS} {D : Ends} {σ : St} {H : Hp} {b : Bool} (h : ∀ Q : Bool → Hp → Prop, (∀ H', Same H H' → Q b H') → tc σ H Q) (k1 : b = true → ∀ H', Same H H' → (C → ∀ H'', Same H H'' → r D σ H'') → t { D with nx := r D } σ H') (k2 : b = false → C)
    (rest : C → ∀ H', Same H H' → r D σ H') : tSeq (tIfS tc t tNext) r D σ H := seq_new h (fun e H' s => k1 e H' s rest) (fun e H' s => rest (k2 e) H' s)
theorem to_new {t : TT} {σ : St} {H H0 : Hp} {b : Bool} (s : Same H0 H) (h : ∀ Q : Bool → Hp → Prop, Q b H → t σ H Q) : ∀ Q : Bool → Hp → Prop, (∀ H', Same H0 H' → Q b H') → t σ H Q := fun Q q => h Q (q H s)
theorem one_new {tc : TT} {t u : TS} {D : Ends} {σ : St} {H : Hp} {b : Bool} (h : ∀ Q : Bool → Hp → Prop, (∀ H', Same H H' → Q b H') → tc σ H Q) (k1 : b = true → ∀ H', Same H H' → t D σ H') (k2 : b = false → ∀ H', Same H H' → u D σ H') : tIfS tc t u D σ H := h _ fun H' s => by
  cases b with
  | true => exact iteT (k1 rfl H' s)
  | false => exact iteF (k2 rfl H' s)
theorem ev_or_new {t u : TT} {σ : St} {H : Hp} {b c : Bool} (h1 : ∀ Q : Bool → Hp → Prop, (∀ H', Same H H' → Q b H') → t σ H Q) (h2 : b = false → ∀ H', Same H H' → ∀ Q : Bool → Hp → Prop, (∀ H'', Same H' H'' → Q c H'') → u σ H' Q) :
    ∀ Q : Bool → Hp → Prop, (∀ H', Same H H' → Q (b || c) H') → tOr t u σ H Q := fun Q q => h1 _ fun H' s => by
  cases b with
  | true => exact iteT (q H' s)
  | false => exact iteF (h2 rfl H' s _ fun H'' s'' => q H'' (s.trans s''))
theorem fn_any {P : Program} {w : World} {K : PySem.W.Frag} {mg : Str → Option Value} {base : Heap} {ι : Type} {sp : ι → Sp} {k : Nat} {f : Addr} {fd : FuncData} {ps : List Str} (G : ∀ i, FnOk P w K mg base CX0 k f fd ps (sp i)) : FnOk P w K mg base CX0 k f fd ps (fun vs H Q E => ∃ i, sp i vs H Q E) :=
  ⟨fun vs H Q E ⟨i, h⟩ => (G i).1 vs H Q E h, fun A outer s H args us vs Q E a1 a2 a3 a4 ⟨i, h⟩ => (G i).2 A outer s H args us vs Q E a1 a2 a3 a4 h⟩
theorem Box.tup {H H' : Hp} {b l : Addr} (B : Box H b l) (k : Keep [b, l] H H') : TupK H H' := k.tup fun a ha => by
  obtain ⟨_, ⟨n, e1⟩, ns, e2⟩ := B
  rcases List.mem_cons.mp ha with rfl | ha
  · exact ⟨_, e1⟩
  · rw [List.mem_singleton.mp ha]; exact ⟨_, e2⟩
theorem str_len2 {z : Str} (h : z.length = 2) : z.length ≤ sizeLine := by rw [h]; decide
theorem WorkFrom.at : ∀ {ws : List StepT} {w : Bool} {i : Nat} {p : StepT}, WorkFrom w ws → ws[i]? = some p → IsStep p ∧ (p.2 = "c" → (w || anyWrong (ws.take i)) = true)
  | [], _, _, _, _, h => by simp at h
  | q :: r, w, 0, p, h, e => by
    obtain rfl : q = p := by simpa using e
    exact ⟨h.1, fun z => by rw [h.2.1 z]; rfl⟩
  | q :: r, w, i + 1, p, h, e => by
    obtain ⟨h1, h2⟩ := WorkFrom.at (i := i) h.2.2 (by simpa using e)
    refine ⟨h1, fun z => ?_⟩
    have z2 := h2 z
    rw [Bool.or_assoc] at z2
    exact z2
theorem kids_if {σ : St} {H1 : Hp} {Q : VK} {b : Bool} {t1 t2 : TE} {kv : List V} (h1 : b = true → ∀ R : VK, (∀ l, H1 l = none → R (.ref l) (upd H1 l (.lst kv))) → t1 σ H1 R) (h2 : b = false → ∀ R : VK, (∀ l, H1 l = none → R (.ref l) (upd H1 l (.lst kv))) → t2 σ H1 R)
    (c : ∀ l, H1 l = none → Q (.ref l) (upd H1 l (.lst kv))) : if b = true then t1 σ H1 Q else t2 σ H1 Q := by
  cases b with
  | true => exact iteT (h1 rfl _ c)
  | false => exact iteF (h2 rfl _ c)
theorem cut_to (xs : List V) (k : Nat) : cutV xs none (some (k : Int)) = xs.take k := by
  unfold cutV
  rw [HT.sIx_none, HT.sIx_nat, List.drop_zero, Nat.sub_zero]
  by_cases h : k ≤ xs.length
  · rw [Nat.min_eq_left h]
  · rw [Nat.min_eq_right (by omega), List.take_of_length_le (Nat.le_refl _), List.take_of_length_le (by omega)]
end MS
end
section
set_option maxRecDepth 100000
set_option maxHeartbeats 4000000
/-! super().__init__(e) in an own exception's __init__, the class somewhere below ValueError -/
namespace XSU
open PySem PySem.Spec PyProof.Rows L2 NdefX
/-- what the written part says of such a class and of its __init__ -/
structure SupC (P : Program) (K : PySem.W.Frag) (C f cc cd : Addr) (name qual : Str) (params : Arguments) (body : List Stmt) (scope : Scope) : Prop where
  T : OexC K C
  along : ∃ nm q N bs bm sn sub ab col dd k0 k1 k2 k3 k5, K.lookup C = some (excClassObj nm q C N bs bm true sn sub ab col dd k0 k1 k2 k3 k5 "ValueError.__new__") ∧ PySem.HandSPX.refsVE bm = true ∧ PySem.W.alongIn K "__init__" bm = some (some (.builtin "ValueError.__init__"))
  self : PySem.W.mroIn K C (.ref C) = some true
  isVE : PySem.W.subIn K (.ref C) (.type "ValueError") = some true
  opq : PySem.W.nsIn K cStatics "thirdparty.any" = some none
  fn : ∃ oc od osl dV kV doc pm an ct, K.lookup f = some ⟨oc, od, .func (PySem.W.ksFn name qual params body scope dV kV doc pm an (.ref cd) ct cc), osl⟩
  code : PySem.W.codeIn K (.ref cd) qual = true
  file : ∃ e dd vs sl fl tf, K.lookup cd = some ⟨e, dd, .fields vs, sl⟩ ∧ vs[2]? = some (.str fl tf) ∧ ((P.main.file : Str) == fl) = true
  cell : ∃ e dd sl, K.lookup cc = some ⟨e, dd, .cell (some (.ref C)), sl⟩
section
variable {P : Program} {w : World} {K : PySem.W.Frag} {mg : Str → Option Value} {base : Heap} {N ps : List Str} {C f cc cd : Addr} {name qual : Str} {params : Arguments} {body : List Stmt} {scope : Scope}
abbrev nf (name qual : Str) (params : Arguments) (body : List Stmt) (scope : Scope) (cc cd : Addr) : NF := ⟨name, qual, params, body, scope, [("__class__", cc)], cd⟩
theorem call_mw {prog : Program} {w : World} {A : Around} {E : Value → Shared → Prop} {h : Heap} {g : Array GenState} {d : Drawn} {t : Nat} {os : OsState} {nm q : Str} {C N : Addr} {bs bm : List Value} {hdct : Bool} {sn : List Str} {sub : List Value} {ab : Bool} {col : Option Bool} {dd : Option Addr} {k0 k1 k2 k3 k5 : Option Value}
    {u e t0 : Addr} {rest : List Value} {Q : Value → Shared → Prop}
    (hC : h.get? C = some (excClassObj nm q C N bs bm hdct sn sub ab col dd k0 k1 k2 k3 k5 "ValueError.__new__")) (he : h.get? e = some (HandSPX.excO C t0)) (hu : h.get? u = some (PySem.W.kxs_mw "ValueError.__init__" e)) (hrest : rest.length ≤ sizeLine)
    (hq : ∀ h' t1, (∀ b o, b ≠ e → h.get? b = some o → h'.get? b = some o) → h'.get? e = some (HandSPX.excO C t1) → Q .none ⟨h', g, d, t, os⟩) :
    wpAny (model prog w) A (call (.ref u) rest) Q E ⟨h, g, d, t, os⟩ := by
  refine wpAny_call (codeAny_of_tree ?_)
  show wpAny _ A.in1 (callAny (.ref u) ⟨rest, []⟩) _ _ _
  simp only [callAny]
  refine wpAny_bind (wpAny_load hu ?_)
  simp only [PySem.W.kxs_mw, show (Value.type "method-wrapper" == Value.type "method" || Value.type "method-wrapper" == Value.type "builtin_function_or_method" || Value.type "method-wrapper" == Value.type "method-wrapper") = true by decide, if_true]
  refine W.KFB.if_so (by decide) ?_
  refine wpAny_bind (ESX.check_bound F.excBase_ValueError hC he rfl ?_)
  refine wpAny_bind (wpAny_pure (wpAny_pure ?_))
  refine ⟨Code.quiet_builtin _ (by decide +kernel), codeAny_builtin F.excBase_ValueError.initEntry ?_⟩
  rw [Around.under_plainId F.excBase_ValueError.init.plain _]
  wp_walk
  refine hq _ h.objs.size (fun b o hb ho => ?_) ?_
  · rw [Heap.get?_update_other _ _ (Ne.symm hb)]
    exact Heap.get?_push_of_some _ ho
  · rw [Heap.get?_update_self _ (Heap.get?_push_of_some _ he) rfl]
    rfl
/-- THE RULE -/
theorem fn_super {CX : CXT} {k : Nat} {fd : FuncData} {sp : Sp} {e : Expr} {rest : List Stmt} {p0 p1 p2 p3 p4 : Pos} {ar : Arg} {pl : Sem Bool} (Y : SupC P K C f cc cd name qual params body scope) (hbd : body = .Expr (.Call (.Attribute (.Call (.Name "super" p0) [] [] p1) "__init__" p2) [e] [] p3) p4 :: rest)
    (hfd : ∃ oc od osl, K.lookup f = some ⟨oc, od, .func fd, osl⟩) (S : NScope N ps ["__class__"] scope) (hp : (params.posonlyargs ++ params.args).head? = some ar) (hps : ps.head? = some ar.arg) (msu : mg "super" = none) (gsu : scope.names.lookup ("super" : Str) = some .globalImplicit)
    (htop : (P.main.scope.names.lookup ("super" : Str)).isSome = false) (len : ∀ vs H Q E, sp vs H Q E → vs.length = ps.length)
    (he : ∀ env, eval (.Call (.Attribute (.Call (.Name "super" p0) [] [] p1) "__init__" p2) [e] [] p3) env = (do
      let ov ← attributeBase (.Call (.Name "super" p0) [] [] p1) "__init__" env (eval (.Call (.Name "super" p0) [] [] p1) env)
      standAt p2.atName
      let (f, first) ← holding [ov] (getMethod ov "__init__" pl)
      callWith p3 f first (backTo p3 (starEach [e] env)) []))
    (hst : ∀ env, starEach [e] env = [(false, eval e env)])
    (hbody : ∀ (A : Around) (outer : List Env) (s : Shared) (H : Hp) (vs : List V) (Q : VK) (E : XK), Room k (A.deeper (envF (nf name qual params body scope cc cd) f s.heap.objs.size)) → sp vs H Q E →
      ∃ (a : Addr) (vr : List V) (te : TE) (t : TS), vs = .ref a :: vr ∧ PE (ncx CX P w K mg base N (nf name qual params body scope cc cd) f A outer s H E) e te ∧ PSs (ncx CX P w K mg base N (nf name qual params body scope cc cd) f A outer s H E) rest t ∧ H a = some (exo a C none) ∧
        te (startF N vs [some (.ref C)]) H fun _ H' => H' a = some (exo a C none) ∧ t { nx := fun _ H'' => Q .non H'', rt := Q } (startF N vs [some (.ref C)]) H') :
    FnOk P w K mg base CX (k + 1) f fd ps sp := by
  obtain ⟨oc, od, osl, dV, kV, doc, pm, an, ct, lk⟩ := Y.fn
  obtain ⟨oc2, od2, osl2, lk2⟩ := hfd
  rw [lk] at lk2
  cases lk2
  obtain ⟨nm, q, N', bs, bm, sn, sub, ab, col, dd, k0, k1, k2, k3, k5, hC, hbm, hal⟩ := Y.along
  have hcl : PySem.W.clsIn K C = some { name := nm, bases := bs, mro := .ref C :: bm, ns := N', qualname := q, hasDict := true, slotNames := sn, subclasses := sub, abstract := ab, collection := col, hasDel := false } := by unfold PySem.W.clsIn; rw [hC] <;> rfl
  obtain ⟨ec, ddc, vsc, slc, fl, tf, lcd, hv2, hfl⟩ := Y.file
  obtain ⟨ecc, ddcc, slcc, lcc⟩ := Y.cell
  refine ⟨len, fun A outer s H args us vs Q E hr e0 hb r hsp => ?_⟩
  have hl := len _ _ _ _ hsp
  have KX : K.In s.heap := e0.mod.kin.keeps fun b o e => (e0.bs b o e).1
  have lim : s.heap.NoLimit := e0.mod.nolimit.keeps fun b o e => (e0.bs b o e).1
  refine codeAny_call_function hr.depth (KX _ _ lk) rfl S.co S.gen rfl (PySem.W.codeRec_of KX Y.code) (hb _ _ _ _ ?_)
  refine wpAny_newFunctionEnv S.nocell (fun ⟨n, _⟩ hy => S.par n (List.of_mem_zip hy).1) (fun h₁ hns hsb => ⟨lim.fresh _ hsb, ?_⟩) S.kind
  show codeAny _ _ (.func body (envF (nf name qual params body scope cc cd) f s.heap.objs.size)) _ _
  refine ks_codeAny_funcAt ?_
  have kp : ∀ b o, s.heap.get? b = some o → h₁.get? b = some o := fun b o e => hsb.extBut b o (Nat.ne_of_lt (Heap.lt_size e)) (Heap.get?_push_of_some _ e)
  have CA : CellsAt [("__class__", cc)] ["__class__"] [some (.ref C)] s.heap H := by
    have isc : s.heap.IsCell cc (some (.ref C)) := ⟨_, KX _ _ lcc, rfl⟩
    have one : ∀ {y : Str} {c : Addr}, ([(("__class__" : Str), cc)] : List (Str × Addr)).lookup y = some c → y = "__class__" ∧ c = cc := fun {y c} h => by
      have h := PySem.mem_of_lookup h
      have h := List.mem_singleton.mp h
      cases h
      exact ⟨rfl, rfl⟩
    refine ⟨rfl, fun y c h => ?_, fun x y c h1 h2 => (one h1).1.trans (one h2).1.symm, fun i y h => ?_⟩
    · rw [(one h).2]
      exact ⟨(e0.bs _ _ (e0.mod.kin _ _ lcc)).2, _, isc⟩
    · have ey : y = "__class__" := List.mem_singleton.mp (List.mem_of_getElem? h)
      subst ey
      have hi : i = 0 := by
        have := (List.getElem?_eq_some_iff.mp h).1
        simp at this
        exact this
      subst hi
      exact ⟨cc, by simp [List.lookup], fun v hv => by
        cases hv
        exact ⟨_, rfl, isc⟩⟩
  obtain ⟨a, vr, te, t, hvs, pe, ps', ea, hq⟩ := hbody A outer s H vs Q E (hr.deeper _) hsp
  have I : Inv (ncx CX P w K mg base N (nf name qual params body scope cc cd) f A outer s H E) [] (startF N vs [some (.ref C)]) H { s with heap := h₁, toks := s.toks + (ps.zip us).length } := inv_startN S hr.hd e0 hl r CA hns kp
  obtain ⟨t0, hx⟩ := exo_at I.hok ea
  have hlt : (a : Nat) < h₁.objs.size := Heap.lt_size hx
  have hxC : a ≠ C := fun z => by
    rw [z] at hx
    have z1 := I.kIn _ _ hC
    rw [hx] at z1
    cases z1
  have hn1 : scope.names.lookup ("__class__" : Str) = some .free := S.frk _ (by simp)
  have hself : scope.names.lookup ar.arg = some .local := S.par _ (List.mem_of_mem_head? hps)
  have hp0 : ps[0]? = some ar.arg := by
    rw [← List.head?_eq_getElem?]
    exact hps
  have hu0 : us[0]? = some (.ref a) := by
    obtain ⟨u, e1, e2⟩ := r.get (i := 0) (x := .ref a) (by rw [hvs]; rfl)
    rw [e1, show u = Value.ref a from e2]
  have ndP : ps.Nodup := by
    have q := S.nd.sublist (List.take_sublist (ps.length + 1) N)
    rw [show ps.length + 1 = ps.length + [("__class__" : Str)].length from rfl, S.pre] at q
    exact (List.nodup_append.mp q).1
  have hlook : (ps.zip us).reverse.lookup ar.arg = some (.ref a) := zip_look ndP hp0 hu0
  rw [hbd]
  refine ks_wpAt_execs_cons (ks_wpAt_Expr_any (ks_wpAt_MethodCall (pl := pl) ?_ (he _)) (by unfold interactive; simp [S.kind]))
  have X1 := I.kIn
  obtain ⟨oD, hD1, hD2⟩ : ∃ oD, h₁.get? C = some oD ∧ oD.data = .cls { name := nm, bases := bs, mro := .ref C :: bm, ns := N', qualname := q, hasDict := true, slotNames := sn, subclasses := sub, abstract := ab, collection := col, hasDel := false } := ⟨_, X1 _ _ hC, rfl⟩
  obtain ⟨mb, hb1, hb2⟩ := I.mod.blt
  refine ks_wpAt_super_base (env := envF (nf name qual params body scope cc cd) f s.heap.objs.size) gsu hn1 (by decide) rfl (X1 _ _ lk) rfl hp rfl (X1 _ _ lcd) rfl hv2 hfl htop ?_
  refine PySem.W.ks_loadName_global S.kind gsu (Calls.loadGlobal_builtin (env := envF (nf name qual params body scope cc cd) f s.heap.objs.size) (I.mod.glob.keeps I.bk) msu (hb1.keeps I.bk) ((hb2 _ (by decide)).trans (by kernel_rfl)) ⟨rfl, ?_⟩)
  refine wpAny_loadName_free S.kind hn1 rfl ⟨_, X1 _ _ lcc, rfl⟩ ?_
  refine wpAny_loadName_local S.kind hself hns hlook ?_
  refine ks_wpAny_isType_cls hD1 hD2 ⟨rfl, ?_⟩
  refine ks_wpAny_call_super hD1 hD2 hx rfl (fun c z => by cases z) (PySem.W.looks_mroIn X1 Y.self) (fun h' hso k => ?_)
  have I2 : Inv (ncx CX P w K mg base N (nf name qual params body scope cc cd) f A outer s H E) [] (startF N vs [some (.ref C)]) H { s with heap := h', toks := s.toks + (ps.zip us).length } := I.kept (t' := s.toks + (ps.zip us).length) k
  have X2 := I2.kIn
  have IA : PySem.W.InstAt h' a { cls := .ref C, dict := none, data := .fields #[.ref t0, .none, .none, .none, .bool false, .none] } C none := ⟨k _ _ hx, rfl, rfl, trivial⟩
  refine PySem.W.kxs_getMethod PySem.W.kxs_ValueError hso (PySem.W.looks_opaque X2 Y.opq) (l₀ := .ref C :: bm) (l := bm) ?_ (ESX.drop_own C bm) X2 hal (IA.type.andThen (PySem.W.looks_subIn X2 Y.isVE)) hxC (by decide) ?_
  · exact fun A Q E s k q => wpAny_bind ((PySem.W.looks_clsIn X2 hcl) A _ E s k (wpAny_pure q))
  have k2 : ∀ b o, h'.get? b = some o → (h'.push (PySem.W.kxs_mw "ValueError.__init__" a)).get? b = some o := fun b o e => Heap.get?_push_of_some _ e
  have I3 : Inv (ncx CX P w K mg base N (nf name qual params body scope cc cd) f A outer s H E) [] (startF N vs [some (.ref C)]) H { s with heap := h'.push (PySem.W.kxs_mw "ValueError.__init__" a), toks := s.toks + (ps.zip us).length + 1 } := I2.kept (t' := s.toks + (ps.zip us).length + 1) k2
  have hmw : (h'.push (PySem.W.kxs_mw "ValueError.__init__" a)).get? h'.objs.size = some (PySem.W.kxs_mw "ValueError.__init__" a) := Heap.get?_push_size _ rfl
  have I4 : Inv (ncx CX P w K mg base N (nf name qual params body scope cc cd) f A outer s H E) [(h'.objs.size, PySem.W.kxs_mw "ValueError.__init__" a)] (startF N vs [some (.ref C)]) H { s with heap := h'.push (PySem.W.kxs_mw "ValueError.__init__" a), toks := s.toks + (ps.zip us).length + 1 } := I3.pins_of fun p hp => by
    rw [List.mem_singleton.mp hp]
    exact ⟨hmw, I2.hok.fresh (Nat.le_refl _), Nat.ne_of_gt I2.lt, I2.nofs (Nat.le_refl _), fun v z => by cases z⟩
  dsimp only
  rw [hst]
  refine PySem.W.kxs_callWith (i := "ValueError.__init__") (x := a) rfl (Calls.evalArgs_plain (Calls.spliced_cons (thn (pe.run _ _ _ _ _ I4 hq) fun u s1 ⟨v, H1, I5, r1, ea1, hq1⟩ => Calls.spliced_nil ?_)))
  have hpin := (I5.pin (h'.objs.size, PySem.W.kxs_mw "ValueError.__init__" a) (by simp)).1
  refine ⟨hpin, ?_⟩
  obtain ⟨t1, hx1⟩ := exo_at I5.hok ea1
  have hC5 := I5.kIn _ _ hC
  obtain ⟨hp1, g1, d1, tk1, os1⟩ := s1
  refine call_mw hC5 hx1 hpin (by show 1 ≤ sizeLine; decide) fun h2 t2 k5 hx2 => ?_
  have J := I5.write (t' := tk1) (x := a) (e := a) (o := exo a C none) (by rw [ea1]; exact True.intro) (.inl rfl) k5 ⟨_, hx2⟩ (exo_ok hx2)
  have eu : upd H1 a (exo a C none) = H1 := by
    funext b
    by_cases hb : b = a
    · rw [hb, upd_same, ea1]
    · rw [upd_ne hb]
  rw [eu] at J
  have J := J.pins_of (pins' := []) (fun p hp => nomatch hp)
  refine wpAt_of_wpAny ?_
  refine wpAny_mono (ps'.run [] _ (startF N vs [some (.ref C)]) H1 _ J hq1) (fun fl s' hs => ?_) fun e s' hs => hs
  have fin : ∀ {σ' : L2.St} {H' : Hp} {v : V} {u : Value}, Inv (ncx CX P w K mg base N (nf name qual params body scope cc cd) f A outer s H E) [] σ' H' s' → L2.RelV v u → Q v H' → CE outer P w H s Q u s' :=
    fun {σ' H' v u} J rv q => ⟨v, H', J.os, J.bare, J.base, J.hok, rv, q⟩
  cases fl with
  | ret u =>
    obtain ⟨v, σ', H', J, rv, q⟩ := hs
    exact fin J rv q
  | next =>
    obtain ⟨σ', H', J, q⟩ := hs
    exact fin (v := V.non) (u := Value.none) J rfl q
  | brk =>
    obtain ⟨_, _, _, q⟩ := hs
    exact False.elim q
  | cont =>
    obtain ⟨_, _, _, q⟩ := hs
    exact False.elim q
end
end XSU
end
section
set_option maxRecDepth 100000
set_option maxHeartbeats 4000000
/-! list.count of flat things; isinstance of a caught error, with or without a dict -/
namespace XEU
open PySem PySem.Spec PyProof.Rows L2
theorem count_eqU {x : V} : ∀ {xs : List V} {us : List Value}, Vals xs us → xs.all flatV = true → us.countP (eqU x) = xs.countP fun y => eqV y x
  | _, _, .nil, _ => rfl
  | _, _, .cons r t, f => by
    rw [List.all_cons, Bool.and_eq_true] at f
    rw [List.countP_cons, List.countP_cons, count_eqU t f.2, eqU_of r f.1]
section
variable {X : Cx}
def rCountF (K : PySem.W.Frag) : V → List V → Hp → VK → Prop := fun x xs H Q => ∃ (a : Addr) (ys : List V) (y : V), x = V.ref a ∧ xs = [y] ∧ SqL K H a ys ∧ flatV y = true ∧ ys.all flatV = true ∧ Q (.int ((ys.countP fun z => eqV z y : Nat) : Int)) H
theorem mt_countF : MtR X "list.count" (rCountF X.K) := by
  intro pins s σ H x xs v us Q I rx rxs h
  obtain ⟨a, ys, y, rfl, rfl, hs, fy, fys, q⟩ := h
  cases rx
  cases rxs with
  | cons ry rt =>
    rename_i uy ut
    cases rt
    obtain ⟨its, rv, ⟨⟨cls, dd, data, sl⟩, n, ho, hc, hdn, hd⟩, hlen⟩ := I.list hs
    simp only at hc hd
    subst hc hd
    refine call_meets PySem.F.slot_list_count ⟨_, ho, rfl⟩ PySem.F.entry_list_count (PySem.F.args_list_count_2 _ _)
      (SeqAt.list_countAt a its.toArray n dd sl uy (eqU y)) ⟨ho, fun u' hu' => mem_eqAt ry fy rv fys u' (by simpa using hu'), ?_⟩
    have ec : its.toArray.toList.countP (eqU y) = ys.countP fun z => eqV z y := count_eqU rv fys
    rw [ec]
    exact ⟨.int ((ys.countP fun z => eqV z y : Nat) : Int), H, I.tok _, ⟨_, rfl⟩, q⟩
end
/-- the dict of the caught error, if it has one, stands -/
def DictAt (d : Option Addr) (H : Hp) : Prop := d = none ∨ ∃ dd fs, d = some dd ∧ H dd = some (.xd fs)
def rIsE (K : PySem.W.Frag) (cls : Value) (d : Option Addr) (a : Addr) : List V → Hp → VK → Prop := fun xs H Q => ∃ (D : Addr) (c : V) (cv : Value) (b : Bool), cls = .ref D ∧ ExcC K D ∧ xs = [.ref a, c] ∧ (∀ u, RelV c u → u = cv) ∧ PySem.W.kitOne K (.ref D) cv = some b ∧ DictAt d H ∧ Q (.bl b) H
theorem call_isE {X : Cx} {a : Addr} {cls : Value} {d : Option Addr} {oe : Obj} {pn : List (Addr × Obj)} (hz : Zc cls d oe) (hf : ∃ vs, oe.data = .fields vs) : CallR (X.suite a ((a, oe) :: pn)) (.builtin "isinstance") (rIsE X.K cls d a) := by
  intro pins s σ H xs us Q I r h
  obtain ⟨D, c, cv, b, rfl, C, rfl, hcv, e, hd, q⟩ := h
  cases r with
  | cons rx rr =>
    cases rr with
    | cons rt rr =>
      cases rr
      cases rx
      have ec := hcv _ rt
      subst ec
      obtain ⟨hget, _⟩ := I.pin (a, oe) (List.mem_append.mpr (.inl List.mem_cons_self))
      obtain ⟨vs, hv⟩ := hf
      have hcl : (PySem.W.clsIn X.K D).isSome = true := by
        obtain ⟨cd, hc, _⟩ := PySem.W.any_some C.hd
        rw [hc]
        rfl
      have J : ∃ od, PySem.W.InstAt s.heap a oe D od := by
        obtain ⟨oc, od, oda, osl⟩ := oe
        obtain ⟨h1, h2⟩ := hz
        dsimp only at h1 h2 hv
        subst h1 h2 hv
        rcases hd with e1 | ⟨dd, fs, e1, e2⟩
        · subst e1
          exact ⟨none, hget, rfl, rfl, trivial⟩
        · subst e1
          have hx : ObjOk X.prog X.w H s.heap dd (.xd fs) := I.hok dd _ e2
          obtain ⟨mA, hns, hr⟩ := hx
          obtain ⟨od, ho, hl⟩ := lookIn_ns hns
          exact ⟨some od, hget, rfl, rfl, ho⟩
      obtain ⟨od, J⟩ := J
      exact PySem.W.kia_one (PySem.W.kitx_exc hcl C.hg C.hk C.hs C.ha C.hn C.ht C.hm) I.kIn J e (fun z => nomatch z) fun tk => ⟨.bl b, H, I.kept (t' := tk) fun _ _ z => z, rfl, q⟩
end XEU
end
section
set_option maxRecDepth 100000
set_option maxHeartbeats 4000000
/-! a head's facts of own error classes with an __init__ that says super() -/
namespace HeY
open PySem PySem.Spec PyProof.Rows L2 He
/-- the cells that functions among these have captured -/
def cellsOf (g : Addr → Option Obj) (l : List Addr) : List Addr := l.flatMap fun a => match g a with
  | some ⟨_, _, .func fd, _⟩ => fd.closure.map (·.2)
  | _ => []
def asE (g : Addr → Option Obj) (n : Nat) : List Addr := cStatics :: (asD g n ++ cellsOf g (asD g n))
abbrev FnY : Type := Option (Str × Str × Arguments × FuncBody × Scope)
def fnY (K : PySem.W.Frag) (x : Str) : FnY := match K.lookup (fAd K (x, some "__init__")) with
  | some ⟨_, _, .func fd, _⟩ => some (fd.name, fd.qualname, fd.params, fd.body, fd.scope)
  | _ => none
structure InD where
  cls : Str
  qual : Str
  params : Arguments
  body : List Stmt
  scope : Scope
def InD.val (d : InD) : FnY := some ("__init__", d.qual, d.params, .stmts d.body, d.scope)
abbrev AlY : Type := AlX × List FnY
def obsY (n : Nat) (fa : List Fa) (fn : List DefD) (ts : List Tab) (tf : List Defn) (xs : List InD) (ex : PySem.W.Frag → Bool) (g : Addr → Option Obj) : AlY :=
  ((obsT fa fn ts (frT g (asE g n)), ex (frT g (asE g n)) && tabsB g tf (frT g (asE g n))), xs.map fun d => fnY (frT g (asE g n)) d.cls)
def valY (fn : List DefD) (ts : List Tab) (xs : List InD) (w : World) : AlY := (valX fn ts w, xs.map InD.val)
structure SaysY (fa : List Fa) (fn : List DefD) (ts : List Tab) (tf : List Defn) (xs : List InD) (ex : PySem.W.Frag → Bool) (w : World) (h : Heap) (K : PySem.W.Frag) : Prop where
  x : SaysX fa fn ts tf ex w h K
  inits : xs.map (fun d => fnY K d.cls) = xs.map InD.val
theorem saysY_of {n : Nat} {fa : List Fa} {fn : List DefD} {ts : List Tab} {tf : List Defn} {xs : List InD} {ex : PySem.W.Frag → Bool} {w : World} {h : Heap} (e : obsY n fa fn ts tf xs ex h.get? = valY fn ts xs w) : SaysY fa fn ts tf xs ex w h (frT h.get? (asE h.get? n)) := by
  have e0 : (obsT fa fn ts (frT h.get? (asE h.get? n)), ex (frT h.get? (asE h.get? n)) && tabsB h.get? tf (frT h.get? (asE h.get? n))) = valX fn ts w := congrArg (fun z : AlY => z.1) e
  have e1 : obsT fa fn ts (frT h.get? (asE h.get? n)) = valT fn ts w := congrArg (fun z : AlX => z.1) e0
  have e2 : (ex (frT h.get? (asE h.get? n)) && tabsB h.get? tf (frT h.get? (asE h.get? n))) = true := congrArg (fun z : AlX => z.2) e0
  have e3 : xs.map (fun d => fnY (frT h.get? (asE h.get? n)) d.cls) = xs.map InD.val := congrArg (fun z : AlY => z.2) e
  obtain ⟨h1, h2⟩ := ba e2
  have key : ∀ p ∈ tf, PySem.W.codeHdIn (frT h.get? (asE h.get? n)) (cT (frT h.get? (asE h.get? n)) p).1 (cT (frT h.get? (asE h.get? n)) p).2 = true ∧ ∃ o, h.get? (cT (frT h.get? (asE h.get? n)) p).2 = some o ∧ emptyTab o = true := fun p hp => by
    obtain ⟨h3, h4⟩ := ba (List.all_eq_true.mp h2 p hp)
    refine ⟨h3, ?_⟩
    cases q : h.get? (cT (frT h.get? (asE h.get? n)) p).2 with
    | none =>
      rw [q] at h4
      cases h4
    | some o =>
      rw [q] at h4
      exact ⟨o, rfl, h4⟩
  exact ⟨⟨e1, h1, fun p hp => (key p hp).1, fun p hp => by
    obtain ⟨_, o, q, z⟩ := key p hp
    exact frT_none q z, fun p hp => by
    obtain ⟨_, o, q, z⟩ := key p hp
    rw [q, emptyTab_eq z]⟩, e3⟩
def hookY (n : Nat) (fa : List Fa) (fn : List DefD) (ts : List Tab) (tf : List Defn) (xs : List InD) (ex : PySem.W.Frag → Bool) : PySem.W.Hook where
  α := AlY
  obs := fun s => obsY n fa fn ts tf xs ex s.heap.get?
  val := fun w => valY fn ts xs w
  says := fun w h => ∃ K : PySem.W.Frag, K.In h ∧ SaysY fa fn ts tf xs ex w h K
  of := fun _ _ e => ⟨_, frT_in, saysY_of e⟩
  keeps := fun _ _ _ ⟨K, hK, c⟩ k => ⟨K, PySem.W.Frag.In.keeps hK k, ⟨⟨c.x.t, c.x.more, c.x.hd, c.x.out, fun p hp => k _ _ (c.x.empty p hp)⟩, c.inits⟩⟩
theorem obsY_eq {n : Nat} {fa : List Fa} {fn : List DefD} {ts : List Tab} {tf : List Defn} {xs : List InD} {ex : PySem.W.Frag → Bool} {g : Addr → Option Obj} {s : Shared} (h : ∀ a, g a = s.heap.get? a) : obsY n fa fn ts tf xs ex g = (hookY n fa fn ts tf xs ex).obs s := by
  have e : g = s.heap.get? := funext h
  rw [e] <;> rfl
/-! ### the classes -/
def oexB (K : PySem.W.Frag) (C : Addr) : Bool := match K.lookup C with
  | some ⟨.type "type", _, .cls cd, sl⟩ => (match cd.mro, sl.toList with
    | .ref C' :: bm, [_, _, _, _, some (.builtin n), _] => C' == C && n == "ValueError.__new__" && !cd.hasDel && cd.hasDict && PySem.HandSPX.refsVE bm && decide (PySem.W.alongIn K "__init__" bm = some (some (.builtin "ValueError.__init__")))
    | _, _ => false)
  | _ => false
theorem oexB_ok {K : PySem.W.Frag} {C : Addr} (q : oexB K C = true) : ∃ nm q N bs bm sn sub ab col dd k0 k1 k2 k3 k5, K.lookup C = some (excClassObj nm q C N bs bm true sn sub ab col dd k0 k1 k2 k3 k5 "ValueError.__new__") ∧ PySem.HandSPX.refsVE bm = true ∧ PySem.W.alongIn K "__init__" bm = some (some (.builtin "ValueError.__init__")) := by
  unfold oexB at q
  split at q
  · rename_i dd cd sl ho
    split at q
    · rename_i C' bm k0 k1 k2 k3 n k5 hm hs
      simp only [Bool.and_eq_true, beq_iff_eq, Bool.not_eq_true', decide_eq_true_eq] at q
      obtain ⟨⟨⟨⟨⟨rfl, rfl⟩, hdel⟩, hdc⟩, hr⟩, ha⟩ := q
      obtain ⟨nm, bs, mro, ns, qn, hd, sn, sub, ab, col, del⟩ := cd
      dsimp only at hm hdel hdc
      subst hm hdel hdc
      have hsl : sl = #[k0, k1, k2, k3, some (.builtin "ValueError.__new__"), k5] := by
        obtain ⟨l⟩ := sl
        simp only at hs
        rw [hs]
      subst hsl
      exact ⟨nm, qn, ns, bs, bm, sn, sub, ab, col, dd, k0, k1, k2, k3, k5, ho, hr, ha⟩
    · cases q
  · cases q
/-- the cell that such an __init__ has captured, its code object -/
def ccOf (K : PySem.W.Frag) (f : Addr) : Addr := match K.lookup f with
  | some ⟨_, _, .func fd, _⟩ => (match fd.closure with
    | [(_, c)] => c
    | _ => 0)
  | _ => 0
def cdOf (K : PySem.W.Frag) (f : Addr) : Addr := match K.lookup f with
  | some ⟨_, _, .func fd, _⟩ => (match fd.code with
    | .ref c => c
    | _ => 0)
  | _ => 0
def cloB (K : PySem.W.Frag) (f : Addr) : Bool := match K.lookup f with
  | some ⟨_, _, .func fd, _⟩ => (match fd.closure, fd.code with
    | [(n, _)], .ref _ => decide (n = "__class__") && (decide (fd.globals = mainGlobals) && decide (fd.builtins = builtinsNs))
    | _, _ => false)
  | _ => false
def fileB (K : PySem.W.Frag) (file : Str) (c : Addr) : Bool := match K.lookup c with
  | some ⟨_, _, .fields vs, _⟩ => (match (vs[2]? : Option Value) with
    | some (.str z _) => file == z
    | _ => false)
  | _ => false
def cellB (K : PySem.W.Frag) (c C : Addr) : Bool := match K.lookup c with
  | some ⟨_, _, .cell (some v), _⟩ => decide (v = .ref C)
  | _ => false
def clsB (K : PySem.W.Frag) (C : Addr) : Bool := oexB K C && (eqO (PySem.W.findIn K (.ref C) "__setattr__") (some (some (.builtin "object.__setattr__"))) && (decide (PySem.W.subIn K (.ref C) (.type "BaseException") = some true) && (decide (PySem.W.typeIn K (.ref C) = some (.type "type")) && PySem.W.keepIn K (.ref C))))
def supB (K : PySem.W.Frag) (file x qual : Str) : Bool :=
  clsB K (ga K x) && (decide (PySem.W.mroIn K (ga K x) (.ref (ga K x)) = some true) && (decide (PySem.W.subIn K (.ref (ga K x)) (.type "ValueError") = some true) && (eqO (PySem.W.nsIn K cStatics "thirdparty.any") (some none) &&
    (eqO (PySem.W.findIn K (.ref (ga K x)) "__init__") (some (some (.ref (ma K (ga K x) "__init__")))) && (decide (PySem.W.typeIn K (.ref (ma K (ga K x) "__init__")) = some (.type "function")) && (cloB K (ma K (ga K x) "__init__") &&
    (PySem.W.codeIn K (.ref (cdOf K (ma K (ga K x) "__init__"))) qual && (fileB K file (cdOf K (ma K (ga K x) "__init__")) && cellB K (ccOf K (ma K (ga K x) "__init__")) (ga K x)))))))))
theorem clsB_ok {K : PySem.W.Frag} {C : Addr} (h : clsB K C = true) : OexC K C := by
  obtain ⟨h1, h⟩ := ba h
  obtain ⟨h2, h⟩ := ba h
  obtain ⟨h3, h⟩ := ba h
  obtain ⟨h4, h5⟩ := ba h
  obtain ⟨nm, q, N, bs, bm, sn, sub, ab, col, dd, k0, k1, k2, k3, k5, e1, e2, _⟩ := oexB_ok h1
  exact ⟨⟨nm, q, N, bs, bm, sn, sub, ab, col, dd, k0, k1, k2, k3, k5, e1, e2⟩, eqO_ok h2, of_decide_eq_true h3, of_decide_eq_true h4, h5⟩
structure SupX (P : Program) (K : PySem.W.Frag) (d : InD) : Prop where
  c : XSU.SupC P K (ga K d.cls) (ma K (ga K d.cls) "__init__") (ccOf K (ma K (ga K d.cls) "__init__")) (cdOf K (ma K (ga K d.cls) "__init__")) "__init__" d.qual d.params d.body d.scope
  init : PySem.W.findIn K (.ref (ga K d.cls)) "__init__" = some (some (.ref (ma K (ga K d.cls) "__init__")))
  ty : PySem.W.typeIn K (.ref (ma K (ga K d.cls) "__init__")) = some (.type "function")
theorem supB_ok {P : Program} {K : PySem.W.Frag} {file : Str} {d : InD} (e : fnY K d.cls = d.val) (h : supB K file d.cls d.qual = true) (hf : P.main.file = file) : SupX P K d := by
  obtain ⟨h1, h⟩ := ba h
  obtain ⟨h2, h⟩ := ba h
  obtain ⟨h3, h⟩ := ba h
  obtain ⟨h4, h⟩ := ba h
  obtain ⟨h5, h⟩ := ba h
  obtain ⟨h6, h⟩ := ba h
  obtain ⟨h7, h⟩ := ba h
  obtain ⟨h8, h⟩ := ba h
  obtain ⟨h9, h10⟩ := ba h
  refine ⟨⟨clsB_ok h1, oexB_ok (ba h1).1, of_decide_eq_true h2, of_decide_eq_true h3, eqO_ok h4, ?_, h8, ?_, ?_⟩, eqO_ok h5, of_decide_eq_true h6⟩
  · unfold cloB at h7
    unfold fnY fAd at e
    unfold ccOf cdOf
    cases q : K.lookup (ma K (ga K d.cls) "__init__") with
    | none =>
      rw [q] at h7
      cases h7
    | some o =>
      obtain ⟨oc, od, dt, osl⟩ := o
      cases dt with
      | func fd =>
        rw [q] at h7
        dsimp only at e
        rw [q] at e
        obtain ⟨n1, n2, n3, n4, n5, n6, n7, n8, n9, n10, n11, n12, n13, n14, n15⟩ := fd
        have e2 : (some (n1, n2, n3, n4, n5) : FnY) = some (("__init__" : Str), d.qual, d.params, FuncBody.stmts d.body, d.scope) := e
        simp only [Option.some.injEq, Prod.mk.injEq] at e2
        obtain ⟨g1, g2, g3, g4, g5⟩ := e2
        subst g1 g2 g3 g4 g5
        dsimp only at h7 ⊢
        cases n7 with
        | nil => cases h7
        | cons p r =>
          cases r with
          | cons _ _ => cases n13 <;> cases h7
          | nil =>
            obtain ⟨n, c⟩ := p
            cases n13 with
            | ref cd =>
              obtain ⟨z1, z⟩ := ba h7
              obtain ⟨z2, z3⟩ := ba z
              obtain rfl : n = "__class__" := of_decide_eq_true z1
              obtain rfl : n6 = mainGlobals := of_decide_eq_true z2
              obtain rfl : n15 = builtinsNs := of_decide_eq_true z3
              exact ⟨oc, od, osl, _, _, _, _, _, _, rfl⟩
            | _ => cases h7
      | _ =>
        rw [q] at h7
        cases h7
  · unfold fileB at h9
    split at h9
    · rename_i e dd vs sl ho
      split at h9
      · rename_i z tf hz
        exact ⟨e, dd, vs, sl, z, tf, ho, hz, by rw [hf]; exact h9⟩
      · cases h9
    · cases h9
  · unfold cellB at h10
    split at h10
    · rename_i e dd v sl ho
      have := of_decide_eq_true h10
      subst this
      exact ⟨e, dd, sl, ho⟩
    · cases h10
end HeY
end
section
set_option maxRecDepth 100000
set_option maxHeartbeats 4000000
namespace MS
open PySem L2
open HeY
/-! ### defs that raise -/
theorem Def.okX {P : Program} {w : World} {K : PySem.W.Frag} {mg : Str → Option Value} {base : Heap} {x : Str} {st : Stmt} {ps N : List Str} {k : Nat} {sp : Sp} (D : Def K mg x st ps) (S : FnScope N ps (defScope st)) (len : ∀ vs H Q E, sp vs H Q E → vs.length = ps.length)
    (hbody : ∀ (cdv : Value) (A : Around) (outer : List Env) (s : Shared) (H : Hp) (vs : List V) (Q : VK) (E : XK), Room k (A.deeper (PyProof.Rows.envOfC x (defScope st) s.heap.objs.size D.f cdv)) → sp vs H Q E →
      ∃ t, PSs (cxOf (L2.CX P w) P w K mg base N x (defScope st) D.f cdv A outer s H E) (defBody st) t ∧ t { nx := fun _ H' => Q .non H', rt := Q } (start N vs) H) : FnOk P w K mg base (L2.CX P w) (k + 1) D.f D.fd ps sp := D.F.ok S len hbody
theorem pcallX {X : Cx} {x : Str} {st : Stmt} {ps : List Str} {k : Nat} {sp : Sp} {E : XK} {e : Expr} {es : List Expr} {t : TA} {p pos : Pos} (D : Def X.K X.mg x st ps) (G : FnOk X.prog X.w X.K X.mg X.base (L2.CX X.prog X.w) k D.f D.fd ps sp) (hr : Room k X.A) (hx : Passes (L2.CX X.prog X.w) X E)
    (ha : PA X (e :: es) t) (hg : Gl X x := by rfl) (hdb : (x == ("__debug__" : Str)) = false := by decide) (he : starEach (e :: es) X.env = (false, eval e X.env) :: starEach es X.env := by rfl) (hpl : (backTo pos (starEach es X.env)).any (·.1) = false := by rfl) : PE X (.Call (.Name x p) (e :: es) [] pos) (tCall sp [] E t) :=
  pe_call G hr hg D.g D.F.kp D.b .nil hx ha hdb he hpl
/-- an error with one number is let out -/
def Raised (C : Addr) (fld : Str) (n : Int) (H : Hp) (E : XK) : Prop := ∀ (d : Addr) (H' : Hp), H d = none → Same H H' → H' d = some (.xd [(fld, .int n)]) → E (.ref C) (some d) H'
theorem Raised.from {C : Addr} {fld : Str} {n : Int} {H H1 : Hp} {E : XK} (h : Raised C fld n H E) (s : Same H H1) : Raised C fld n H1 E := fun d H' hd s' e => h d H' (s.free hd) (s.trans s') e
def spInit1 (C : Addr) (fld : Str) : Sp := fun vs H Q _ => ∃ (a : Addr) (n : Int), vs = [.ref a, .int n] ∧ 0 ≤ n ∧ n < 1000 ∧ H a = some (exo a C none) ∧ ∀ dx, H dx = none → dx ≠ a → Q .non (upd (upd H dx (exd dx [(fld, .int n)])) a (exo a C (some dx)))
structure Rsr (P : Program) (w : World) (K : PySem.W.Frag) (mg : Str → Option Value) (base : Heap) (x par fld : Str) where
  C : Addr
  f : Addr
  fd : FuncData
  T : OexC K C
  init : PySem.W.findIn K (.ref C) "__init__" = some (some (.ref f))
  ty : PySem.W.typeIn K (.ref f) = some (.type "function")
  ok : FnOk P w K mg base CX0 1 f fd ["self", par] (spInit1 C fld)
  b : Binds K fd ["self", par] []
  g : mg x = some (.ref C)
theorem pmk_r {X : Cx} {x par fld : Str} {e : Expr} {te : TE} {p pos : Pos} (R : Rsr X.prog X.w X.K X.mg X.base x par fld) (hr : Room 2 X.A) (he : PE X e te) (hg : Gl X x := by rfl) (hdb : (x == ("__debug__" : Str)) = false := by decide)
    (h1 : starEach [e] X.env = (false, eval e X.env) :: starEach [] X.env := by rfl) (h2 : (backTo pos (starEach [] X.env)).any (·.1) = false := by rfl) : PMk X (.Call (.Name x p) [e] [] pos) (tMkO R.C (spInit1 R.C fld) [] (tCons te tNil)) :=
  pmk_oex R.T R.init R.ty R.ok hr R.b .nil pass0 hg R.g (pa_cons he pa_nil (hs := h1)) hdb h1 h2
theorem raised_of {C : Addr} {fld : Str} {n : Int} {H1 : Hp} {Q : XK} (h0 : 0 ≤ n) (h1 : n < 1000) (h : ∀ (d : Addr) (H' : Hp), H1 d = none → Same H1 H' → H' d = some (.xd [(fld, .int n)]) → Q (.ref C) (some d) H') : [V.int n].length ≤ 1000 ∧ ∀ a, H1 a = none → spInit1 C fld (.ref a :: ([.int n] ++ [])) (upd H1 a (exo a C none))
    (fun v H2 => v = .non ∧ ∃ (d : Addr) (fs : List (Str × V)), H2 a = some (exo a C (some d)) ∧ H2 d = some (exd d fs) ∧ H1 d = none ∧ Q (.ref C) (some d) (upd (L2.del H2 a) d (.xd fs))) (fun _ _ _ => False) := by
  refine ⟨by show 1 ≤ 1000; decide, fun a ha => ⟨a, n, rfl, h0, h1, upd_same, fun dx hdx hne => ⟨rfl, dx, [(fld, .int n)], upd_same, by rw [upd_ne hne, upd_same], ?_, ?_⟩⟩⟩
  · rw [upd_ne hne] at hdx
    exact hdx
  · rw [upd_ne hne] at hdx
    refine h dx _ hdx (fun b o e => ?_) upd_same
    have n1 : b ≠ a := ne_of_none e ha
    have n2 : b ≠ dx := ne_of_none e hdx
    rw [upd_ne n2, L2.del_ne n1, upd_ne n1, upd_ne n2, upd_ne n1]
    exact e
/-- raise X(e) -/
theorem ps_rs {X : Cx} {x par fld : Str} {e : Expr} {te : TE} {p pos pos' : Pos} {W : WX} (R : Rsr X.prog X.w X.K X.mg X.base x par fld) (hc : X.calm = true) (tk : L2.Takes X W) (hr : Room 2 X.A) (he : PE X e te) (hg : Gl X x := by rfl) (hdb : (x == ("__debug__" : Str)) = false := by decide)
    (h1 : starEach [e] X.env = (false, eval e X.env) :: starEach [] X.env := by rfl) (h2 : (backTo pos (starEach [] X.env)).any (·.1) = false := by rfl) : PS X (.Raise (some (.Call (.Name x p) [e] [] pos)) none pos') (fun _ σ H => tMkO R.C (spInit1 R.C fld) [] (tCons te tNil) σ H fun cls d H' => W cls d σ H') :=
  L2.ps_raise hc tk (pmk_r R hr he hg hdb h1 h2)
/-! ### the errors' __init__ -/
abbrev s_Work_init : Stmt := inClass (topS 3) 0
abbrev s_Text_init : Stmt := inClass (topS 7) 0
abbrev dWork : InD := ⟨"BadWork", "BadWork.__init__", defArgs s_Work_init, defBody s_Work_init, defScope s_Work_init⟩
abbrev dText : InD := ⟨"BadText", "BadText.__init__", defArgs s_Text_init, defBody s_Text_init, defScope s_Text_init⟩
theorem small_text {n : Int} (h0 : 0 ≤ n) (h1 : n < 1000) : n.natAbs.log2 < 1920 ∧ (Str.ofString (toString n)).length ≤ 4 := by
  have h2 : n.natAbs < 10 ^ 3 := by
    show n.natAbs < 1000
    omega
  refine ⟨?_, ?_⟩
  · by_cases z : n.natAbs = 0
    · rw [z]
      decide
    · exact Nat.lt_of_le_of_lt (Nat.log2_le_self _) (by omega)
  · rw [PySem.ofString_length]
    exact PySem.int_text_length_le10 (k := 3) (by decide) h2
section
variable {P : Program} {w : World} {K : PySem.W.Frag} {mg : Str → Option Value} {base : Heap}
theorem init_work (Y : SupX P K dWork) (hP : (P.main.scope.names.lookup ("super" : Str)).isSome = false) (msu : mg "super" = none) (hno : PySem.W.findIn K (.ref (He.ga K "BadWork")) "number" = some none) {fd : FuncData} (hfd : ∃ oc od osl, K.lookup (He.ma K (He.ga K "BadWork") "__init__") = some ⟨oc, od, .func fd, osl⟩) :
    FnOk P w K mg base CX0 1 (He.ma K (He.ga K "BadWork") "__init__") fd ["self", "number"] (spInit1 (He.ga K "BadWork") "number") := by
  refine XSU.fn_super (N := ["self", "number", "__class__"]) (k := 0) Y.c rfl hfd (NdefX.nscope_by (by decide +kernel)) rfl rfl msu rfl hP (fun vs H Q E h => ?_) (fun env => rfl) (fun env => rfl) (fun A outer s H vs Q E hr h => ?_)
  · obtain ⟨a, n, rfl, _⟩ := h
    rfl
  obtain ⟨a, n, rfl, h0, h1, ea, q⟩ := h
  obtain ⟨t1, t2⟩ := small_text h0 h1
  refine ⟨a, [.int n], _, _, rfl, pe_joined (.cons pe_str (.cons (pe_fmt (pv 1)) .nil)), pss_one (ps_ost (pv 0) (pv 1)), ea, ?_⟩
  refine ⟨_, rfl, by decide +kernel, _, rfl, .inr ⟨n, rfl, t1, _, rfl, ?_, ea, ?_⟩⟩
  · have e1 : (Str.empty ++ ("no work: step " : Str)).length = 14 := by decide +kernel
    have e2 : ((Str.empty ++ ("no work: step " : Str)) ++ Str.ofString (toString n)).length = (Str.empty ++ ("no work: step " : Str)).length + (Str.ofString (toString n)).length := Str.length_append _ _
    exact szN (by rw [e2, e1]; omega)
  · exact ⟨_, rfl, _, rfl, a, _, rfl, Y.c.T, hno, .inl ⟨ea, fun dx hdx hne => q dx hdx hne⟩⟩
theorem init_text (Y : SupX P K dText) (hP : (P.main.scope.names.lookup ("super" : Str)).isSome = false) (msu : mg "super" = none) (hno : PySem.W.findIn K (.ref (He.ga K "BadText")) "place" = some none) {fd : FuncData} (hfd : ∃ oc od osl, K.lookup (He.ma K (He.ga K "BadText") "__init__") = some ⟨oc, od, .func fd, osl⟩) :
    FnOk P w K mg base CX0 1 (He.ma K (He.ga K "BadText") "__init__") fd ["self", "place"] (spInit1 (He.ga K "BadText") "place") := by
  refine XSU.fn_super (N := ["self", "place", "__class__"]) (k := 0) Y.c rfl hfd (NdefX.nscope_by (by decide +kernel)) rfl rfl msu rfl hP (fun vs H Q E h => ?_) (fun env => rfl) (fun env => rfl) (fun A outer s H vs Q E hr h => ?_)
  · obtain ⟨a, n, rfl, _⟩ := h
    rfl
  obtain ⟨a, n, rfl, h0, h1, ea, q⟩ := h
  obtain ⟨t1, t2⟩ := small_text h0 h1
  refine ⟨a, [.int n], _, _, rfl, pe_joined (.cons pe_str (.cons (pe_fmt (pv 1)) .nil)), pss_one (ps_ost (pv 0) (pv 1)), ea, ?_⟩
  refine ⟨_, rfl, by decide +kernel, _, rfl, .inr ⟨n, rfl, t1, _, rfl, ?_, ea, ?_⟩⟩
  · have e1 : (Str.empty ++ ("no such text: word " : Str)).length = 19 := by decide +kernel
    have e2 : ((Str.empty ++ ("no such text: word " : Str)) ++ Str.ofString (toString n)).length = (Str.empty ++ ("no such text: word " : Str)).length + (Str.ofString (toString n)).length := Str.length_append _ _
    exact szN (by rw [e2, e1]; omega)
  · exact ⟨_, rfl, _, rfl, a, _, rfl, Y.c.T, hno, .inl ⟨ea, fun dx hdx hne => q dx hdx hne⟩⟩
end
end MS
end
section
set_option maxRecDepth 100000
set_option maxHeartbeats 4000000
namespace MS
open PySem L2
/-! ### read_work -/
abbrev s_read_work : Stmt := topS 17
/-- slots: 0 text, 1 work, 2 place, 3 word -/
theorem sc_read_work : FnScope ["text", "work", "place", "word"] ["text"] (defScope s_read_work) := ⟨rfl, rfl, rfl, by decide +kernel, rfl, by decide +kernel, by decide +kernel⟩
def freeL : List Str := ["len", "list", "range", "tuple", "int", "isinstance", "any", "enumerate", "str", "bool", "super", "ValueError"]
structure PTx (w : World) (K : PySem.W.Frag) (mg : Str → Option Value) : Prop where
  words : ∃ a, mg "WORDS" = some (.ref a) ∧ ∀ H, SqT K H a (wordsL.map V.str)
  right : ∃ t, mg "RIGHT" = some (.str "r" t)
  wrong : ∃ t, mg "WRONG" = some (.str "w" t)
  carried : ∃ t, mg "CARRIED" = some (.str "c" t)
  mostSteps : ∃ t, mg "MOST_STEPS" = some (.int 12 t)
  free : ∀ x ∈ freeL, mg x = none
/-- a text's sign -/
def sgn (x : Str) (i : Nat) : Str := ⟨#[x.cps.toList.getD i 0]⟩
theorem sgn_at {x : Str} {i : Nat} (h : i < x.length) : atI x.cps.toList (i : Int) = some (x.cps.toList.getD i 0) := by
  have hl : i < x.cps.toList.length := by rw [Array.length_toList]; exact h
  have e : x.cps.toList.getD i 0 = x.cps.toList[i] := by rw [List.getD_eq_getElem?_getD, List.getElem?_eq_getElem hl]; rfl
  rw [e]
  exact atI_nat (List.getElem?_eq_getElem hl)
def marksV : List V := [.str "r", .str "w", .str "c"]
def stepB (x : Str) : Bool := (x.length == 2) && (inV (.str (sgn x 0)) (wordsL.map V.str) && inV (.str (sgn x 1)) marksV)
def spIsStep : Sp := fun vs H Q _ => ∃ x : Str, vs = [.str x] ∧ x.length ≤ 1000 ∧ ∀ H', Same H H' → Q (.bl (stepB x)) H'
section
variable {P : Program} {w : World} {K : PySem.W.Frag} {mg : Str → Option Value} {base : Heap}
theorem ok_is_step (T : PTx w K mg) (D : Def K mg "is_step" s_is_step ["thing"]) : FnOk P w K mg base CX0 1 D.f D.fd ["thing"] spIsStep := by
  obtain ⟨aW, gW, qW⟩ := T.words
  obtain ⟨tr, gr⟩ := T.right
  obtain ⟨tw, gw⟩ := T.wrong
  obtain ⟨tc, gc⟩ := T.carried
  refine D.ok sc_is_step (fun vs H Q E h => ?_) (fun cdv A outer s H vs Q E hr h => ?_)
  · obtain ⟨p, rfl, _⟩ := h
    rfl
  obtain ⟨x, rfl, hl, q⟩ := h
  refine ⟨_, pss_cons (ps_if (PW.pt (pw_or (pt_not (pt_val (pe_callB call_isi rfl (T.free "isinstance" (by decide +kernel)) (by decide +kernel) (pa_cons (pv 0) (pa_cons (pe_bltn rfl (T.free "str" (by decide +kernel)) (by decide +kernel) (v := .ty "str") rfl) pa_nil)))))
      (pw_or1 (pt_cmpR op_ne (pe_callB call_len_str rfl (T.free "len" (by decide +kernel)) PySem.boot_len (pa_cons (pv 0) pa_nil)) pe_int (nomark _))))) (pss_one (ps_ret pe_bl)) pss_nil)
    (pss_one (ps_ret (pe_and (pe_cmpR op_in_seq (pe_ix ix_str (pv 0) pe_int (fun _ _ => rfl)) (pe_glob rfl gW (v := .ref aW) rfl) (by rfl))
      (pe_one (pe_cmpR op_in_seq (pe_ix ix_str (pv 0) pe_int (fun _ _ => rfl)) (pe_tup (pa_cons (pe_glob rfl gr (v := .str "r") ⟨_, rfl⟩) (pa_cons (pe_glob rfl gw (v := .str "w") ⟨_, rfl⟩) (pa_cons (pe_glob rfl gc (v := .str "c") ⟨_, rfl⟩) pa_nil)))) (by rfl)))))), ?_⟩
  refine seq_if (b := !(x.length == 2)) (fun Q q => ?_) (fun z => ?_) (fun z => ?_)
  · refine ⟨_, rfl, _, .ty "str", .type "str", .type "str", true, rfl, .ty _, .base (.str _), kit_ty (by decide +kernel), _, rfl, ?_⟩
    refine ⟨_, rfl, _, rfl, szN hl, rfl, _, rfl, ?_⟩
    have e : (!decide (V.int ((x.length : Nat) : Int) = V.int 2)) = !(x.length == 2) := by
      by_cases h : x.length = 2
      · rw [h]
        rfl
      · rw [decide_eq_false (fun z => h (by have := V.int.inj z; omega)), beq_false_of_ne h]
    rw [e]
    exact q
  · have e : stepB x = false := by
      unfold stepB
      have : (x.length == 2) = false := by
        revert z
        cases x.length == 2 <;> decide
      rw [this]
      rfl
    rw [← e]
    exact q H (Same.refl _)
  · have h2 : (x.length == 2) = true := by
      revert z
      cases x.length == 2 <;> decide
    have hx : x.length = 2 := eq_of_beq h2
    have es : stepB x = (inV (.str (sgn x 0)) (wordsL.map V.str) && inV (.str (sgn x 1)) marksV) := by
      unfold stepB
      rw [h2]
      rfl
    refine ⟨_, rfl, _, 0, _, rfl, rfl, szN hl, sgn_at (i := 0) (by omega), ?_⟩
    refine ⟨aW, _, rfl, .inr (qW _), rfl, by decide +kernel, _, rfl, ?_⟩
    refine ite2 (fun z => ?_) (fun z => ?_)
    · refine ⟨_, rfl, _, 1, _, rfl, rfl, szN hl, sgn_at (i := 1) (by omega), ?_⟩
      refine ⟨(by show 3 ≤ sizeLine; decide), fun t ht => ⟨t, _, rfl, .inr (SqT.of upd_same), rfl, rfl, ?_⟩⟩
      have z' : inV (.str (sgn x 0)) (wordsL.map V.str) = true := z
      rw [z', Bool.true_and] at es
      show Q (.bl (inV (.str (sgn x 1)) marksV)) _
      rw [← es]
      exact q _ (Same.new ht)
    · have z' : inV (.str (sgn x 0)) (wordsL.map V.str) = false := Bool.eq_false_iff.mpr z
      rw [z', Bool.false_and] at es
      rw [← es]
      exact q _ (Same.refl _)
/-- the first that can't be a step of a work -/
def badWork : List Str → Bool → Nat → Option Nat
  | [], _, _ => none
  | x :: r, ww, n => if (n == 12 || !stepB x) = true then some n else if (sgn x 1 == "c" && !ww) = true then some n else badWork r (ww || sgn x 1 == "w") (n + 1)
def badText : List Str → Nat → Option Nat
  | [], _ => none
  | x :: r, n => if stepB x = false then some n else badText r (n + 1)
abbrev Wr (P : Program) (w : World) (K : PySem.W.Frag) (mg : Str → Option Value) (base : Heap) := Rsr P w K mg base "BadWork" "number" "number"
abbrev Tr (P : Program) (w : World) (K : PySem.W.Frag) (mg : Str → Option Value) (base : Heap) := Rsr P w K mg base "BadText" "place" "place"
def spCheckX (CW : Addr) : Sp := fun vs H Q E => ∃ (a : Addr) (xs : List Str), vs = [.ref a] ∧ H a = some (.lst (xs.map V.str)) ∧ (∀ x ∈ xs, x.length ≤ 1000) ∧ xs.length ≤ 900 ∧
  (badWork xs false 0 = none → ∀ H', Same H H' → Q .non H') ∧ ∀ n : Nat, badWork xs false 0 = some n → Raised CW "number" ((n : Nat) : Int) H E
theorem stepB_len {x : Str} (h : stepB x = true) : x.length = 2 := by
  unfold stepB at h
  rw [Bool.and_eq_true] at h
  exact eq_of_beq h.1
theorem ok_check_work (T : PTx w K mg) (RW : Wr P w K mg base) (D : Def K mg "check_work" s_check_work ["work"]) (DI : Def K mg "is_step" s_is_step ["thing"]) : FnOk P w K mg base (L2.CX P w) 3 D.f D.fd ["work"] (spCheckX RW.C) := by
  have GI : FnOk P w K mg base CX0 1 DI.f DI.fd ["thing"] spIsStep := ok_is_step T DI
  obtain ⟨tw, gw⟩ := T.wrong
  obtain ⟨tc, gc⟩ := T.carried
  obtain ⟨tm, gm⟩ := T.mostSteps
  have nd := sc_check_work.nd
  refine D.okX sc_check_work (fun vs H Q E h => ?_) (fun cdv A outer s H vs Q E hr h => ?_)
  · obtain ⟨a, ws, rfl, _⟩ := h
    rfl
  obtain ⟨a, xs, rfl, ea, hx, hl, q1, q2⟩ := h
  have r1 : Room 1 _ := hr.mono (by decide)
  have tk : L2.Takes (cxOf (L2.CX P w) P w K mg base ["work", "went_wrong", "number", "step"] "check_work" (defScope s_check_work) D.f cdv A outer s H E) (fun cls d _ H' => E cls d H') := L2.takes_of rfl rfl rfl rfl
  refine ⟨_, pss_cons (ps_if (pt_not (pt_val (pe_callB call_isi rfl (T.free "isinstance" (by decide +kernel)) (by decide +kernel) (pa_cons (pv 0) (pa_cons (pe_bltn rfl (T.free "list" (by decide +kernel)) (by decide +kernel) (v := .ty "list") rfl) pa_nil))))) (pss_one ps_never) pss_nil)
    (pss_cons (ps_set (i := 1) nd rfl (Or.inl rfl) pe_bl)
    (pss_one (ps_for (L2.passes_of rfl) rfl (pi_enum rfl (T.free "enumerate" (by decide +kernel)) (pa_cons (pv 0) pa_nil)) (pg_tup (by rfl) (pgs_cons (pg_name (i := 2) nd rfl (Or.inl rfl)) (pgs_cons (pg_name (i := 3) nd rfl (Or.inl rfl)) pgs_nil)))
      (pss_cons (ps_if (PW.pt (pw_or (pt_cmpR op_eq (pv 2) (pe_glob rfl gm (v := .int 12) ⟨_, rfl⟩) (nomark _)) (pw_or1 (pt_not (pt_val (pcall DI GI r1 (pa_cons (pv 3) pa_nil))))))) (pss_one (ps_rs RW rfl tk hr (pv 2))) pss_nil)
      (pss_cons (ps_if (PW.pt (pw_and (pt_cmpR op_eq (pe_ix ix_str (pv 3) pe_int (fun _ _ => rfl)) (pe_glob rfl gc (v := .str "c") ⟨_, rfl⟩) (nomark _)) (pw_and1 (pt_not (pt_val (pv 1)))))) (pss_one (ps_rs RW rfl tk hr (pv 2))) pss_nil)
      (pss_one (ps_set (i := 1) nd rfl (Or.inl rfl) (pe_or (pv 1) (pe_one (pe_cmpR op_eq (pe_ix ix_str (pv 3) pe_int (fun _ _ => rfl)) (pe_glob rfl gw (v := .str "w") ⟨_, rfl⟩) (nomark _))))))))))), ?_⟩
  refine seq_if (b := false) (fun Q q => ⟨_, rfl, _, .ty "list", .type "list", .type "list", true, rfl, .ty _, .base (.lst ea), kit_ty (by decide +kernel), _, rfl, q⟩) (fun z => nomatch z) (fun _ => ?_)
  have lxs : (xs.map V.str).length = xs.length := List.length_map _
  refine ⟨_, rfl, a, _, rfl, SqL.of ea, for_it (walk_enum (K := K) (a := a) (xs := xs.map V.str)) (fun i σ H' => ∃ (ww : Bool) (v2 v3 : Option V), σ = [some (.ref a), some (.bl ww), v2, v3] ∧ badWork xs false 0 = badWork (xs.drop i) ww i ∧ Same H H')
    ⟨false, none, none, rfl, rfl, Same.refl _⟩ (fun i σ H' _ ⟨_, _, _, _, _, sm⟩ => SqL.of (sm _ _ ea)) ?_ ?_⟩
  · rintro i x σ H1 H2 hi ⟨ww, v2, v3, rfl, hb, sm⟩ ⟨T1, x1, x2, rfl, hT1, rfl, ex1, ex2⟩
    obtain rfl : V.int ((i : Nat) : Int) = x1 := Option.some.inj ex1
    rw [lxs] at hi
    obtain rfl : V.str (xs[i]'hi) = x2 := Option.some.inj ((get_map V.str xs hi).symm.trans ex2)
    have hm : xs[i]'hi ∈ xs := List.getElem_mem hi
    have hxl := hx _ hm
    have sm1 : Same H (upd H1 T1 (.tup [.int ((i : Nat) : Int), .str (xs[i]'hi)])) := sm.trans (Same.new hT1)
    rw [List.drop_eq_getElem_cons hi] at hb
    have hb : badWork xs false 0 = if (i == 12 || !stepB (xs[i]'hi)) = true then some i else if (sgn (xs[i]'hi) 1 == "c" && !ww) = true then some i else badWork (xs.drop (i + 1)) (ww || sgn (xs[i]'hi) 1 == "w") (i + 1) := hb
    refine ⟨T1, _, rfl, SqT.of upd_same, rfl, _, _, rfl, _, _, rfl, rfl, ?_⟩
    refine seq_new (b := i == 12 || !stepB (xs[i]'hi)) (ev_or_new (b := i == 12) (c := !stepB (xs[i]'hi)) (fun Q q => ⟨_, rfl, rfl, _, rfl, ?_⟩) (fun _ H3 s3 Q q => ⟨_, rfl, _, rfl, hxl, fun H4 s4 => ⟨_, rfl, q H4 s4⟩⟩)) (fun z H3 s3 => ?_) (fun z H3 s3 => ?_)
    · have e : decide (V.int ((i : Nat) : Int) = V.int 12) = (i == 12) := by
        by_cases h : i = 12
        · rw [h]
          rfl
        · rw [decide_eq_false (fun z => h (by have := V.int.inj z; omega)), beq_false_of_ne h]
      rw [e]
      exact q _ (Same.refl _)
    · rw [if_pos z] at hb
      refine ⟨_, rfl, ?_⟩
      have := (q2 i hb).from (sm1.trans s3)
      exact raised_of (by omega) (by omega) fun d H' hd s' e => this d H' hd s' e
    · rw [if_neg (by rw [z]; decide)] at hb
      have hst : stepB (xs[i]'hi) = true := by
        cases hq : stepB (xs[i]'hi) with
        | true => rfl
        | false =>
          rw [hq, Bool.or_eq_false_iff] at z
          exact absurd z.2 (by decide)
      have h2 := stepB_len hst
      refine seq_if (b := sgn (xs[i]'hi) 1 == "c" && !ww) (ev_and (fun Q q => ⟨_, rfl, _, 1, _, rfl, rfl, szN hxl, sgn_at (i := 1) (by omega), rfl, _, rfl, ?_⟩) (fun Q q => ⟨_, rfl, _, rfl, q⟩)) (fun z => ?_) (fun z => ?_)
      · show Q (decide (V.str (sgn (xs[i]'hi) 1) = V.str "c")) _
        rw [dec_str]
        exact q
      · rw [if_pos z] at hb
        refine ⟨_, rfl, ?_⟩
        have := (q2 i hb).from (sm1.trans s3)
        exact raised_of (by omega) (by omega) fun d H' hd s' e => this d H' hd s' e
      · rw [if_neg (by rw [z]; decide)] at hb
        refine ⟨_, rfl, _, rfl, ?_⟩
        refine ite2 (fun z => ?_) (fun z => ?_)
        · refine ⟨_, _, _, rfl, ?_, sm1.trans s3⟩
          rw [hb, z]
          rfl
        · refine ⟨_, rfl, _, 1, _, rfl, rfl, szN hxl, sgn_at (i := 1) (by omega), rfl, ?_⟩
          refine ⟨_, _, _, rfl, ?_, sm1.trans s3⟩
          rw [hb, Bool.eq_false_iff.mpr z, Bool.false_or]
          show _ = badWork _ (decide (V.str (sgn (xs[i]'hi) 1) = V.str "w")) _
          rw [dec_str]
  · rintro σ H' ⟨ww, v2, v3, rfl, hb, sm⟩
    rw [lxs, List.drop_length] at hb
    exact q1 hb H' sm
/-- the words of a text -/
def wordsOf (t : Str) : List Str := if t.length = 0 then [] else Txt.split t " "
def spReadX (CW CT : Addr) : Sp := fun vs H Q E => ∃ t : Str, vs = [.str t] ∧ t.length ≤ 800 ∧ (∀ x ∈ wordsOf t, x.length ≤ 1000) ∧ (wordsOf t).length ≤ 900 ∧
  (∀ n : Nat, badText (wordsOf t) 0 = some n → Raised CT "place" ((n : Nat) : Int) H E) ∧
  (badText (wordsOf t) 0 = none → (∀ n : Nat, badWork (wordsOf t) false 0 = some n → Raised CW "number" ((n : Nat) : Int) H E) ∧ (badWork (wordsOf t) false 0 = none → ∀ (f : Addr) (H' : Hp), Same H H' → H f = none → H' f = some (.lst ((wordsOf t).map V.str)) → Q (.ref f) H'))
theorem ok_read_work (T : PTx w K mg) (RW : Wr P w K mg base) (RT : Tr P w K mg base) (D : Def K mg "read_work" s_read_work ["text"]) (DC : Def K mg "check_work" s_check_work ["work"]) (DI : Def K mg "is_step" s_is_step ["thing"]) : FnOk P w K mg base (L2.CX P w) 4 D.f D.fd ["text"] (spReadX RW.C RT.C) := by
  have GI : FnOk P w K mg base CX0 1 DI.f DI.fd ["thing"] spIsStep := ok_is_step T DI
  have GC : FnOk P w K mg base (L2.CX P w) 3 DC.f DC.fd ["work"] (spCheckX RW.C) := ok_check_work T RW DC DI
  have nd := sc_read_work.nd
  refine D.okX sc_read_work (fun vs H Q E h => ?_) (fun cdv A outer s H vs Q E hr h => ?_)
  · obtain ⟨t, rfl, _⟩ := h
    rfl
  obtain ⟨t, rfl, ht, hx, hl, q1, q2⟩ := h
  have r1 : Room 1 _ := hr.mono (by decide)
  have r2 : Room 2 _ := hr.mono (by decide)
  have tk : L2.Takes (cxOf (L2.CX P w) P w K mg base ["text", "work", "place", "word"] "read_work" (defScope s_read_work) D.f cdv A outer s H E) (fun cls d _ H' => E cls d H') := L2.takes_of rfl rfl rfl rfl
  refine ⟨_, pss_cons (ps_set (i := 1) nd rfl (Or.inl rfl) (pe_ifExp (pt_truth (pv 0) (by intro _; rfl)) (pe_split (pv 0) pe_str) (pe_lst pa_nil)))
    (pss_cons (ps_for (L2.passes_of rfl) rfl (pi_enum rfl (T.free "enumerate" (by decide +kernel)) (pa_cons (pv 1) pa_nil)) (pg_tup (by rfl) (pgs_cons (pg_name (i := 2) nd rfl (Or.inl rfl)) (pgs_cons (pg_name (i := 3) nd rfl (Or.inl rfl)) pgs_nil)))
      (pss_one (ps_if (pt_not (pt_val (pcall DI GI r1 (pa_cons (pv 3) pa_nil)))) (pss_one (ps_rs RT rfl tk r2 (pv 2))) pss_nil)))
    (pss_cons (ps_expr (pcallX (E := E) DC GC hr (L2.passes_call tk (fun _ _ _ _ h => h)) (pa_cons (pv 1) pa_nil)))
    (pss_one (ps_ret (pv 1))))), ?_⟩
  have hz : ((t.length : Int) != 0) = !decide (t.length = 0) := by
    by_cases h : t.length = 0
    · rw [h]
      rfl
    · rw [decide_eq_false h]
      exact bne_iff_ne.mpr (by omega)
  refine ⟨_, rfl, _, ⟨szN (by omega), rfl⟩, ?_⟩
  refine kids_if (kv := (wordsOf t).map V.str) (fun z R hR => ?_) (fun z R hR => ?_) (fun f hf => ?_)
  · rw [hz] at z
    have z0 : t.length ≠ 0 := fun e => by rw [e] at z; cases z
    refine ⟨_, rfl, ⟨_, rfl⟩, _, " ", rfl, rfl, by decide, szN (by omega), fun p hp => ?_⟩
    have := hR p hp
    unfold wordsOf at this
    rw [if_neg z0] at this
    exact this
  · rw [hz] at z
    have z0 : t.length = 0 := by
      by_cases e : t.length = 0
      · exact e
      · rw [decide_eq_false e] at z
        cases z
    refine ⟨Nat.zero_le _, fun p hp => ?_⟩
    have := hR p hp
    unfold wordsOf at this
    rw [if_pos z0] at this
    exact this
  have s1 : Same H (upd H f (.lst ((wordsOf t).map V.str))) := Same.new hf
  have ef : upd H f (.lst ((wordsOf t).map V.str)) f = some (.lst ((wordsOf t).map V.str)) := upd_same
  dsimp only [gName]
  generalize upd H f (.lst ((wordsOf t).map V.str)) = H1 at s1 ef ⊢
  generalize hxs : wordsOf t = xs at *
  have lxs : (xs.map V.str).length = xs.length := List.length_map _
  refine ⟨_, rfl, f, _, rfl, SqL.of ef, for_it (walk_enum (K := K) (a := f) (xs := xs.map V.str)) (fun i σ H' => ∃ (v2 v3 : Option V), σ = [some (.str t), some (.ref f), v2, v3] ∧ badText xs 0 = badText (xs.drop i) i ∧ Same H1 H')
    ⟨none, none, rfl, rfl, Same.refl _⟩ (fun i σ H' _ ⟨_, _, _, _, sm⟩ => SqL.of (sm _ _ ef)) ?_ ?_⟩
  · rintro i x σ H2 H3 hi ⟨v2, v3, rfl, hb, sm⟩ ⟨T1, x1, x2, rfl, hT1, rfl, ex1, ex2⟩
    obtain rfl : V.int ((i : Nat) : Int) = x1 := Option.some.inj ex1
    rw [lxs] at hi
    obtain rfl : V.str (xs[i]'hi) = x2 := Option.some.inj ((get_map V.str xs hi).symm.trans ex2)
    have hxl := hx _ (List.getElem_mem hi)
    have sm1 : Same H1 (upd H2 T1 (.tup [.int ((i : Nat) : Int), .str (xs[i]'hi)])) := sm.trans (Same.new hT1)
    rw [List.drop_eq_getElem_cons hi] at hb
    have hb : badText xs 0 = if stepB (xs[i]'hi) = false then some i else badText (xs.drop (i + 1)) (i + 1) := hb
    refine ⟨T1, _, rfl, SqT.of upd_same, rfl, _, _, rfl, _, _, rfl, rfl, ?_⟩
    refine one_new (u := tNext) (b := !stepB (xs[i]'hi)) (fun Q q => ⟨_, rfl, _, rfl, hxl, fun H4 s4 => ⟨_, rfl, q H4 s4⟩⟩) (fun z H4 s4 => ?_) (fun z H4 s4 => ?_)
    · have z0 : stepB (xs[i]'hi) = false := by
        revert z
        cases stepB (xs[i]'hi) <;> decide
      rw [if_pos z0] at hb
      refine ⟨_, rfl, ?_⟩
      have := (q1 i hb).from (s1.trans (sm1.trans s4))
      exact raised_of (by omega) (by omega) fun d H' hd s' e => this d H' hd s' e
    · have z0 : ¬ stepB (xs[i]'hi) = false := by
        revert z
        cases stepB (xs[i]'hi) <;> decide
      rw [if_neg z0] at hb
      exact ⟨_, _, rfl, hb, sm1.trans s4⟩
  · rintro σ H2 ⟨v2, v3, rfl, hb, sm⟩
    rw [lxs, List.drop_length] at hb
    obtain ⟨q3, q4⟩ := q2 hb
    refine ⟨_, rfl, f, xs, rfl, sm _ _ ef, hx, hl, fun z H' s' => ?_, fun n z => (q3 n z).from (s1.trans sm)⟩
    exact ⟨_, rfl, q4 z f H' (s1.trans (sm.trans s')) hf ((sm.trans s') _ _ ef)⟩
end
end MS
end
section
set_option maxRecDepth 100000
set_option maxHeartbeats 4000000
namespace MS
open PySem L2
/-! ### what is told of a call -/
abbrev s_L_told : Stmt := topS 22
abbrev nmTold : List Str := ["_law_work_here", "e", "_law_kinds", "_law_word"]
theorem sc_L_told : FnScope nmTold ["_law_work_here"] (defScope s_L_told) := ⟨rfl, rfl, rfl, by decide +kernel, rfl, by decide +kernel, by decide +kernel⟩
def errNames : List Str := ["BadPaper", "BadWork", "BadStep", "BadCount", "NoWork", "BadText"]
def errNm (i : Nat) : Str := errNames.getD i ""
structure ErrF (K : PySem.W.Frag) (mg : Str → Option Value) where
  A : Nat → Addr
  CM : Addr
  gP : mg "BadPaper" = some (.ref (A 0))
  gW : mg "BadWork" = some (.ref (A 1))
  gS : mg "BadStep" = some (.ref (A 2))
  gC : mg "BadCount" = some (.ref (A 3))
  gN : mg "NoWork" = some (.ref (A 4))
  gT : mg "BadText" = some (.ref (A 5))
  gM : mg "MarkError" = some (.ref CM)
  ve : mg "ValueError" = none
  isi : mg "isinstance" = none
  ex : ∀ i, i < 6 → ExcC K (A i)
  kit : ∀ i j, i < 6 → j < 6 → PySem.W.kitOne K (.ref (A i)) (.ref (A j)) = some (decide (i = j))
  kv : ∀ i, i < 6 → PySem.W.kitOne K (.ref (A i)) (.type "ValueError") = some true
  exm : ∀ i, i < 6 → PySem.W.exmOne K (.ref (A i)) (.ref CM) = some true
  xf : ∀ i, i < 6 → XfC K (A i)
  no0 : PySem.W.findIn K (.ref (A 0)) "scheme" = some none
  no1 : PySem.W.findIn K (.ref (A 0)) "place" = some none
  no2 : PySem.W.findIn K (.ref (A 1)) "number" = some none
  no3 : PySem.W.findIn K (.ref (A 5)) "place" = some none
/-- what stands in the error -/
def Pay (i : Nat) (d : Option Addr) (H : Hp) (vals : List V) : Prop := match i with
  | 0 => ∃ dd fs v1 v2, d = some dd ∧ H dd = some (.xd fs) ∧ fs.lookup ("scheme" : Str) = some v1 ∧ fs.lookup ("place" : Str) = some v2 ∧ vals = [v1, v2]
  | 1 => ∃ dd fs v, d = some dd ∧ H dd = some (.xd fs) ∧ fs.lookup ("number" : Str) = some v ∧ vals = [v]
  | 5 => ∃ dd fs v, d = some dd ∧ H dd = some (.xd fs) ∧ fs.lookup ("place" : Str) = some v ∧ vals = [v]
  | _ => XEU.DictAt d H ∧ vals = [.int 0]
theorem Pay.dict {i : Nat} {d : Option Addr} {H : Hp} {vals : List V} (h : Pay i d H vals) : XEU.DictAt d H := by
  unfold Pay at h
  split at h
  · obtain ⟨dd, fs, v1, v2, e1, e2, _⟩ := h
    exact .inr ⟨dd, fs, e1, e2⟩
  · obtain ⟨dd, fs, v, e1, e2, _⟩ := h
    exact .inr ⟨dd, fs, e1, e2⟩
  · obtain ⟨dd, fs, v, e1, e2, _⟩ := h
    exact .inr ⟨dd, fs, e1, e2⟩
  · exact h.1
theorem dict_keep {d : Option Addr} {H H' : Hp} (h : XEU.DictAt d H) (s : Same H H') : XEU.DictAt d H' := by
  rcases h with h | ⟨dd, fs, e1, e2⟩
  · exact .inl h
  · exact .inr ⟨dd, fs, e1, s _ _ e2⟩
theorem Pay.keep {i : Nat} {d : Option Addr} {H H' : Hp} {vals : List V} (h : Pay i d H vals) (s : Same H H') : Pay i d H' vals := by
  unfold Pay at h ⊢
  split at h
  · obtain ⟨dd, fs, v1, v2, e1, e2, h⟩ := h
    exact ⟨dd, fs, v1, v2, e1, s _ _ e2, h⟩
  · obtain ⟨dd, fs, v, e1, e2, h⟩ := h
    exact ⟨dd, fs, v, e1, s _ _ e2, h⟩
  · obtain ⟨dd, fs, v, e1, e2, h⟩ := h
    exact ⟨dd, fs, v, e1, s _ _ e2, h⟩
  · exact ⟨dict_keep h.1 s, h.2⟩
section
variable {K : PySem.W.Frag} {mg : Str → Option Value}
def ToldE (F : ErrF K mg) (Q : VK) : XK := fun cls d H => ∃ (i : Nat) (vals : List V), i < 6 ∧ cls = .ref (F.A i) ∧ Pay i d H vals ∧ ∀ (t : Addr) (H' : Hp), Same H H' → H t = none → H' t = some (.tup (.str (errNm i) :: vals)) → Q (.ref t) H'
def TTd (F : ErrF K mg) : (XK → Hp → VK → Prop) → Hp → VK → Prop := fun tl H Q => tl (ToldE F Q) H Q
theorem cnt1 : ∀ i : Nat, i < 6 → (([decide (i = 0), decide (i = 1), decide (i = 2), decide (i = 3), decide (i = 4), decide (i = 5)].map V.bl).countP fun z => eqV z (.bl true)) = 1 := by decide
theorem idx1 : ∀ i : Nat, i < 6 → ([decide (i = 0), decide (i = 1), decide (i = 2), decide (i = 3), decide (i = 4), decide (i = 5)].map V.bl)[i]? = some (.bl true) ∧ ∀ m : Nat, m < i → ∀ z, ([decide (i = 0), decide (i = 1), decide (i = 2), decide (i = 3), decide (i = 4), decide (i = 5)].map V.bl)[m]? = some z → eqV z (.bl true) = false := by
  intro i hi
  have e : i = 0 ∨ i = 1 ∨ i = 2 ∨ i = 3 ∨ i = 4 ∨ i = 5 := by omega
  rcases e with rfl | rfl | rfl | rfl | rfl | rfl <;> refine ⟨rfl, fun m hm z hz => ?_⟩
  · omega
  · obtain rfl : m = 0 := by omega
    cases hz; rfl
  · have e : m = 0 ∨ m = 1 := by omega
    rcases e with rfl | rfl <;> (cases hz; rfl)
  · have e : m = 0 ∨ m = 1 ∨ m = 2 := by omega
    rcases e with rfl | rfl | rfl <;> (cases hz; rfl)
  · have e : m = 0 ∨ m = 1 ∨ m = 2 ∨ m = 3 := by omega
    rcases e with rfl | rfl | rfl | rfl <;> (cases hz; rfl)
  · have e : m = 0 ∨ m = 1 ∨ m = 2 ∨ m = 3 ∨ m = 4 := by omega
    rcases e with rfl | rfl | rfl | rfl | rfl <;> (cases hz; rfl)
theorem told_gives {X : Cx} {q : Str} {g : Addr} {cdg : Value} (F : ErrF X.K X.mg) : LamX.GivesTo X nmTold "_law_told" (defScope s_L_told) g cdg (defBody s_L_told) "_law_work_here" q (TTd F) := by
  intro f c' s H Q tl act hc h
  have nd := sc_L_told.nd
  let Z : Cx := (cxOf C8.CX0 X.prog X.w X.K X.mg X.base nmTold "_law_told" (defScope s_L_told) g cdg X.A X.stack s H C8.E0).nox
  refine ⟨_, pss_one (L2.ps_try_as (X := Z) (c := .ref F.CM) (i := 1) (Wout := fun _ _ _ _ => False)
      (tb := fun W D σ H => ∃ Ech : XK, (∀ cls d σ' H', σ'.length = 4 → Ech cls d H' → W cls d σ' H') ∧ σ[0]? = some (some (.ref f)) ∧ H c' = some (LamX.CodeO c' q) ∧ tl Ech H D.rt)
      rfl rfl nd rfl rfl ⟨rfl, by decide, .inl F.gM⟩ LamX.takes0 (fun W pn xe tk _ => ?_) (fun a oe cls d pn hz hf =>
        pss_cons (ps_set (i := 2) nd rfl (Or.inl rfl) (pe_lst (pa_cons (pe_callB (XEU.call_isE hz hf) rfl F.isi (by decide +kernel) (pa_cons (pv 1) (pa_cons (pe_glob rfl F.gP (v := .ref (F.A 0)) rfl) pa_nil))) (pa_cons (pe_callB (XEU.call_isE hz hf) rfl F.isi (by decide +kernel) (pa_cons (pv 1) (pa_cons (pe_glob rfl F.gW (v := .ref (F.A 1)) rfl) pa_nil)))
            (pa_cons (pe_callB (XEU.call_isE hz hf) rfl F.isi (by decide +kernel) (pa_cons (pv 1) (pa_cons (pe_glob rfl F.gS (v := .ref (F.A 2)) rfl) pa_nil))) (pa_cons (pe_callB (XEU.call_isE hz hf) rfl F.isi (by decide +kernel) (pa_cons (pv 1) (pa_cons (pe_glob rfl F.gC (v := .ref (F.A 3)) rfl) pa_nil))) pa_nil))))))
        (pss_cons (ps_set (i := 2) nd rfl (Or.inl rfl) (pe_op op_cat (pv 2) (pe_lst (pa_cons (pe_callB (XEU.call_isE hz hf) rfl F.isi (by decide +kernel) (pa_cons (pv 1) (pa_cons (pe_glob rfl F.gN (v := .ref (F.A 4)) rfl) pa_nil))) (pa_cons (pe_callB (XEU.call_isE hz hf) rfl F.isi (by decide +kernel) (pa_cons (pv 1) (pa_cons (pe_glob rfl F.gT (v := .ref (F.A 5)) rfl) pa_nil))) pa_nil)))))
        (pss_cons (ps_if (PW.pt (pw_or (pt_cmpR op_ne (show PE (Z.suite a ((a, oe) :: pn)) _ (tBM X.K "list" (XEU.rCountF X.K) (tVar 2) (tCons (tC (.bl true)) tNil)) from pe_bm PySem.F.plainAttrs_list PySem.F.slot_list_count PySem.F.type_list_count XEU.mt_countF (pv 2) (pa_cons pe_bl pa_nil)) pe_int (nomark _)) (pw_or1 (pt_not (pt_val (pe_callB (XEU.call_isE hz hf) rfl F.isi (by decide +kernel) (pa_cons (pv 1) (pa_cons (pe_bltn rfl F.ve (by decide +kernel) (v := .ty "ValueError") rfl) pa_nil)))))))) (pss_one (ps_ret (pe_tup (pa_cons pe_str (pa_cons pe_int pa_nil))))) pss_nil)
        (pss_cons (ps_set (i := 3) nd rfl (Or.inl rfl) (pe_ix (r := rIxL X.K) ix_list (pe_lst (pa_cons pe_str (pa_cons pe_str (pa_cons pe_str (pa_cons pe_str (pa_cons pe_str (pa_cons pe_str pa_nil))))))) (show PE (Z.suite a ((a, oe) :: pn)) _ (tBM X.K "list" (rIndex X.K) (tVar 2) (tCons (tC (.bl true)) tNil)) from pe_bm PySem.F.plainAttrs_list PySem.F.slot_list_index PySem.F.type_list_index mt_index (pv 2) (pa_cons pe_bl pa_nil)) (fun _ _ => rfl)))
        (pss_cons (ps_if (pt_cmpR op_eq (pv 3) pe_str (nomark _)) (pss_one (ps_ret (pe_tup (pa_cons (pv 3) (pa_cons (pe_xf (F.xf 0 (by decide)) F.no0 hz hf (pv 1)) (pa_cons (pe_xf (F.xf 0 (by decide)) F.no1 hz hf (pv 1)) pa_nil)))))) pss_nil)
        (pss_one (ps_ret (pe_tup (pa_cons (pv 3) (pa_cons (pe_ifExp (pt_cmpR op_eq (pv 3) pe_str (nomark _)) (pe_xf (F.xf 1 (by decide)) F.no2 hz hf (pv 1)) (pe_ifExp (pt_cmpR op_eq (pv 3) pe_str (nomark _)) (pe_xf (F.xf 5 (by decide)) F.no3 hz hf (pv 1)) pe_int)) pa_nil))))))))))), ?_⟩
  · refine ⟨fun pins s' σ H' D I h' => ?_⟩
    obtain ⟨Ech, hW, h1, h2, h3⟩ := h'
    have tk2 : L2.Takes (Z.tr pn xe) (fun cls d σ' H' => σ'.length = 4 → W cls d σ' H') := fun u s' ⟨a, B, sI, pins, σ, H, cls, d, e, I, nb, up, sky, na, os, ag, w⟩ => tk u s' ⟨a, B, sI, pins, σ, H, cls, d, e, I, nb, up, sky, na, os, ag, w I.len⟩
    exact (pss_one (ps_ret (act _ pn xe Ech _ _ tk2 (fun cls d σ' H' hE hl => hW cls d σ' H' hl hE)))).run pins s' σ H' D I ⟨h1, h2, h3⟩
  · refine ⟨ToldE F Q, fun cls d σ' H1 hl hE => ?_, rfl, hc, h⟩
    obtain ⟨i, vals, hi, rfl, hp, hq⟩ := hE
    refine ⟨true, F.exm i hi, fun _ a ha => ?_, fun z => nomatch z⟩
    obtain ⟨s0, s1, s2, s3, rfl⟩ : ∃ s0 s1 s2 s3, σ' = [s0, s1, s2, s3] := by
      match σ', hl with
      | [s0, s1, s2, s3], _ => exact ⟨s0, s1, s2, s3, rfl⟩
    have isE : ∀ {x2 x3 : Option V} {j : Nat} {H2 : Hp} {Q2 : VK}, j < 6 → Same H1 H2 → Q2 (.bl (decide (i = j))) H2 → tCB (XEU.rIsE X.K (.ref (F.A i)) d a) (tCons (tVar 1) (tCons (tC (.ref (F.A j))) tNil)) [s0, some (.ref a), x2, x3] H2 Q2 := fun {x2 x3 j H2 Q2} hj s2 q2 =>
      ⟨_, rfl, F.A i, .ref (F.A j), .ref (F.A j), _, rfl, F.ex i hi, rfl, fun u hu => hu, F.kit i j hi hj, dict_keep hp.dict s2, q2⟩
    refine isE (by decide) (Same.refl _) (isE (by decide) (Same.refl _) (isE (by decide) (Same.refl _) (isE (by decide) (Same.refl _) ⟨(by show 4 ≤ sizeLine; decide), fun L1 h1 => ?_⟩)))
    have k1 : Same H1 (upd H1 L1 (.lst [.bl (decide (i = 0)), .bl (decide (i = 1)), .bl (decide (i = 2)), .bl (decide (i = 3))])) := Same.new h1
    dsimp only [gName]
    refine ⟨_, rfl, isE (by decide) k1 (isE (by decide) k1 ⟨(by show 2 ≤ sizeLine; decide), fun L2 h2 => ?_⟩)⟩
    have k2 := k1.trans (Same.new (o := .lst [.bl (decide (i = 4)), .bl (decide (i = 5))]) h2)
    refine ⟨L1, L2, _, _, rfl, rfl, Same.new h2 _ _ upd_same, upd_same, (by show 6 ≤ sizeLine; decide), fun L3 h3 => ?_⟩
    let ks : List V := [decide (i = 0), decide (i = 1), decide (i = 2), decide (i = 3), decide (i = 4), decide (i = 5)].map V.bl
    have k3 := k2.trans (Same.new (o := .lst ks) h3)
    dsimp only [gName]
    have hflat : ks.all flatV = true := rfl
    refine seq_if (b := false || false) (ev_or (b := false) (c := false) (fun Q q => ⟨_, rfl, .inl ⟨rfl, _, SqL.of upd_same⟩, L3, ks, .bl true, rfl, rfl, SqL.of upd_same, rfl, hflat, rfl, _, rfl, ?_⟩) (fun Q q => ⟨_, rfl, F.A i, .ty "ValueError", .type "ValueError", true, rfl, F.ex i hi, rfl, fun u hu => hu, F.kv i hi, dict_keep hp.dict k3, _, rfl, q⟩)) (fun z => nomatch z) (fun _ => ?_)
    · have e : (ks.countP fun z => eqV z (.bl true)) = 1 := cnt1 i hi
      rw [e]
      exact q
    have p3 := hp.keep k3
    have hidx := idx1 i hi
    have hnm : atI (errNames.map V.str) (i : Int) = some (.str (errNm i)) := by
      have h1 : i < errNames.length := hi
      refine atI_nat ?_
      rw [List.getElem?_map, List.getElem?_eq_getElem h1]
      unfold errNm
      rw [List.getD_eq_getElem?_getD, List.getElem?_eq_getElem h1]
      rfl
    refine ⟨(by show 6 ≤ sizeLine; decide), fun L4 h4 => ?_⟩
    have k4 := k3.trans (Same.new (o := .lst (errNames.map V.str)) h4)
    refine ⟨_, rfl, .inl ⟨rfl, _, SqL.of (Same.new h4 _ _ upd_same)⟩, L3, ks, .bl true, i, .bl true, rfl, rfl, SqL.of (Same.new h4 _ _ upd_same), rfl, hflat, hidx.1, rfl, (fun m z h1 h2 => hidx.2 m h1 z h2), ?_⟩
    refine ⟨L4, _, _, _, rfl, rfl, SqL.of upd_same, hnm, ?_⟩
    dsimp only [gName]
    let H4 : Hp := upd (upd (upd (upd H1 L1 (.lst [.bl (decide (i = 0)), .bl (decide (i = 1)), .bl (decide (i = 2)), .bl (decide (i = 3))])) L2 (.lst [.bl (decide (i = 4)), .bl (decide (i = 5))])) L3 (.lst ks)) L4 (.lst (errNames.map V.str))
    have k4 : Same H1 H4 := k4
    have p4 : Pay i d H4 vals := hp.keep k4
    have fin : ∀ (t : Addr) (o : HO), H4 t = none → o = .tup (.str (errNm i) :: vals) → Q (.ref t) (upd H4 t o) := fun t o ht e => hq t _ (k4.trans (Same.new ht)) (k4.free ht) (by rw [upd_same, e])
    have ite : i = 0 ∨ i = 1 ∨ i = 5 ∨ (i = 2 ∨ i = 3 ∨ i = 4) := by omega
    rcases ite with rfl | rfl | rfl | i3
    · obtain ⟨dd, fs, v1, v2, rfl, e2, e3, e4, rfl⟩ := p4
      refine seq_if (b := true) (fun Q q => ⟨_, rfl, rfl, _, rfl, by rw [dec_str]; exact q⟩) (fun _ => ?_) (fun z => nomatch z)
      exact ⟨_, rfl, _, rfl, rfl, rfl, dd, fs, v1, rfl, e2, e3, _, rfl, rfl, rfl, dd, fs, v2, rfl, e2, e4, (by show 3 ≤ sizeLine; decide), fun t ht => fin t _ ht rfl⟩
    · obtain ⟨dd, fs, v, rfl, e2, e3, rfl⟩ := p4
      refine seq_if (b := false) (fun Q q => ⟨_, rfl, rfl, _, rfl, by rw [dec_str]; exact q⟩) (fun z => nomatch z) (fun _ => ?_)
      refine ⟨_, rfl, _, rfl, rfl, _, rfl, ?_⟩
      exact iteT ⟨_, rfl, rfl, rfl, dd, fs, v, rfl, e2, e3, (by show 2 ≤ sizeLine; decide), fun t ht => fin t _ ht rfl⟩
    · obtain ⟨dd, fs, v, rfl, e2, e3, rfl⟩ := p4
      refine seq_if (b := false) (fun Q q => ⟨_, rfl, rfl, _, rfl, by rw [dec_str]; exact q⟩) (fun z => nomatch z) (fun _ => ?_)
      refine ⟨_, rfl, _, rfl, rfl, _, rfl, ?_⟩
      refine iteF ⟨_, rfl, rfl, _, rfl, ?_⟩
      exact iteT ⟨_, rfl, rfl, rfl, dd, fs, v, rfl, e2, e3, (by show 2 ≤ sizeLine; decide), fun t ht => fin t _ ht rfl⟩
    · have hv : vals = [.int 0] := by
        rcases i3 with rfl | rfl | rfl <;> exact p4.2
      subst hv
      have n1 : (errNm i == "BadPaper") = false ∧ (errNm i == "BadWork") = false ∧ (errNm i == "BadText") = false := by
        rcases i3 with rfl | rfl | rfl <;> decide +kernel
      refine seq_if (b := false) (fun Q q => ⟨_, rfl, rfl, _, rfl, by rw [dec_str, n1.1]; exact q⟩) (fun z => nomatch z) (fun _ => ?_)
      refine ⟨_, rfl, _, rfl, rfl, _, rfl, ?_⟩
      rw [dec_str, n1.2.1]
      refine iteF ⟨_, rfl, rfl, _, rfl, ?_⟩
      rw [dec_str, n1.2.2]
      exact iteF ⟨(by show 2 ≤ sizeLine; decide), fun t ht => fin t _ ht rfl⟩
end
end MS
end
section
set_option maxRecDepth 100000
set_option maxHeartbeats 4000000
namespace MS
open PySem L2
/-! ### draws: a step, a work (the letters a text) -/
abbrev lettersT : Str := "abcdefgh"
theorem letter_at {r : Int} (h0 : 0 ≤ r) (h1 : r < 8) : ∃ c, atI lettersT.cps.toList r = some c ∧ IsW (⟨#[c]⟩ : Str) := by
  have e : r = 0 ∨ r = 1 ∨ r = 2 ∨ r = 3 ∨ r = 4 ∨ r = 5 ∨ r = 6 ∨ r = 7 := by omega
  rcases e with rfl | rfl | rfl | rfl | rfl | rfl | rfl | rfl
  · exact ⟨97, by decide +kernel, by unfold IsW; decide +kernel⟩
  · exact ⟨98, by decide +kernel, by unfold IsW; decide +kernel⟩
  · exact ⟨99, by decide +kernel, by unfold IsW; decide +kernel⟩
  · exact ⟨100, by decide +kernel, by unfold IsW; decide +kernel⟩
  · exact ⟨101, by decide +kernel, by unfold IsW; decide +kernel⟩
  · exact ⟨102, by decide +kernel, by unfold IsW; decide +kernel⟩
  · exact ⟨103, by decide +kernel, by unfold IsW; decide +kernel⟩
  · exact ⟨104, by decide +kernel, by unfold IsW; decide +kernel⟩
def spStepT : Sp := fun vs H Q _ => ∃ (b l : Addr) (c : Bool), vs = [.ref b, .str lettersT, .bl c] ∧ Box H b l ∧
  ∀ (p : StepT) (H' : Hp), IsStep p → (p.2 = "c" → c = true) → Box H' b l → Keep [b, l] H H' → Q (.str (stepS p)) H'
abbrev psStep : List Str := ["_law_box", "_law_letters", "_law_was_wrong"]
abbrev psWork : List Str := ["_law_box", "_law_letters", "_law_most"]
section
variable {P : Program} {w : World} {K : PySem.W.Frag} {mg : Str → Option Value} {base : Heap}
theorem ok_stepT (D : Def K mg "_law_step" s_L_step psStep) (DT : Def K mg "_law_take" s_L_take ["_law_box", "_law_many"]) (ml : mg "len" = none) : FnOk P w K mg base CX0 2 D.f D.fd psStep spStepT := by
  have GT : FnOk P w K mg base CX0 1 DT.f DT.fd ["_law_box", "_law_many"] spTake := ok_take DT
  refine D.ok sc_L_step (fun vs H Q E h => ?_) (fun cdv A outer s H vs Q E hr h => ?_)
  · obtain ⟨b, l, c, rfl, _⟩ := h
    rfl
  obtain ⟨b, l, c, rfl, B, q⟩ := h
  refine ⟨_, pss_cons (ps_set (i := 3) sc_L_step.nd rfl (Or.inl rfl) (pe_ix ix_list (pe_lst (pa_cons pe_str (pa_cons pe_str (pa_cons pe_str (pa_cons pe_str pa_nil))))) (pcall DT GT hr (pa_cons (pv 0) (pa_cons pe_int pa_nil))) (fun _ _ => rfl)))
    (pss_one (ps_ret (pe_op op_add_str (pe_ix ix_str (pv 1) (pcall DT GT hr (pa_cons (pv 0) (pa_cons (pe_callB call_len_str rfl ml PySem.boot_len (pa_cons (pv 1) pa_nil)) pa_nil))) (fun _ _ => rfl))
      (pe_ifExp (PW.pt (pw_or (pt_cmpR op_ne (pv 3) pe_str (nomark _)) (pw_or1 (pt_val (pv 2))))) (pv 3) pe_str)))), ?_⟩
  refine ⟨(by show 4 ≤ sizeLine; decide), fun T hT => ?_⟩
  refine ⟨_, rfl, b, l, 4, rfl, by decide, by decide, B.new hT, fun r H1 a0 a1 B1 k1 => ?_⟩
  have k2 : Keep [b, l] H H1 := (Keep.new hT).trans k1
  have eT := k1 T _ upd_same (B.nin hT)
  obtain ⟨m, em, hm⟩ := pick_mark a0 a1
  refine ⟨T, _, r, .str m, rfl, rfl, SqL.of eT, em, ?_⟩
  refine ⟨_, rfl, _, rfl, _, rfl, lettersT, rfl, (by decide +kernel), b, l, _, rfl, (by decide +kernel), (by decide +kernel), B1, fun r2 H2 b0 b1 B2 k3 => ?_⟩
  have b1 : r2 < 8 := by
    have e : ((lettersT.length : Nat) : Int) = 8 := by decide +kernel
    rw [e] at b1
    exact b1
  obtain ⟨x, ex, hx⟩ := letter_at b0 b1
  refine ⟨lettersT, r2, x, rfl, rfl, (by decide +kernel), ex, ?_⟩
  have fin : ∀ m' : Str, IsM m' → (m' = "c" → c = true) → (⟨#[x]⟩ : Str).length + m'.length ≤ sizeLine ∧ Q (.str ((⟨#[x]⟩ : Str) ++ m')) H2 := fun m' h1 h2 =>
    ⟨by rw [hx.len, h1.len]; decide, q (⟨#[x]⟩, m') H2 ⟨hx, h1⟩ h2 B2 (k2.trans k3)⟩
  refine ⟨_, rfl, rfl, _, rfl, ?_⟩
  refine ite2 (fun c1 => ?_) (fun c1 => ?_)
  · refine iteT ⟨_, rfl, _, m, rfl, rfl, fin m hm fun e => ?_⟩
    subst e
    exact absurd c1 (by decide +kernel)
  · have e : m = "c" := by
      by_cases z : m = "c"
      · exact z
      · refine absurd ?_ c1
        rw [decide_eq_false (fun y => z (V.str.inj y))]
        rfl
    subst e
    refine ⟨_, rfl, c, rfl, ?_⟩
    cases c with
    | true => exact iteT ⟨_, rfl, _, "c", rfl, rfl, fin "c" hm fun _ => rfl⟩
    | false => exact iteF ⟨_, "w", rfl, rfl, fin "w" (by unfold IsM; decide +kernel) fun e => absurd e (by decide +kernel)⟩
def spWorkT : Sp := fun vs H Q _ => ∃ (b l : Addr), vs = [.ref b, .str lettersT, .int 12] ∧ Box H b l ∧
  ∀ (p : Addr) (ws : List StepT) (H' : Hp), H p = none → H' p = some (.lst (stepsV ws)) → WorkOk ws → Box H' b l → Keep [b, l] H H' → Q (.ref p) H'
theorem ok_workT (D : Def K mg "_law_work" s_L_work psWork) (DT : Def K mg "_law_take" s_L_take ["_law_box", "_law_many"]) (DS : Def K mg "_law_step" s_L_step psStep) (ml : mg "len" = none) (mr : mg "range" = none) (ma : mg "any" = none) :
    FnOk P w K mg base CX0 3 D.f D.fd psWork spWorkT := by
  have GT : FnOk P w K mg base CX0 1 DT.f DT.fd ["_law_box", "_law_many"] spTake := ok_take DT
  have GS : FnOk P w K mg base CX0 2 DS.f DS.fd psStep spStepT := ok_stepT DS DT ml
  refine D.ok sc_L_work (fun vs H Q E h => ?_) (fun cdv A outer s H vs Q E hr h => ?_)
  · obtain ⟨b, l, rfl, _⟩ := h
    rfl
  obtain ⟨b, l, rfl, B, q⟩ := h
  have hr1 : Room 1 _ := hr.mono (by decide)
  have nd := sc_L_work.nd
  refine ⟨_, pss_cons (ps_set (i := 3) nd rfl (Or.inl rfl) (pe_lst pa_nil))
    (pss_cons (ps_for PassesOwn.never rfl (pi_range1 rfl mr (pa_cons (pcall DT GT hr1 (pa_cons (pv 0) (pa_cons (pe_op op_add (pv 2) pe_int) pa_nil))) pa_nil)) (pg_name (i := 4) nd rfl (Or.inl rfl))
      (pss_one (ps_expr (pe_bm PySem.F.plainAttrs_list PySem.F.slot_list_append PySem.F.type_list_append mt_append (pv 3)
        (pa_cons (pcall DS GS hr (pa_cons (pv 0) (pa_cons (pv 1) (pa_cons (pe_callB (cr_any rfl) rfl ma (by decide +kernel) (pa_cons
          (pe_lc (own := [("_law_step_here", 5)]) (g := gName 5) (tt := tYes) rfl nd (pi_list (pv 3)) (blkOk_by (N := ["_law_box", "_law_letters", "_law_most", "_law_found", "_law_turn", "_law_step_here"]) (sc := defScope s_L_work) (by decide +kernel)) (fun _ _ _ _ _ => pg_name (i := 5) nd rfl (Or.inl rfl)) (fun _ _ _ _ _ => pts_nil)
            (fun _ _ _ _ _ => pe_cmpR op_eq (pe_ix ix_str (pv 5) pe_int (fun _ _ => rfl)) pe_str (nomark _))) pa_nil)) pa_nil)))) pa_nil)))))
    (pss_one (ps_ret (pv 3)))), ?_⟩
  refine ⟨Nat.zero_le _, fun f hf => ?_⟩
  have nfb := B.ne_new hf
  refine ⟨_, rfl, _, rfl, _, _, rfl, rfl, b, l, _, rfl, by decide, by decide, B.new hf, fun r H1 a0 a1 B1 k1 => ?_⟩
  have a1' : r < 13 := a1
  have nin : ∀ {x : Addr}, x ≠ b ∧ x ≠ l → x ∉ [b, l] := fun {x} h => by simp [h.1, h.2]
  refine ⟨_, rfl, by omega, by omega, ?_⟩
  refine for_range (lo := 0) (n := r.toNat) (fun i σ H' => ∃ (ws : List StepT) (v : Option V), σ = [some (.ref b), some (.str lettersT), some (.int 12), some (.ref f), v, none] ∧ H' f = some (.lst (stepsV ws)) ∧ ws.length = i ∧ WorkFrom false ws ∧ Box H' b l ∧ Keep [b, l] H H')
    ⟨[], none, rfl, k1 _ _ upd_same (nin nfb), rfl, trivial, B1, (Keep.new hf).trans k1⟩ ?_ ?_
  · rintro i σ H' hi ⟨ws, v, rfl, ef, hl, hw, B', k'⟩
    have lws : (stepsV ws).length = ws.length := List.length_map _
    have all := hw.all
    refine ⟨_, rfl, .inl ⟨rfl, _, SqL.of ef⟩, _, rfl, _, rfl, _, rfl, f, rfl, ⟨_, SqL.of ef⟩, fun D hD => ?_⟩
    have nfD : f ≠ D := ne_of_none ef hD
    refine lc_list (K := K) (a := f) (xs := stepsV ws) (fun j H'' => H'' = upd H' D (.lst ((ws.take j).map fun p : StepT => V.bl (p.2 == ("w" : Str))))) rfl (fun j H'' _ e => by rw [e]; exact SqL.of (by rw [upd_ne nfD]; exact ef)) ?_ ?_
    · rintro j x H'' hj rfl
      have hjl : j < ws.length := by
        have z := (List.getElem?_eq_some_iff.mp hj).1
        rw [lws] at z
        exact z
      have ex : x = V.str (stepS (ws[j]'hjl)) := by
        have z := get_map (fun p => V.str (stepS p)) ws hjl
        exact Option.some.inj (hj.symm.trans z)
      subst ex
      have hs := all _ (List.getElem_mem hjl)
      obtain ⟨c, ec, em⟩ := hs.at1
      refine ⟨rfl, _, rfl, _, 1, c, rfl, rfl, by rw [hs.len]; decide, ec, rfl, _, upd_same, ?_, ?_⟩
      · rw [List.length_map, List.length_take]
        exact small1000 (by omega)
      · rw [upd_upd, em, List.take_succ_eq_append_getElem hjl, List.map_append, dec_str]
        rfl
    · rintro H'' rfl
      rw [lws, List.take_length]
      refine ⟨D, ws.map fun p : StepT => p.2 == ("w" : Str), rfl, SqL.of (by rw [upd_same, List.map_map]; rfl), ?_⟩
      have kD : Keep [b, l] H' (upd H' D (.lst (ws.map fun p : StepT => V.bl (p.2 == ("w" : Str))))) := Keep.new hD
      refine ⟨b, l, _, rfl, B'.new hD, fun p H2 hp hc B2 k2 => ?_⟩
      have ef2 := (kD.trans k2) f _ ef (nin nfb)
      refine ⟨f, _, _, rfl, rfl, ef2, by rw [lws]; exact small1000 (by omega), ?_⟩
      refine ⟨ws ++ [p], _, rfl, ?_, ?_, hw.snoc hp fun e => ?_, B2.put nfb.1 nfb.2, ((k'.trans (kD.trans k2)).newer hf)⟩
      · rw [upd_same]
        unfold stepsV
        rw [List.map_append]
        rfl
      · rw [List.length_append, hl]
        rfl
      · have z := hc e
        rw [Bool.false_or]
        unfold anyWrong
        rw [← z]
        simp [List.any_map]
  · rintro σ H' ⟨ws, v, rfl, ef, hl, hw, B', k'⟩
    exact ⟨_, rfl, q f ws H' hf ef ⟨hw, by omega⟩ B' k'⟩
end
end MS
end
section
set_option maxRecDepth 100000
set_option maxHeartbeats 4000000
namespace MS
open PySem L2
/-! ### what is due of a text -/
theorem one_eq (a c : Nat) : ((⟨#[a]⟩ : Str) == (⟨#[c]⟩ : Str)) = decide (c = a) := by
  by_cases h : c = a
  · rw [h, decide_eq_true rfl]
    exact beq_self_eq_true _
  · rw [decide_eq_false h]
    refine beq_false_of_ne fun z => h ?_
    have z1 := congrArg Str.cps z
    simp at z1
    exact z1.symm
theorem inV_letter (c : Nat) : inV (.str (⟨#[c]⟩ : Str)) (wordsL.map V.str) = decide (c ∈ lettersT.cps.toList) := by
  have e : wordsL = ([97, 98, 99, 100, 101, 102, 103, 104].map fun c : Nat => (⟨#[c]⟩ : Str)) := by decide +kernel
  have e2 : lettersT.cps.toList = [97, 98, 99, 100, 101, 102, 103, 104] := by decide +kernel
  rw [e, e2]
  simp [inV, eqV, one_eq]
theorem inV_mark (c : Nat) : inV (.str (⟨#[c]⟩ : Str)) marksV = decide (c ∈ ("crw" : Str).cps.toList) := by
  have e : marksV = ([114, 119, 99].map fun c : Nat => V.str (⟨#[c]⟩ : Str)) := by decide +kernel
  have e2 : ("crw" : Str).cps.toList = [99, 114, 119] := by decide +kernel
  rw [e, e2]
  simp [inV, eqV, one_eq]
  by_cases h1 : c = 114 <;> by_cases h2 : c = 119 <;> by_cases h3 : c = 99 <;> simp [h1, h2, h3]
theorem str_nil {t : Str} : (t = "") ↔ t.length = 0 := by
  constructor
  · intro h
    rw [h]
    rfl
  · intro h
    obtain ⟨c⟩ := t
    have : c = #[] := Array.size_eq_zero_iff.mp h
    rw [this]
    rfl
abbrev s_L_due : Stmt := topS 25
abbrev nmDue : List Str := ["_law_text", "_law_words", "_law_place", "_law_word", "_law_number", "_law_is_late", "_law_one"]
theorem sc_L_due : FnScope nmDue ["_law_text"] (defScope s_L_due) := ⟨rfl, rfl, rfl, by decide +kernel, rfl, by decide +kernel, by decide +kernel⟩
def spDue : Sp := fun vs H Q _ => ∃ t : Str, vs = [.str t] ∧ t.length ≤ 800 ∧ (∀ x ∈ wordsOf t, x.length ≤ 1000) ∧ (wordsOf t).length ≤ 900 ∧
  (∀ n : Nat, badText (wordsOf t) 0 = some n → ∀ (a : Addr) (H' : Hp), Same H H' → H' a = some (.tup [.str "BadText", .int ((n : Nat) : Int)]) → Q (.ref a) H') ∧
  (badText (wordsOf t) 0 = none → (∀ n : Nat, badWork (wordsOf t) false 0 = some n → ∀ (a : Addr) (H' : Hp), Same H H' → H' a = some (.tup [.str "BadWork", .int ((n : Nat) : Int)]) → Q (.ref a) H') ∧ (badWork (wordsOf t) false 0 = none → ∀ (f : Addr) (H' : Hp), Same H H' → H' f = some (.lst ((wordsOf t).map V.str)) → Q (.ref f) H'))
theorem badText_steps : ∀ {xs : List Str} {k : Nat}, badText xs k = none → ∀ x ∈ xs, stepB x = true
  | [], _, _ => fun _ h => nomatch h
  | y :: r, k, h => fun x hx => by
    unfold badText at h
    by_cases z : stepB y = false
    · rw [if_pos z] at h
      cases h
    · rw [if_neg z] at h
      rcases List.mem_cons.mp hx with rfl | hx
      · cases q : stepB x with
        | true => rfl
        | false => exact absurd q z
      · exact badText_steps h x hx
theorem step_of {x : Str} (h : stepB x = true) : ∃ p : StepT, IsStep p ∧ x = stepS p := by
  have hl := stepB_len h
  unfold stepB at h
  rw [Bool.and_eq_true, Bool.and_eq_true] at h
  obtain ⟨_, h1, h2⟩ := h
  have m1 : ∀ {y : Str} {L : List Str}, inV (.str y) (L.map V.str) = true → y ∈ L := fun {y L} z => by
    unfold inV at z
    obtain ⟨v, hv, e⟩ := List.any_eq_true.mp z
    obtain ⟨u, hu, rfl⟩ := List.mem_map.mp hv
    have e : (u == y) = true := e
    rw [← eq_of_beq e]
    exact hu
  have w1 : IsW (sgn x 0) := m1 h1
  have w2 : IsM (sgn x 1) := by
    have z : inV (.str (sgn x 1)) ((["r", "w", "c"] : List Str).map V.str) = true := h2
    have z := m1 z
    unfold IsM
    revert z
    generalize sgn x 1 = y
    intro z
    rcases List.mem_cons.mp z with rfl | z
    · decide +kernel
    · rcases List.mem_cons.mp z with rfl | z
      · decide +kernel
      · rw [List.mem_singleton.mp z]
        decide +kernel
  refine ⟨(sgn x 0, sgn x 1), ⟨w1, w2⟩, ?_⟩
  obtain ⟨⟨l⟩⟩ := x
  match l, hl with
  | [a, b], _ => rfl
theorem steps_of : ∀ {xs : List Str}, (∀ x ∈ xs, stepB x = true) → ∃ ws : List StepT, xs = ws.map stepS ∧ ∀ p ∈ ws, IsStep p
  | [], _ => ⟨[], rfl, (fun _ h => nomatch h)⟩
  | x :: r, h => by
    obtain ⟨p, h1, h2⟩ := step_of (h x List.mem_cons_self)
    obtain ⟨ws, h3, h4⟩ := steps_of fun y hy => h y (List.mem_cons_of_mem _ hy)
    refine ⟨p :: ws, by rw [h2, h3]; rfl, fun q hq => ?_⟩
    rcases List.mem_cons.mp hq with rfl | hq
    · exact h1
    · exact h4 q hq
theorem sgn1 {p : StepT} (h : IsStep p) : sgn (stepS p) 1 = p.2 := by
  obtain ⟨c, e, e2⟩ := h.at1
  have hl := h.len
  have z := sgn_at (x := stepS p) (i := 1) (by omega)
  have z2 : (some ((stepS p).cps.toList.getD 1 0)) = some c := z.symm.trans e
  show (⟨#[(stepS p).cps.toList.getD 1 0]⟩ : Str) = p.2
  rw [Option.some.inj z2]
  exact e2
theorem stepB_is {p : StepT} (h : IsStep p) : stepB (stepS p) = true := by
  obtain ⟨⟨x, m⟩, hx, hm⟩ : ∃ q : StepT, IsW q.1 ∧ IsM q.2 := ⟨p, h⟩
  have key : ∀ x ∈ wordsL, ∀ m ∈ marksL, stepB (stepS (x, m)) = true := by decide +kernel
  exact key p.1 h.1 p.2 h.2
theorem steps_dp {K : PySem.W.Frag} {H : Hp} : ∀ ws : List StepT, DpAll K H (stepsV ws) (ws.map fun p => PyData.str (stepS p))
  | [] => .nil
  | p :: r => .cons (.str (stepS p)) (steps_dp r)
theorem steps_sh {ws : List StepT} (h : ∀ p ∈ ws, IsStep p) : ShAll 0 (ws.map fun p => PyData.str (stepS p)) := ShAll.of fun d hd => by
  obtain ⟨p, hp, rfl⟩ := List.mem_map.mp hd
  exact .str (h p hp).ok
theorem steps_nil (ws : List StepT) : PyData.eqv (.list (ws.map fun p => PyData.str (stepS p))) (.list []) = ws.isEmpty := by
  cases ws with
  | nil => rfl
  | cons a r => rfl
theorem any_not (ws : List StepT) (f : StepT → Bool) : (ws.filter f).isEmpty = !(ws.any f) := by
  induction ws with
  | nil => rfl
  | cons a r ih =>
    cases e : f a with
    | true =>
      rw [List.filter_cons_of_pos e, List.any_cons, e]
      rfl
    | false =>
      rw [List.filter_cons_of_neg (by rw [e]; decide), List.any_cons, e, ih]
      rfl
theorem late_or {i : Nat} {late : Bool} {σ : St} {H : Hp} (s4 : σ[4]? = some (some (.int ((i : Nat) : Int)))) (s5 : σ[5]? = some (some (.bl late))) : ∀ Q : Bool → Hp → Prop, (∀ H', Same H H' → Q ((i == 12) || late) H') → tOr (tTest (tOp rEq (tVar 4) (tC (.int 12)))) (tB (tVar 5)) σ H Q :=
  ev_or_new (fun Q q => ⟨_, s4, rfl, _, rfl, by
    have e : decide (V.int ((i : Nat) : Int) = V.int 12) = (i == 12) := by
      by_cases h : i = 12
      · rw [h]; rfl
      · rw [decide_eq_false (fun z => h (by have := V.int.inj z; omega)), beq_false_of_ne h]
    rw [e]
    exact q _ (Same.refl _)⟩) (fun _ H' _ Q q => ⟨_, s5, _, rfl, q _ (Same.refl _)⟩)
section
variable {P : Program} {w : World} {K : PySem.W.Frag} {mg : Str → Option Value} {base : Heap}
theorem ok_due (D : Def K mg "_law_due" s_L_due ["_law_text"]) (ml : mg "len" = none) (mr : mg "range" = none) : FnOk P w K mg base CX0 1 D.f D.fd ["_law_text"] spDue := by
  have nd := sc_L_due.nd
  refine D.ok sc_L_due (fun vs H Q E h => ?_) (fun cdv A outer s H vs Q E hr h => ?_)
  · obtain ⟨t, rfl, _⟩ := h
    rfl
  obtain ⟨t, rfl, ht, hx, hl, q1, q2⟩ := h
  refine ⟨_, pss_cons (ps_set (i := 1) nd rfl (Or.inl rfl) (pe_ifExp (pt_cmpR op_ne (pv 0) pe_str (nomark _)) (pe_split (pv 0) pe_str) (pe_lst pa_nil)))
    (pss_cons (ps_for PassesOwn.never rfl (pi_range1 rfl mr (pa_cons (pe_callB call_len_seq rfl ml PySem.boot_len (pa_cons (pv 1) pa_nil)) pa_nil)) (pg_name (i := 2) nd rfl (Or.inl rfl))
      (pss_cons (ps_set (i := 3) nd rfl (Or.inl rfl) (pe_ix ix_list (pv 1) (pv 2) (fun _ _ => rfl)))
      (pss_one (ps_if (PW.pt (pw_or (pt_cmpR op_ne (pe_callB call_len_str rfl ml PySem.boot_len (pa_cons (pv 3) pa_nil)) pe_int (nomark _)) (pw_or (pt_cmpR op_notIn_sign (pe_ix ix_str (pv 3) pe_int (fun _ _ => rfl)) pe_str (by rfl)) (pw_or1 (pt_cmpR op_notIn_sign (pe_ix ix_str (pv 3) pe_int (fun _ _ => rfl)) pe_str (by rfl))))))
        (pss_one (ps_ret (pe_tup (pa_cons pe_str (pa_cons (pv 2) pa_nil))))) pss_nil))))
    (pss_cons (ps_for PassesOwn.never rfl (pi_range1 rfl mr (pa_cons (pe_callB call_len_seq rfl ml PySem.boot_len (pa_cons (pv 1) pa_nil)) pa_nil)) (pg_name (i := 4) nd rfl (Or.inl rfl))
      (pss_cons (ps_set (i := 5) nd rfl (Or.inl rfl) (pe_and (pe_cmpR op_eq (pe_ix ix_str (pe_ix ix_list (pv 1) (pv 4) (fun _ _ => rfl)) pe_int (fun _ _ => rfl)) pe_str (nomark _))
          (pe_one (pe_cmpR (op_eqD hr.units) (pe_lc (own := [("_law_one", 6)]) (g := gName 6) rfl nd (pi_list (pe_slice sl_list (pv 1) po_none (po_some (pv 4)))) (blkOk_by (N := nmDue) (sc := defScope s_L_due) (by decide +kernel)) (fun _ _ _ _ _ => pg_name (i := 6) nd rfl (Or.inl rfl))
            (fun _ _ _ _ _ => pts_one (pt_cmpR op_eq (pe_ix ix_str (pv 6) pe_int (fun _ _ => rfl)) pe_str (nomark _))) (fun _ _ _ _ _ => pv 6)) (pe_lst pa_nil) (nomark _)))))
      (pss_one (ps_if (PW.pt (pw_or (pt_cmpR op_eq (pv 4) pe_int (nomark _)) (pw_or1 (pt_val (pv 5))))) (pss_one (ps_ret (pe_tup (pa_cons pe_str (pa_cons (pv 4) pa_nil))))) pss_nil))))
    (pss_one (ps_ret (pv 1))))), ?_⟩
  refine ⟨_, rfl, rfl, _, rfl, ?_⟩
  refine kids_if (kv := (wordsOf t).map V.str) (fun z R hR => ?_) (fun z R hR => ?_) (fun f hf => ?_)
  · have z0 : t.length ≠ 0 := fun e => by
      rw [str_nil.mpr e] at z
      exact absurd z (by decide +kernel)
    refine ⟨_, rfl, ⟨_, rfl⟩, _, " ", rfl, rfl, by decide, szN (by omega), fun p hp => ?_⟩
    have := hR p hp
    unfold wordsOf at this
    rw [if_neg z0] at this
    exact this
  · have z0 : t.length = 0 := by
      by_cases e : t.length = 0
      · exact e
      · refine absurd z ?_
        rw [decide_eq_false (fun y => e (str_nil.mp (V.str.inj y)))]
        decide
    refine ⟨Nat.zero_le _, fun p hp => ?_⟩
    have := hR p hp
    unfold wordsOf at this
    rw [if_pos z0] at this
    exact this
  have s1 : Same H (upd H f (.lst ((wordsOf t).map V.str))) := Same.new hf
  have ef : upd H f (.lst ((wordsOf t).map V.str)) f = some (.lst ((wordsOf t).map V.str)) := upd_same
  dsimp only [gName]
  generalize upd H f (.lst ((wordsOf t).map V.str)) = H1 at s1 ef ⊢
  generalize hxs : wordsOf t = xs at *
  have lxs : (xs.map V.str).length = xs.length := List.length_map _
  refine ⟨_, rfl, f, _, rfl, .inl (SqL.of ef), _, rfl, by omega, by omega, ?_⟩
  rw [Int.toNat_natCast, lxs]
  refine for_range (lo := 0) (n := xs.length) (fun i σ H' => ∃ (v2 v3 : Option V), σ = [some (.str t), some (.ref f), v2, v3, none, none, none] ∧ badText xs 0 = badText (xs.drop i) i ∧ Same H1 H')
    ⟨none, none, rfl, rfl, Same.refl _⟩ ?_ ?_
  · rintro i σ H2 hi ⟨v2, v3, rfl, hb, sm⟩
    have hxl := hx _ (List.getElem_mem hi)
    rw [List.drop_eq_getElem_cons hi] at hb
    have hb : badText xs 0 = if stepB (xs[i]'hi) = false then some i else badText (xs.drop (i + 1)) (i + 1) := hb
    have gx : (xs.map V.str)[i]? = some (V.str (xs[i]'hi)) := get_map V.str xs hi
    generalize xs[i]'hi = x at hxl hb gx
    simp only [Int.zero_add]
    dsimp only [gName]
    refine ⟨_, rfl, _, rfl, f, _, _, _, rfl, rfl, SqL.of (sm _ _ ef), atI_nat gx, ?_⟩
    dsimp only [gName]
    have tst : ∀ {H3 : Hp} {k : Nat} {z : Str} {Q : Bool → Hp → Prop}, k < x.length → Q (!decide (x.cps.toList.getD k 0 ∈ z.cps.toList)) H3 → tTest (tOp (fun x y H Q => ∃ (c : Nat) (z : Str), x = .str ⟨#[c]⟩ ∧ y = .str z ∧ Q (.bl (!decide (c ∈ z.cps.toList))) H) (tOp rIxS (tVar 3) (tC (.int (k : Nat)))) (tC (.str z))) [some (.str t), some (.ref f), some (.int ((i : Nat) : Int)), some (.str x), none, none, none] H3 Q := fun {H3 k z Q} hk q =>
      ⟨_, rfl, x, _, _, rfl, rfl, szN hxl, sgn_at hk, _, z, rfl, rfl, _, rfl, q⟩
    refine one_new (u := tNext) (b := !(x.length == 2) || (!decide (x.cps.toList.getD 0 0 ∈ lettersT.cps.toList) || !decide (x.cps.toList.getD 1 0 ∈ ("crw" : Str).cps.toList)))
      (ev_or_new (fun Q q => ⟨_, rfl, _, rfl, szN hxl, rfl, _, rfl, ?_⟩) (fun zb H3 s3 => ev_or_new (fun Q q => tst (k := 0) ?_ (q _ (Same.refl _))) (fun _ H4 s4 Q q => tst (k := 1) ?_ (q _ (Same.refl _))))) (fun z H3 s3 => ?_) (fun z H3 s3 => ?_)
    · have e : (!decide (V.int ((x.length : Nat) : Int) = V.int 2)) = !(x.length == 2) := by
        by_cases h : x.length = 2
        · rw [h]
          rfl
        · rw [decide_eq_false (fun z => h (by have := V.int.inj z; omega)), beq_false_of_ne h]
      rw [e]
      exact q _ (Same.refl _)
    · have : x.length = 2 := by
        revert zb
        by_cases h : x.length = 2
        · exact fun _ => h
        · rw [beq_false_of_ne h]
          intro z
          cases z
      omega
    · have : x.length = 2 := by
        revert zb
        by_cases h : x.length = 2
        · exact fun _ => h
        · rw [beq_false_of_ne h]
          intro z
          cases z
      omega
    · have hst : stepB x = false := by
        unfold stepB
        show ((x.length == 2) && (inV (.str (⟨#[x.cps.toList.getD 0 0]⟩ : Str)) (wordsL.map V.str) && inV (.str (⟨#[x.cps.toList.getD 1 0]⟩ : Str)) marksV)) = false
        rw [inV_letter, inV_mark]
        revert z
        cases (x.length == 2) <;> cases decide (x.cps.toList.getD 0 0 ∈ lettersT.cps.toList) <;> cases decide (x.cps.toList.getD 1 0 ∈ ("crw" : Str).cps.toList) <;> decide
      rw [if_pos hst] at hb
      exact ⟨_, rfl, sz2, fun a ha => q1 i hb a _ (s1.trans (sm.trans (s3.trans (Same.new ha)))) upd_same⟩
    · have hst : ¬ stepB x = false := by
        unfold stepB
        show ¬ ((x.length == 2) && (inV (.str (⟨#[x.cps.toList.getD 0 0]⟩ : Str)) (wordsL.map V.str) && inV (.str (⟨#[x.cps.toList.getD 1 0]⟩ : Str)) marksV)) = false
        rw [inV_letter, inV_mark]
        revert z
        cases (x.length == 2) <;> cases decide (x.cps.toList.getD 0 0 ∈ lettersT.cps.toList) <;> cases decide (x.cps.toList.getD 1 0 ∈ ("crw" : Str).cps.toList) <;> decide
      rw [if_neg hst] at hb
      exact ⟨_, _, rfl, hb, sm.trans s3⟩
  · rintro σ H2 ⟨v2, v3, rfl, hb, sm⟩
    rw [List.drop_length] at hb
    obtain ⟨q3, q4⟩ := q2 hb
    have hall := badText_steps hb
    obtain ⟨ws, hws, hw⟩ := steps_of hall
    have lws : ws.length = xs.length := by rw [hws, List.length_map]
    have esteps : xs.map V.str = stepsV ws := by rw [hws, List.map_map]; rfl
    refine ⟨_, rfl, f, _, rfl, .inl (SqL.of (sm _ _ ef)), _, rfl, by omega, by omega, ?_⟩
    rw [Int.toNat_natCast, lxs]
    refine for_range (lo := 0) (n := xs.length) (fun i σ H' => ∃ (v4 v5 : Option V), σ = [some (.str t), some (.ref f), v2, v3, v4, v5, none] ∧ badWork xs false 0 = badWork (xs.drop i) ((ws.take i).any fun p => p.2 == "w") i ∧ Same H1 H')
      ⟨none, none, rfl, rfl, sm⟩ ?_ ?_
    · rintro i σ H3 hi ⟨v4, v5, rfl, hbw, sm3⟩
      have hiw : i < ws.length := by omega
      have hp := hw _ (List.getElem_mem hiw)
      have ex : xs[i]'hi = stepS (ws[i]'hiw) := by
        have z : (ws.map stepS)[i]? = some (stepS (ws[i]'hiw)) := get_map stepS ws hiw
        rw [← hws, List.getElem?_eq_getElem hi] at z
        exact Option.some.inj z
      rw [List.drop_eq_getElem_cons hi, ex] at hbw
      have tk : ws.take (i + 1) = ws.take i ++ [ws[i]'hiw] := by rw [List.take_succ_eq_append_getElem hiw]
      have hbw : badWork xs false 0 = if (i == 12 || !stepB (stepS (ws[i]'hiw))) = true then some i else if (sgn (stepS (ws[i]'hiw)) 1 == "c" && !((ws.take i).any fun p => p.2 == "w")) = true then some i else badWork (xs.drop (i + 1)) (((ws.take i).any fun p => p.2 == "w") || sgn (stepS (ws[i]'hiw)) 1 == "w") (i + 1) := hbw
      rw [stepB_is hp, sgn1 hp] at hbw
      have gx : (stepsV ws)[i]? = some (V.str (stepS (ws[i]'hiw))) := get_map (fun p => V.str (stepS p)) ws hiw
      have ef3 := sm3 _ _ ef
      rw [esteps] at ef3
      obtain ⟨c1, e1, y1⟩ := hp.at1
      simp only [Int.zero_add]
      dsimp only [gName]
      have lsv : (stepsV ws).length = ws.length := List.length_map _
      refine ⟨_, rfl, _, rfl, f, _, _, _, rfl, rfl, SqL.of ef3, atI_nat gx, _, 1, c1, rfl, rfl, strl2 hp.len, e1, rfl, _, rfl, ?_⟩
      rw [y1, dec_str]
      have fin : ∀ (H4 : Hp) (late : Bool), Same H3 H4 → late = ((ws[i]'hiw).2 == "c" && !((ws.take i).any fun p => p.2 == "w")) →
          tIfS (tOr (tTest (tOp rEq (tVar 4) (tC (V.int 12)))) (tB (tVar 5))) (tRet (tTup (tCons (tC (V.str "BadWork")) (tCons (tVar 4) tNil)))) tNext
            { nx := fun σ H' => ∃ v4 v5, σ = [some (V.str t), some (V.ref f), v2, v3, v4, v5, none] ∧ badWork xs false 0 = badWork (xs.drop (i + 1)) ((ws.take (i + 1)).any fun p => p.2 == "w") (i + 1) ∧ Same H1 H', rt := Q, bk := tRet (tVar 1) { nx := fun _ H' => Q V.non H', rt := Q },
              ct := fun σ H' => ∃ v4 v5, σ = [some (V.str t), some (V.ref f), v2, v3, v4, v5, none] ∧ badWork xs false 0 = badWork (xs.drop (i + 1)) ((ws.take (i + 1)).any fun p => p.2 == "w") (i + 1) ∧ Same H1 H' }
            [some (.str t), some (.ref f), v2, v3, some (.int ((i : Nat) : Int)), some (.bl late), none] H4 := fun H4 late s4 hlate => by
        refine one_new (u := tNext) (b := (i == 12) || late) (late_or rfl rfl) (fun z H5 s5 => ?_) (fun z H5 s5 => ?_)
        · have e : badWork xs false 0 = some i := by
            rw [hbw]
            by_cases z1 : (i == 12 || !true) = true
            · rw [if_pos z1]
            · rw [if_neg z1]
              have z2 : late = true := by
                rw [Bool.not_true, Bool.or_false] at z1
                rw [Bool.eq_false_iff.mpr z1] at z
                exact z
              rw [hlate] at z2
              rw [if_pos z2]
          exact ⟨_, rfl, sz2, fun a ha => q3 i e a _ (s1.trans (sm3.trans (s4.trans (s5.trans (Same.new ha))))) upd_same⟩
        · refine ⟨_, _, rfl, ?_, sm3.trans (s4.trans s5)⟩
          rw [Bool.or_eq_false_iff] at z
          rw [hbw, z.1, ← hlate, z.2, if_neg (by decide), if_neg (by decide), tk, List.any_append, List.any_cons, List.any_nil, Bool.or_false]
      refine ite2 (fun hc => ?_) (fun hc => ?_)
      · refine ⟨_, rfl, _, rfl, _, rfl, f, _, rfl, SqL.of ef3, fun u hu => ?_⟩
        rw [cut_to]
        have etk : (stepsV ws).take i = stepsV (ws.take i) := by
          unfold stepsV
          rw [List.map_take]
        rw [etk]
        have eu : upd H3 u (.lst (stepsV (ws.take i))) u = some (.lst (stepsV (ws.take i))) := upd_same
        have su : Same H3 (upd H3 u (.lst (stepsV (ws.take i)))) := Same.new hu
        generalize upd H3 u (.lst (stepsV (ws.take i))) = Hu at eu su ⊢
        have hwt : ∀ p ∈ ws.take i, IsStep p := fun p hp => hw p (List.mem_of_mem_take hp)
        have lt : (ws.take i).length = i := by rw [List.length_take]; omega
        generalize ws.take i = wt at *
        refine ⟨u, rfl, ⟨_, SqL.of eu⟩, fun Dd hD => ?_⟩
        have nuD : u ≠ Dd := ne_of_none eu hD
        refine lc_list (K := K) (a := u) (xs := stepsV wt) (fun j H'' => H'' = upd Hu Dd (.lst (stepsV ((wt.take j).filter fun p => p.2 == "w")))) rfl (fun j H'' _ e => by rw [e]; exact SqL.of (by rw [upd_ne nuD]; exact eu)) ?_ ?_
        · rintro j xx H'' hj rfl
          have hjl : j < wt.length := by
            have z := (List.getElem?_eq_some_iff.mp hj).1
            unfold stepsV at z
            rw [List.length_map] at z
            exact z
          have exx : xx = V.str (stepS (wt[j]'hjl)) := by
            have z := get_map (fun p => V.str (stepS p)) wt hjl
            exact Option.some.inj (hj.symm.trans z)
          subst exx
          have hs9 := hwt _ (List.getElem_mem hjl)
          obtain ⟨k1, e9, y9⟩ := hs9.at1
          have tkj : wt.take (j + 1) = wt.take j ++ [wt[j]'hjl] := by rw [List.take_succ_eq_append_getElem hjl]
          refine ⟨rfl, _, rfl, _, 1, k1, rfl, rfl, strl2 hs9.len, e9, rfl, _, rfl, ?_⟩
          rw [y9, dec_str]
          refine ite2 (fun z => ?_) (fun z => ?_)
          · refine ⟨_, rfl, _, upd_same, ?_, ?_⟩
            · unfold stepsV
              rw [List.length_map]
              refine small1000 (Nat.le_trans (List.length_filter_le _ _) ?_)
              rw [List.length_take]
              omega
            · rw [upd_upd, tkj, List.filter_append]
              congr 2
              rw [List.filter_cons_of_pos (p := fun p : StepT => p.2 == "w") (a := wt[j]'hjl) z]
              unfold stepsV
              rw [List.map_append]
              rfl
          · rw [tkj, List.filter_append, List.filter_cons_of_neg (p := fun p : StepT => p.2 == "w") (a := wt[j]'hjl) z, List.filter_nil, List.append_nil]
        · rintro H'' rfl
          have el : wt.take (stepsV wt).length = wt := by
            unfold stepsV
            rw [List.length_map, List.take_length]
          rw [el]
          have sD : Same Hu (upd Hu Dd (.lst (stepsV (wt.filter fun p => p.2 == "w")))) := Same.new hD
          have eD : upd Hu Dd (.lst (stepsV (wt.filter fun p => p.2 == "w"))) Dd = some (.lst (stepsV (wt.filter fun p => p.2 == "w"))) := upd_same
          refine ⟨Nat.zero_le _, fun p hp' => ⟨.list _, .list [], .lst (SqL.of (Same.new hp' _ _ eD)) (steps_dp _), .lst (SqL.of upd_same) .nil, (ShN.lst (steps_sh fun q hq => hwt q (List.mem_filter.mp hq).1)).ok (by decide), rfl, ?_⟩⟩
          rw [steps_nil, any_not]
          refine fin _ _ (su.trans (sD.trans (Same.new hp'))) ?_
          rw [hc, Bool.true_and]
      · refine fin _ _ (Same.refl _) ?_
        rw [Bool.eq_false_iff.mpr hc]
        rfl
    · rintro σ H3 ⟨v4, v5, rfl, hbw, sm3⟩
      rw [List.drop_length] at hbw
      exact ⟨_, rfl, q4 hbw f H3 (s1.trans sm3) (sm3 _ _ ef)⟩
end
end MS
end
section
set_option maxRecDepth 100000
set_option maxHeartbeats 4000000
namespace MS
open PySem L2
open HeY LamX
/-! ### the law -/
abbrev s_law : Stmt := topS 26
abbrev nmLaw : List Str := ["_law_script", "_law_box", "_law_turn", "_law_words", "_law_change", "_law_k", "_law_way", "_law_odd", "_law_text", "_law_again"]
theorem sc_law : FnScope nmLaw ["_law_script"] (defScope s_law) := ⟨rfl, rfl, rfl, by decide +kernel, rfl, by decide +kernel, by decide +kernel⟩
theorem cut_from (xs : List V) (k : Nat) : cutV xs (some (k : Int)) none = xs.drop k := by
  unfold cutV
  rw [HT.sIx_none, HT.sIx_nat]
  by_cases h : k ≤ xs.length
  · rw [Nat.min_eq_left h, List.take_of_length_le (by rw [List.length_drop]; omega)]
  · rw [Nat.min_eq_right (by omega), List.drop_of_length_le (Nat.le_refl _), List.drop_of_length_le (by omega), List.take_nil]
/-- what the def's code object is -/
def CodeAt (K : PySem.W.Frag) (f c : Addr) : Prop := ∀ oc od fd osl c', K.lookup f = some ⟨oc, od, .func fd, osl⟩ → fd.code = .ref c' → c' = c
section
variable {P : Program} {w : World} {K : PySem.W.Frag} {mg : Str → Option Value} {base : Heap}
theorem Def.okC {x : Str} {st : Stmt} {ps N : List Str} {k : Nat} {sp : Sp} {c : Addr} (D : Def K mg x st ps) (hc : CodeAt K D.f c) (S : FnScope N ps (defScope st)) (len : ∀ vs H Q E, sp vs H Q E → vs.length = ps.length)
    (hbody : ∀ (A : Around) (outer : List Env) (s : Shared) (H : Hp) (vs : List V) (Q : VK) (E : XK), Room k (A.deeper (PyProof.Rows.envOfC x (defScope st) s.heap.objs.size D.f (.ref c))) → sp vs H Q E →
      ∃ t, PSs (cxOf CX0 P w K mg base N x (defScope st) D.f (.ref c) A outer s H E).nox (defBody st) t ∧ t { nx := fun _ H' => Q .non H', rt := Q } (start N vs) H) : FnOk P w K mg base CX0 (k + 1) D.f D.fd ps sp := by
  obtain ⟨f, fd, F, g, b⟩ := D
  obtain ⟨oc, od, dV, kV, doc, pm, an, cdv, ct, osl, rfl, lk, hcd, _, _⟩ := F.ex
  obtain ⟨c', rfl⟩ := He.codeIn_ref hcd
  obtain rfl : c' = c := hc _ _ _ _ _ lk rfl
  exact fn_of lk hcd S len fun A outer s H vs Q E hr hsp => by
    obtain ⟨t, h, q⟩ := hbody A outer s H vs Q E hr hsp
    exact ⟨t, h.nox, q⟩
/-- told(lambda: body) -/
theorem pe_told {X : Cx} {T : List (Addr × Str)} {c P : Addr} {k : Nat} {params : Arguments} {body : Expr} {scope : Scope} {t : XK → TE} {p lpos pos : Pos} (F : ErrF X.K X.mg) (D : Def X.K X.mg "_law_told" s_L_told ["_law_work_here"]) (hg : Gl X "_law_told")
    (TB : TabB X.base X.mg c P) (hcode : X.env.code = .ref c) (hmT : (P, X.env.qual ++ "<lambda>") ∈ T) (hu : ∀ p ∈ T, p.1 = P → p.2 = X.env.qual ++ "<lambda>") (hr : Room (k + 2) X.A) (L : LamS X.env.scope scope) (hdef : defaultsOf params X.env = ([], []))
    (hbind : ∀ (q : Str) (cl : List (Str × Addr)) (pm cv ctv : Value), bindArgs (PySem.W.kla_fn "<lambda>" q params body scope cl pm cv ctv) ⟨[], []⟩ = pure [])
    (hbody : ∀ (A : Around) (outer : List Env) (s : Shared) (H : Hp) (E : XK) (f c' : Addr), Room k (A.deeper (lamEnv X scope s.heap.objs.size f c')) → PE (lamCx X A outer s H E scope f c') body (t E)) :
    PE X (.Call (.Name "_law_told" p) [.Lambda params body scope lpos] [] pos) (tLam T (TTd F) t) := by
  obtain ⟨f, fd, FD, g, b⟩ := D
  obtain ⟨oc, od, dV, kV, doc, pm, an, cdv, ct, osl, rfl, lk, hcd, _, _⟩ := FD.ex
  exact pe_lamcall hg g FD.kp lk hcd b sc_L_told rfl (Or.inl rfl) (told_gives F) TB hcode hmT hu hr L hdef hbind hbody
end
theorem lam_passes {X : Cx} {A : Around} {outer : List Env} {s : Shared} {H : Hp} {E : XK} {scope : Scope} {f c' : Addr} : Passes (L2.CX X.prog X.w) (lamCx X A outer s H E scope f c') E := L2.passes_call (L2.takes_of (X := lamCx X A outer s H E scope f c') rfl rfl rfl rfl) (fun _ _ _ _ h => h)
theorem pcall_lam {X : Cx} {A : Around} {outer : List Env} {s : Shared} {H : Hp} {E : XK} {scope : Scope} {f c' : Addr} {x : Str} {st : Stmt} {ps : List Str} {k : Nat} {sp : Sp} {e : Expr} {es : List Expr} {t : TA} {p pos : Pos} (D : Def X.K X.mg x st ps) (G : FnOk X.prog X.w X.K X.mg X.base (L2.CX X.prog X.w) k D.f D.fd ps sp)
    (hr : Room k (A.deeper (lamEnv X scope s.heap.objs.size f c'))) (ha : PA (lamCx X A outer s H E scope f c') (e :: es) t) (hg : scope.names.lookup x = some .globalImplicit) (hdb : (x == ("__debug__" : Str)) = false)
    (he : starEach (e :: es) (lamEnv X scope s.heap.objs.size f c') = (false, eval e (lamEnv X scope s.heap.objs.size f c')) :: starEach es (lamEnv X scope s.heap.objs.size f c')) (hpl : (backTo pos (starEach es (lamEnv X scope s.heap.objs.size f c'))).any (·.1) = false) :
    PE (lamCx X A outer s H E scope f c') (.Call (.Name x p) (e :: es) [] pos) (tCall sp [] E t) := pcallX (X := lamCx X A outer s H E scope f c') (E := E) D G hr (lam_passes (X := X) (A := A) (outer := outer) (s := s) (H := H) (E := E) (scope := scope) (f := f) (c' := c')) ha hg hdb he hpl
theorem pv_lam {X : Cx} {A : Around} {outer : List Env} {s : Shared} {H : Hp} {E : XK} {scope : Scope} {f c' : Addr} {x : Str} {i : Nat} {p : Pos} (hN : X.N[i]? = some x) (hv : scope.names.lookup x = some .free) (hd : (x == ("__debug__" : Str)) = false) (hcd : (x == ("__classdict__" : Str)) = false) : PE (lamCx X A outer s H E scope f c') (.Name x p) (tVar i) := pe_var (X := lamCx X A outer s H E scope f c') hN (.inr (.inr hv)) hd hcd
theorem tabs_keep {T : List (Addr × Str)} {H H' : Hp} {b l : Addr} (t : Tabs T H) (B : Box H b l) (k : Keep [b, l] H H') : Tabs T H' := fun p hp => by
  obtain ⟨_, ⟨n, e1⟩, ns, e2⟩ := B
  obtain ⟨ps, h1, h2, h3⟩ := t p hp
  have go : ∀ {a : Addr} {o : HO}, H a = some o → (∀ xs, o ≠ .lst xs) → H' a = some o := fun {a o} ha hn => k a o ha fun hm => by
    rcases List.mem_cons.mp hm with rfl | hm
    · rw [e1] at ha
      exact hn _ (Option.some.inj ha).symm
    · rw [List.mem_singleton.mp hm, e2] at ha
      exact hn _ (Option.some.inj ha).symm
  refine ⟨ps, go h1 (fun xs z => nomatch z), h2, fun pos cv hc => ?_⟩
  obtain ⟨c, e, h⟩ := h3 pos cv hc
  exact ⟨c, e, go h fun xs z => by unfold CodeO at z; cases z⟩
theorem box_ext {H H' : Hp} {b l : Addr} (B : Box H b l) (e : ExtN H H') : Box H' b l := by
  obtain ⟨ne, ⟨n, e1⟩, ns, e2⟩ := B
  exact ⟨ne, ⟨n, e _ _ e1 fun ps z => nomatch z⟩, ns, e _ _ e2 fun ps z => nomatch z⟩
structure D14 (K : PySem.W.Frag) (mg : Str → Option Value) where
  DBg : Def K mg "_law_begun" s_L_begun ["_law_script"]
  DT : Def K mg "_law_take" s_L_take ["_law_box", "_law_many"]
  DA : Def K mg "_law_alike" s_L_alike psAlike
  DTo : Def K mg "_law_told" s_L_told ["_law_work_here"]
  DSt : Def K mg "_law_step" s_L_step psStep
  DWk : Def K mg "_law_work" s_L_work psWork
  DDu : Def K mg "_law_due" s_L_due ["_law_text"]
  DI : Def K mg "is_step" s_is_step ["thing"]
  DC : Def K mg "check_work" s_check_work ["work"]
  DR : Def K mg "read_work" s_read_work ["text"]
def spLaw (K : PySem.W.Frag) (P : Addr) : Sp := fun vs H Q _ => ∃ (a : Addr) (ns : List Int), vs = [.ref a] ∧ SqL K H a (ns.map V.int) ∧ ns.length ≤ 63 ∧ H P = some (.tbl #[]) ∧ ∀ H', Q (.bl true) H'
theorem sum_le3 : ∀ {xs : List Str}, (∀ x ∈ xs, x.length ≤ 3) → (xs.map (·.length)).sum ≤ 3 * xs.length
  | [], _ => Nat.le_refl _
  | x :: r, h => by
    have h1 := h x List.mem_cons_self
    have h2 := sum_le3 (xs := r) fun y hy => h y (List.mem_cons_of_mem _ hy)
    rw [List.map_cons, List.sum_cons, List.length_cons]
    omega
theorem text_of {xs : List Str} (hs : (xs.map (·.length)).sum ≤ 309) (hl : xs.length ≤ 103) : (Txt.join " " xs).length ≤ 800 ∧ (∀ x ∈ wordsOf (Txt.join " " xs), x.length ≤ 1000) ∧ (wordsOf (Txt.join " " xs)).length ≤ 900 := by
  have h1 : (Txt.join " " xs).length ≤ 800 := by
    rw [show Txt.join " " xs = Str.join " " xs from TL.join_eq " " xs]
    cases xs with
    | nil => decide
    | cons x r =>
      rw [PyProof.Rows.len_join_cons]
      have e1 : (" " : Str).length = 1 := rfl
      rw [e1]
      have : (x :: r).length = r.length + 1 := rfl
      omega
  refine ⟨h1, fun x hx => ?_, ?_⟩
  · unfold wordsOf at hx
    split at hx
    · cases hx
    · have := PyProof.Rows.part_short hx
      omega
  · unfold wordsOf
    split
    · decide
    · have := PyProof.Rows.split_le (Txt.join " " xs) " "
      omega
theorem strs_alk {H : Hp} : ∀ xs : List Str, Paired (Alk H 0) (xs.map V.str) (xs.map V.str)
  | [] => .nil
  | x :: r => .cons (.inr ⟨x, rfl, rfl⟩) (strs_alk r)
def oddsL : List Str := ["ac", "br", "hw", "", "a", "arr", "ir", "ax", "rA", "Ar", "a r", "cc"]
theorem odd_at {r : Int} (h0 : 0 ≤ r) (h1 : r < 12) : ∃ x : Str, atI (oddsL.map V.str) r = some (.str x) ∧ x.length ≤ 3 := by
  obtain ⟨n, rfl⟩ : ∃ n : Nat, r = (n : Int) := ⟨r.toNat, by omega⟩
  have hn : n < oddsL.length := by
    have e : oddsL.length = 12 := rfl
    omega
  have key : ∀ x ∈ oddsL, x.length ≤ 3 := by decide +kernel
  exact ⟨oddsL[n]'hn, atI_nat (get_map V.str oddsL hn), key _ (List.getElem_mem hn)⟩
section
variable {P : Program} {w : World} {K : PySem.W.Frag} {mg : Str → Option Value} {base : Heap}
theorem ok_law (T : PTx w K mg) (F : ErrF K mg) (RW : Wr P w K mg base) (RT : Tr P w K mg base) (D : D14 K mg) {c Pt : Addr} (TB : TabB base mg c Pt) (DW : Def K mg "law" s_law ["_law_script"]) (hc : CodeAt K DW.f c) : FnOk P w K mg base CX0 10 DW.f DW.fd ["_law_script"] (spLaw K Pt) := by
  have ml : mg "len" = none := T.free "len" (by decide +kernel)
  have mli : mg "list" = none := T.free "list" (by decide +kernel)
  have mi : mg "int" = none := T.free "int" (by decide +kernel)
  have mr : mg "range" = none := T.free "range" (by decide +kernel)
  have mt : mg "tuple" = none := T.free "tuple" (by decide +kernel)
  have mis : mg "isinstance" = none := T.free "isinstance" (by decide +kernel)
  have ma : mg "any" = none := T.free "any" (by decide +kernel)
  have ms : mg "str" = none := T.free "str" (by decide +kernel)
  have mb : mg "bool" = none := T.free "bool" (by decide +kernel)
  have GBg : FnOk P w K mg base CX0 1 D.DBg.f D.DBg.fd ["_law_script"] (spBegun K) := ok_begun D.DBg ml mli mi
  have GT : FnOk P w K mg base CX0 1 D.DT.f D.DT.fd ["_law_box", "_law_many"] spTake := ok_take D.DT
  have GWk : FnOk P w K mg base CX0 3 D.DWk.f D.DWk.fd psWork spWorkT := ok_workT D.DWk D.DT D.DSt ml mr ma
  have GA : FnOk P w K mg base CX0 2 D.DA.f D.DA.fd psAlike (spAlike 1) := ok_alike D.DA mis mb mi ms mt mli ml mr 1
  have GD : FnOk P w K mg base CX0 1 D.DDu.f D.DDu.fd ["_law_text"] spDue := ok_due D.DDu ml mr
  have GR : FnOk P w K mg base (L2.CX P w) 4 D.DR.f D.DR.fd ["text"] (spReadX RW.C RT.C) := ok_read_work T RW RT D.DR D.DC D.DI
  have nd := sc_law.nd
  refine DW.okC hc sc_law (fun vs H Q E h => ?_) (fun A outer s H vs Q E hr h => ?_)
  · obtain ⟨a, ns, rfl, _⟩ := h
    rfl
  obtain ⟨a, ns, rfl, hS, hlen, hP, q⟩ := h
  have r1 : Room 1 _ := hr.mono (by decide)
  have r2 : Room 2 _ := hr.mono (by decide)
  have r3 : Room 3 _ := hr.mono (by decide)
  have r6 : Room 6 _ := hr.mono (by decide)
  refine ⟨_, pss_cons (ps_set (i := 1) nd rfl (Or.inl rfl) (pcall D.DBg GBg r1 (pa_cons (pv 0) pa_nil)))
    (pss_cons (ps_for PassesOwn.never rfl (pi_range1 rfl mr (pa_cons pe_int pa_nil)) (pg_name (i := 2) nd rfl (Or.inl rfl))
      (pss_cons (ps_set (i := 3) nd rfl (Or.inl rfl) (pcall D.DWk GWk r3 (pa_cons (pv 1) (pa_cons pe_str (pa_cons pe_int pa_nil)))))
      (pss_cons (ps_for PassesOwn.never rfl (pi_range1 rfl mr (pa_cons (pcall D.DT GT r1 (pa_cons (pv 1) (pa_cons pe_int pa_nil))) pa_nil)) (pg_name (i := 4) nd rfl (Or.inl rfl))
        (pss_cons (ps_par (i := 5) (j := 6) (by rfl) nd rfl rfl (by decide) rfl rfl (pa_cons (pcall D.DT GT r1 (pa_cons (pv 1) (pa_cons (pe_op op_add (pe_callB call_len_seq rfl ml PySem.boot_len (pa_cons (pv 3) pa_nil)) pe_int) pa_nil))) (pa_cons (pcall D.DT GT r1 (pa_cons (pv 1) (pa_cons pe_int pa_nil))) pa_nil)) (by rfl))
        (pss_cons (ps_set (i := 7) nd rfl (Or.inl rfl) (pe_ix ix_list (pe_lst (pa_cons pe_str (pa_cons pe_str (pa_cons pe_str (pa_cons pe_str (pa_cons pe_str (pa_cons pe_str (pa_cons pe_str (pa_cons pe_str (pa_cons pe_str (pa_cons pe_str (pa_cons pe_str (pa_cons pe_str pa_nil))))))))))))) (pcall D.DT GT r1 (pa_cons (pv 1) (pa_cons pe_int pa_nil))) (fun _ _ => rfl)))
        (pss_one (ps_if (pt_cmpR op_lt (pv 6) pe_int (nomark _))
          (pss_one (ps_set (i := 3) nd rfl (Or.inl rfl) (pe_op op_cat (pe_op op_cat (pe_slice sl_list (pv 3) po_none (po_some (pv 5))) (pe_lst (pa_cons (pv 7) pa_nil))) (pe_slice sl_list (pv 3) (po_some (pe_op op_add (pv 5) (pe_op op_fdiv (pv 6) pe_int))) po_none))))
          (pss_one (ps_set (i := 3) nd rfl (Or.inl rfl) (pe_ix ix_list (pe_lst (pa_cons (pe_op op_cat (pe_slice sl_list (pv 3) po_none (po_some (pv 5))) (pe_slice sl_list (pv 3) (po_some (pe_op op_add (pv 5) pe_int)) po_none)) (pa_cons (pe_op op_cat (pv 3) (pe_slice sl_list (pv 3) po_none (po_some (pv 5)))) pa_nil))) (pe_op op_sub (pv 6) pe_int) (fun _ _ => rfl)))))))))
      (pss_cons (ps_set (i := 8) nd rfl (Or.inr rfl) (pe_join pe_str (pv 3)))
      (pss_one (ps_for PassesOwn.never rfl (pi_range1 rfl mr (pa_cons pe_int pa_nil)) (pg_name (i := 9) nd rfl (Or.inl rfl))
        (pss_one (ps_if (pt_not (pt_val (pcall D.DA GA r2 (pa_cons
            (pe_told (T := [(Pt, "law.<locals>.<lambda>")]) (k := 4) (c := c) (P := Pt) (t := fun E => tCall (spReadX RW.C RT.C) [] E (tCons (tVar 8) tNil)) F D.DTo rfl TB rfl List.mem_cons_self (fun p hp _ => by rw [List.mem_singleton.mp hp]; rfl) r6 (show LamS (defScope s_law) _ from lamS_by (by decide +kernel)) rfl (fun _ _ _ _ _ => rfl)
              (fun A outer s H E f c' hr2 => pcall_lam D.DR GR hr2 (pa_cons (pv_lam (i := 8) rfl rfl (by decide) (by decide)) pa_nil) rfl (by decide) rfl rfl))
            (pa_cons (pcall D.DDu GD r1 (pa_cons (pv 8) pa_nil)) pa_nil))))) (pss_one (ps_ret pe_bl)) pss_nil))))))))
    (pss_one (ps_ret pe_bl))), ?_⟩
  refine ⟨_, rfl, a, ns, rfl, hS, hlen, fun b l H1 hb hl B1 s1 => ?_⟩
  dsimp only [gName]
  have T1 : Tabs [(Pt, "law.<locals>.<lambda>")] H1 := fun p hp => by
    obtain rfl := List.mem_singleton.mp hp
    exact TabS.nil (s1 _ _ hP)
  refine ⟨6, rfl, by decide, by decide, ?_⟩
  refine for_range (lo := 0) (n := 6) (fun i σ H' => ∃ v2 v3 v4 v5 v6 v7 v8 v9 : Option V, σ = [some (.ref a), some (.ref b), v2, v3, v4, v5, v6, v7, v8, v9] ∧ Box H' b l ∧ Tabs [(Pt, "law.<locals>.<lambda>")] H')
    ⟨none, none, none, none, none, none, none, none, rfl, B1, T1⟩ ?_ ?_
  · rintro i σ H2 hi ⟨v2, v3, v4, v5, v6, v7, v8, v9, rfl, B2, T2⟩
    dsimp only [gName]
    refine ⟨_, rfl, b, l, rfl, B2, fun f0 ws H3 hf0 ef0 hW B3 k3 => ?_⟩
    dsimp only [gName]
    have nf0 := B2.ne_new hf0
    have T3 := tabs_keep T2 B2 k3
    refine ⟨_, rfl, b, l, 4, rfl, by decide, by decide, B3, fun r H4 c0 c1 B4 k4 => ?_⟩
    have T4 := tabs_keep T3 B3 k4
    have ef4 := k4 _ _ ef0 (by simp [nf0.1, nf0.2])
    refine ⟨r, rfl, by omega, by omega, ?_⟩
    refine for_range (lo := 0) (n := r.toNat) (fun j σ H' => ∃ (xs : List Str) (f : Addr) (v4 v5 v6 v7 : Option V), σ = [some (.ref a), some (.ref b), some (.int (0 + (i : Int))), some (.ref f), v4, v5, v6, v7, v8, v9] ∧ H' f = some (.lst (xs.map V.str)) ∧ f ≠ b ∧ f ≠ l ∧ (∀ x ∈ xs, x.length ≤ 3) ∧ xs.length + 1 ≤ 13 * 2 ^ j ∧ Box H' b l ∧ Tabs [(Pt, "law.<locals>.<lambda>")] H')
      ⟨ws.map stepS, f0, v4, v5, v6, v7, rfl, ?_, nf0.1, nf0.2, ?_, ?_, B4, T4⟩ ?_ ?_
    · rw [ef4]
      unfold stepsV
      rw [List.map_map]
      rfl
    · intro x hx
      obtain ⟨p, hp, rfl⟩ := List.mem_map.mp hx
      rw [(hW.1.all p hp).len]
      decide
    · rw [List.length_map]
      have := hW.2
      omega
    · rintro j σ H5 hj ⟨xs, f, v4, v5, v6, v7, rfl, ef, nfb, nfl, hx, hl5, B5, T5⟩
      dsimp only [gName]
      have lxs : (xs.map V.str).length = xs.length := List.length_map _
      have nfi : f ∉ [b, l] := by simp [nfb, nfl]
      have hp2 : 13 * 2 ^ j ≤ 104 := by
        have : j ≤ 2 := by omega
        have h3 : j = 0 ∨ j = 1 ∨ j = 2 := by omega
        rcases h3 with rfl | rfl | rfl <;> decide
      refine ⟨_, rfl, _, rfl, f, _, rfl, .inl (SqL.of ef), _, _, rfl, rfl, b, l, _, rfl, by omega, by omega, B5, fun kz H6 k0 k1 B6 kk6 => ?_⟩
      have T6 := tabs_keep T5 B5 kk6
      have ef6 := kk6 _ _ ef nfi
      refine ⟨_, rfl, b, l, 5, rfl, by decide, by decide, B6, fun way H7 w0 w1 B7 kk7 => ?_⟩
      have T7 := tabs_keep T6 B6 kk7
      have ef7 := kk7 _ _ ef6 nfi
      refine ⟨_, _, rfl, ?_⟩
      dsimp only [gName]
      refine ⟨(by show 12 ≤ sizeLine; decide), fun To hTo => ?_⟩
      have B8 := B7.new (o := .lst (oddsL.map V.str)) hTo
      have T8 : Tabs [(Pt, "law.<locals>.<lambda>")] (upd H7 To (.lst (oddsL.map V.str))) := T7.ext (Same.new hTo)
      have ef8 := Same.new (o := .lst (oddsL.map V.str)) hTo _ _ ef7
      refine ⟨_, rfl, b, l, 12, rfl, by decide, by decide, B8, fun r3 H9 d0 d1 B9 kk9 => ?_⟩
      have T9 := tabs_keep T8 B8 kk9
      have ef9 := kk9 _ _ ef8 nfi
      have eTo := kk9 _ _ (show upd H7 To (.lst (oddsL.map V.str)) To = _ from upd_same) (B7.nin hTo)
      obtain ⟨odd, eodd, hodd⟩ := odd_at d0 d1
      refine ⟨To, _, r3, .str odd, rfl, rfl, SqL.of eTo, eodd, ?_⟩
      dsimp only [gName]
      obtain ⟨k, rfl⟩ : ∃ k : Nat, kz = (k : Int) := ⟨kz.toNat, by omega⟩
      have hk : k ≤ xs.length := by omega
      have toB : ∀ {H H' : Hp}, Box H b l → Same H H' → Box H' b l := fun B k => B.keep (Same.keep (S := []) k) (by simp) (by simp)
      have fin : ∀ (ys : List Str) (p : Addr) (Hx : Hp) (u4 u5 u6 u7 : Option V), Same H9 Hx → H9 p = none → Hx p = some (.lst (ys.map V.str)) → (∀ x ∈ ys, x.length ≤ 3) → ys.length ≤ 2 * xs.length + 1 →
          ∃ (xs : List Str) (f : Addr) (v4 v5 v6 v7 : Option V), ([some (.ref a), some (.ref b), some (.int (0 + (i : Int))), some (.ref p), u4, u5, u6, u7, v8, v9] : St) = [some (.ref a), some (.ref b), some (.int (0 + (i : Int))), some (.ref f), v4, v5, v6, v7, v8, v9] ∧ Hx f = some (.lst (xs.map V.str)) ∧ f ≠ b ∧ f ≠ l ∧ (∀ x ∈ xs, x.length ≤ 3) ∧ xs.length + 1 ≤ 13 * 2 ^ (j + 1) ∧ Box Hx b l ∧ Tabs [(Pt, "law.<locals>.<lambda>")] Hx := fun ys p Hx u4 u5 u6 u7 sx hp ep hy hl => by
        have np := B9.ne_new hp
        refine ⟨ys, p, u4, u5, u6, u7, rfl, ep, np.1, np.2, hy, ?_, toB B9 sx, T9.ext sx⟩
        rw [Nat.pow_succ]
        omega
      have htake : ∀ x ∈ xs.take k, x.length ≤ 3 := fun x h => hx x (List.mem_of_mem_take h)
      have hdrop : ∀ m : Nat, ∀ x ∈ xs.drop m, x.length ≤ 3 := fun m x h => hx x (List.mem_of_mem_drop h)
      have etk : (xs.map V.str).take k = (xs.take k).map V.str := List.map_take.symm
      have edr : ∀ m : Nat, (xs.map V.str).drop m = (xs.drop m).map V.str := fun m => List.map_drop.symm
      have ltk : (xs.take k).length ≤ xs.length := by rw [List.length_take]; omega
      have ldr : ∀ m : Nat, (xs.drop m).length ≤ xs.length := fun m => by rw [List.length_drop]; omega
      have l100 : xs.length ≤ 103 := by omega
      refine ⟨_, rfl, _, _, rfl, rfl, _, rfl, ?_⟩
      refine ite2 (fun hc3 => ?_) (fun hc3 => ?_)
      · refine ⟨_, rfl, _, rfl, _, rfl, f, _, rfl, SqL.of ef9, fun p1 hp1 => ?_⟩
        rw [cut_to, etk]
        refine ⟨_, rfl, (by show 1 ≤ sizeLine; decide), fun p2 hp2 => ?_⟩
        have sA : Same H9 (upd H9 p1 (.lst ((xs.take k).map V.str))) := Same.new hp1
        have sB := sA.trans (Same.new (o := .lst [.str odd]) hp2)
        refine ⟨p1, p2, _, _, rfl, rfl, Same.new hp2 _ _ upd_same, upd_same, by rw [List.length_map]; exact szN (by show _ + 1 ≤ 1000; omega), fun p3 hp3 => ?_⟩
        have sC := sB.trans (Same.new (o := .lst ((xs.take k).map V.str ++ [.str odd])) hp3)
        have hw : ∃ m : Nat, (k : Int) + way / 2 = (m : Int) := ⟨k + (way / 2).toNat, by omega⟩
        obtain ⟨m, em⟩ := hw
        refine ⟨_, rfl, _, rfl, _, rfl, _, _, rfl, rfl, ⟨by decide, by decide⟩, _, _, rfl, rfl, _, rfl, f, _, rfl, SqL.of (sC _ _ ef9), fun p4 hp4 => ?_⟩
        rw [em, cut_from, edr]
        have sD := sC.trans (Same.new (o := .lst ((xs.drop m).map V.str)) hp4)
        refine ⟨p3, p4, _, _, rfl, rfl, Same.new hp4 _ _ upd_same, upd_same, ?_, fun p5 hp5 => ?_⟩
        · rw [List.length_append, List.length_map, List.length_map]
          have := ldr m
          exact szN (by show _ + 1 + _ ≤ 1000; omega)
        have sE := sD.trans (Same.new (o := .lst ((xs.take k).map V.str ++ [.str odd] ++ (xs.drop m).map V.str)) hp5)
        refine fin (xs.take k ++ [odd] ++ xs.drop m) p5 _ _ _ _ _ sE (sD.free hp5) ?_ ?_ ?_
        · rw [upd_same, List.map_append, List.map_append]
          rfl
        · intro x h
          rcases List.mem_append.mp h with h | h
          · rcases List.mem_append.mp h with h | h
            · exact htake x h
            · rw [List.mem_singleton.mp h]
              exact hodd
          · exact hdrop m x h
        · rw [List.length_append, List.length_append]
          have := ldr m
          show _ + 1 + _ ≤ _
          omega
      · have hw3 : 3 ≤ way := by
          by_cases z : way < 3
          · exact absurd (decide_eq_true z) hc3
          · omega
        refine ⟨_, rfl, _, rfl, _, rfl, f, _, rfl, SqL.of ef9, fun p1 hp1 => ?_⟩
        rw [cut_to, etk]
        have sA : Same H9 (upd H9 p1 (.lst ((xs.take k).map V.str))) := Same.new hp1
        refine ⟨_, rfl, _, rfl, _, _, rfl, rfl, _, rfl, f, _, rfl, SqL.of (sA _ _ ef9), fun p2 hp2 => ?_⟩
        have em : (k : Int) + 1 = ((k + 1 : Nat) : Int) := by omega
        rw [em, cut_from, edr]
        have sB := sA.trans (Same.new (o := .lst ((xs.drop (k + 1)).map V.str)) hp2)
        refine ⟨p1, p2, _, _, rfl, rfl, Same.new hp2 _ _ upd_same, upd_same, ?_, fun p3 hp3 => ?_⟩
        · rw [List.length_map, List.length_map]
          have := ldr (k + 1)
          exact szN (by omega)
        have sC := sB.trans (Same.new (o := .lst ((xs.take k).map V.str ++ (xs.drop (k + 1)).map V.str)) hp3)
        refine ⟨_, rfl, _, rfl, _, rfl, _, rfl, f, _, rfl, SqL.of (sC _ _ ef9), fun p4 hp4 => ?_⟩
        rw [cut_to, etk]
        have sD := sC.trans (Same.new (o := .lst ((xs.take k).map V.str)) hp4)
        refine ⟨f, p4, _, _, rfl, rfl, sD _ _ ef9, upd_same, ?_, fun p5 hp5 => ?_⟩
        · rw [List.length_map, List.length_map]
          exact szN (by omega)
        have sE := sD.trans (Same.new (o := .lst (xs.map V.str ++ (xs.take k).map V.str)) hp5)
        have h3 : H9 p3 = none := sB.free hp3
        have h5 : H9 p5 = none := sD.free hp5
        have e3 := Same.new (o := .lst (xs.map V.str ++ (xs.take k).map V.str)) hp5 _ _ (Same.new (o := .lst ((xs.take k).map V.str)) hp4 _ _ (show upd (upd (upd H9 p1 (.lst ((xs.take k).map V.str))) p2 (.lst ((xs.drop (k + 1)).map V.str))) p3 (.lst ((xs.take k).map V.str ++ (xs.drop (k + 1)).map V.str)) p3 = _ from upd_same))
        refine ⟨(by show 2 ≤ sizeLine; decide), fun p6 hp6 => ?_⟩
        have sF := sE.trans (Same.new (o := .lst [.ref p3, .ref p5]) hp6)
        have e3' := Same.new (o := .lst [.ref p3, .ref p5]) hp6 _ _ e3
        refine ⟨_, rfl, _, _, rfl, rfl, ?_⟩
        have hw4 : way = 3 ∨ way = 4 := by omega
        rcases hw4 with rfl | rfl
        · refine ⟨p6, _, 0, _, rfl, rfl, SqL.of upd_same, at0, ?_⟩
          refine fin (xs.take k ++ xs.drop (k + 1)) p3 _ _ _ _ _ sF h3 ?_ ?_ ?_
          · rw [e3', List.map_append]
          · intro x h
            rcases List.mem_append.mp h with h | h
            · exact htake x h
            · exact hdrop _ x h
          · rw [List.length_append]
            have := ldr (k + 1)
            omega
        · refine ⟨p6, _, 1, _, rfl, rfl, SqL.of upd_same, at1, ?_⟩
          refine fin (xs ++ xs.take k) p5 _ _ _ _ _ sF h5 ?_ ?_ ?_
          · rw [Same.new (o := .lst [.ref p3, .ref p5]) hp6 _ _ upd_same, List.map_append]
          · intro x h
            rcases List.mem_append.mp h with h | h
            · exact hx x h
            · exact htake x h
          · rw [List.length_append]
            omega
    · rintro σ H5 ⟨xs, f, v4, v5, v6, v7, rfl, ef, nfb, nfl, hx, hl5, B5, T5⟩
      have l104 : xs.length ≤ 103 := by
        have h3 : r.toNat = 0 ∨ r.toNat = 1 ∨ r.toNat = 2 ∨ r.toNat = 3 := by omega
        rcases h3 with h | h | h | h <;> rw [h] at hl5 <;> omega
      dsimp only [gName]
      have hsum : (xs.map (·.length)).sum ≤ 309 := Nat.le_trans (sum_le3 hx) (by omega)
      refine ⟨⟨_, rfl⟩, _, rfl, " ", f, xs, rfl, rfl, .inl (SqL.of ef), by show _ + _ * 1 ≤ _; omega, ?_⟩
      obtain ⟨ht, hpc, hct⟩ := text_of hsum l104
      generalize Txt.join " " xs = t at ht hpc hct ⊢
      dsimp only [gName]
      refine ⟨2, rfl, by decide, by decide, ?_⟩
      refine for_range (lo := 0) (n := 2) (fun j σ H' => ∃ v9 : Option V, σ = [some (.ref a), some (.ref b), some (.int (0 + (i : Int))), some (.ref f), v4, v5, v6, v7, some (.str t), v9] ∧ Box H' b l ∧ Tabs [(Pt, "law.<locals>.<lambda>")] H')
        ⟨v9, rfl, B5, T5⟩ ?_ ?_
      · rintro j σ H6 hj ⟨v9, rfl, B6, T6⟩
        dsimp only [gName]
        refine ⟨T6, fun H7 eN T7 => ?_⟩
        have B7 := box_ext B6 eN
        have toB : ∀ {H H' : Hp}, Box H b l → Same H H' → Box H' b l := fun B k => B.keep (Same.keep (S := []) k) (by simp) (by simp)
        have eT : RT.C = F.A 5 := by
          have z := RT.g.symm.trans F.gT
          exact V.ref.inj (by simpa using z)
        have eW : RW.C = F.A 1 := by
          have z := RW.g.symm.trans F.gW
          exact V.ref.inj (by simpa using z)
        have two : ∀ (Hx : Hp) (p1 p2 : Addr) (nm : Str) (z : Int), Hx p1 = some (.tup [.str nm, .int z]) → Hx p2 = some (.tup [.str nm, .int z]) → Alk Hx 1 (.ref p1) (.ref p2) := fun Hx p1 p2 nm z e1 e2 =>
          .inr ⟨p1, p2, _, _, rfl, rfl, .inr ⟨e1, e2⟩, (by show 2 ≤ 1000; decide), .cons (.inr ⟨nm, rfl, rfl⟩) (.cons (.inl ⟨z, rfl, rfl⟩) .nil)⟩
        refine ⟨_, rfl, t, rfl, ht, hpc, hct, fun n hn d H8 hd s8 ed => ?_, fun hn => ⟨fun m hm d H8 hd s8 ed => ?_, fun hm f2 H8 s8 hf2 ef2 => ?_⟩⟩
        · refine ⟨5, [.int ((n : Nat) : Int)], by decide, by rw [eT], ⟨d, _, _, rfl, ed, rfl, rfl⟩, fun tt Hb sb htt ett => ?_⟩
          refine ⟨_, rfl, t, rfl, ht, hpc, hct, fun n' hn' a' Hc sc ec => ?_, fun z => absurd (hn.symm.trans z) (by simp)⟩
          obtain rfl : n = n' := Option.some.inj (hn.symm.trans hn')
          have sx := s8.trans (sb.trans sc)
          exact ⟨_, _, rfl, two _ _ _ "BadText" _ (sc _ _ ett) ec, fun H'' s'' => ⟨_, rfl, iteF ⟨_, rfl, toB B7 (sx.trans s''), T7.ext (sx.trans s'')⟩⟩⟩
        · refine ⟨1, [.int ((m : Nat) : Int)], by decide, by rw [eW], ⟨d, _, _, rfl, ed, rfl, rfl⟩, fun tt Hb sb htt ett => ?_⟩
          refine ⟨_, rfl, t, rfl, ht, hpc, hct, fun n' hn' => absurd (hn.symm.trans hn') (by simp), fun _ => ⟨fun m' hm' a' Hc sc ec => ?_, fun z => absurd (hm.symm.trans z) (by simp)⟩⟩
          obtain rfl : m = m' := Option.some.inj (hm.symm.trans hm')
          have sx := s8.trans (sb.trans sc)
          exact ⟨_, _, rfl, two _ _ _ "BadWork" _ (sc _ _ ett) ec, fun H'' s'' => ⟨_, rfl, iteF ⟨_, rfl, toB B7 (sx.trans s''), T7.ext (sx.trans s'')⟩⟩⟩
        · refine ⟨_, rfl, t, rfl, ht, hpc, hct, fun n' hn' => absurd (hn.symm.trans hn') (by simp), fun _ => ⟨fun m' hm' => absurd (hm.symm.trans hm') (by simp), fun _ f3 Hc sc ec => ?_⟩⟩
          have sx := s8.trans sc
          exact ⟨_, _, rfl, .inr ⟨f2, f3, _, _, rfl, rfl, .inl ⟨sc _ _ ef2, ec⟩, by rw [List.length_map]; omega, strs_alk _⟩, fun H'' s'' => ⟨_, rfl, iteF ⟨_, rfl, toB B7 (sx.trans s''), T7.ext (sx.trans s'')⟩⟩⟩
      · rintro σ H6 ⟨v9, rfl, B6, T6⟩
        exact ⟨_, _, _, _, _, _, _, _, rfl, B6, T6⟩
  · rintro σ H2 ⟨v2, v3, v4, v5, v6, v7, v8, v9, rfl, B2, T2⟩
    exact q H2
end
end MS
end
section
set_option maxRecDepth 100000
set_option maxHeartbeats 0
namespace K3H
open PySem PySem.W PySem.Calls PyProof.Rows
abbrev R : OpenRow := OpenLaw.row PySem.Challenge.rw_markscript_k14_works_texts_refused
abbrev qv : Program := view R.prog [26]
def names0 : List PySem.Str := ["MarkError", "BadPaper", "BadWork", "BadStep", "BadCount", "NoWork", "BadText", "WORDS", "RIGHT", "WRONG", "CARRIED", "MOST_STEPS", "is_step", "check_work", "read_work", "_law_begun", "_law_take", "_law_alike", "_law_told", "_law_step", "_law_work", "_law_due"]
def names : List PySem.Str := names0
/-- a def of the top -/
def dG (x : PySem.Str) (st : Stmt) : He.DefD := ⟨(x, none), x, x, L2.defArgs st, L2.defBody st, L2.defScope st, [], []⟩
def fn0 : List He.DefD := [dG "is_step" MS.s_is_step, dG "check_work" MS.s_check_work, dG "read_work" MS.s_read_work, dG "_law_begun" MS.s_L_begun, dG "_law_take" MS.s_L_take, dG "_law_alike" MS.s_L_alike, dG "_law_told" MS.s_L_told, dG "_law_step" MS.s_L_step, dG "_law_work" MS.s_L_work, dG "_law_due" MS.s_L_due, dG "law" MS.s_law]
def fn : List He.DefD := fn0
def glo0 : List PySem.Str := ["MarkError", "BadPaper", "BadWork", "BadStep", "BadCount", "NoWork", "BadText", "WORDS", "is_step", "check_work", "read_work", "_law_begun", "_law_take", "_law_alike", "_law_told", "_law_step", "_law_work", "_law_due", "law"]
def gloL : List PySem.Str := glo0
def freeL : List PySem.Str := ["len", "list", "range", "tuple", "int", "isinstance", "any", "enumerate", "str", "bool", "super", "ValueError"]
def errL : List PySem.Str := ["BadPaper", "BadWork", "BadStep", "BadCount", "NoWork", "BadText"]
def restF : List He.Fa := [.str "RIGHT" "r", .str "WRONG" "w", .str "CARRIED" "c", .int "MOST_STEPS" 12, .noat "BadPaper" "scheme", .noat "BadPaper" "place", .noat "BadWork" "number", .noat "BadText" "place"]
def fa : List He.Fa := gloL.map .glo ++ (freeL.map .free ++ (restF ++ errL.map fun x => .exm x "MarkError" true))
def wordsD : List He.Dv := [.str "a", .str "b", .str "c", .str "d", .str "e", .str "f", .str "g", .str "h"]
/-- what is asked of an error caught -/
def excCB (K : Frag) (D : Addr) : Bool := He.eqO (findIn K (.ref D) "__getattribute__") (some (some (.builtin "BaseException.__getattribute__"))) && (He.eqO (findIn K (.ref D) "__getattr__") (some none) && (decide (subIn K (.ref D) (.type "BaseException") = some true) && (hasDictIn K D &&
  (He.eqO (findIn K (.ref D) "__class__") (some (some (.builtin "object.__class__"))) && (He.eqO (specialIn K (.builtin "object.__class__") "__get__") (some (some (.builtin "getset_descriptor.__get__"))) && (decide (takesIn K (.builtin "object.__class__") = some true) && decide (mroIn K D (.type "object") = some true)))))))
def kitB (K : Frag) (i : Nat) : Bool := (List.range 6).all fun j => decide (kitOne K (.ref (He.ga K (errL.getD i ""))) (.ref (He.ga K (errL.getD j ""))) = some (decide (i = j)))
def errB (K : Frag) (i : Nat) : Bool := excCB K (He.ga K (errL.getD i "")) && (kitB K i && (decide (kitOne K (.ref (He.ga K (errL.getD i ""))) (.type "ValueError") = some true) && L2.xfB K (He.ga K (errL.getD i ""))))
def noDfl (K : Frag) (f : Addr) : Bool := match K.lookup f with
  | some ⟨_, _, .func fd, _⟩ => decide (fd.defaults = .none)
  | _ => false
def file : PySem.Str := R.prog.main.file
def initB (K : Frag) (x qn : PySem.Str) : Bool := HeY.supB K file x qn && noDfl K (He.ma K (He.ga K x) "__init__")
def ex (K : Frag) : Bool := He.tupB K "WORDS" wordsD && ((List.range 6).all (errB K) && (initB K "BadWork" "BadWork.__init__" && initB K "BadText" "BadText.__init__"))
def ts : List He.Tab := []
def tf : List He.Defn := [("law", none)]
def xs : List HeY.InD := [MS.dWork, MS.dText]
abbrev hk : Hook := HeY.hookY 5 fa fn ts tf xs ex
def ob (s : SharedT) : HeY.AlY := HeY.obsY 5 fa fn ts tf xs ex (HandSHeadRun.getT s)
theorem ob_eq (s : SharedT) : ob s = hk.obs s.abs := HeY.obsY_eq (HandSHeadRun.getT_eq s)
theorem run (w : World) : HandSHeadRun.RunEq R qv hk ob 4000 names w :=
  byRow2 "special-get-raises" (P := fun w => HandSHeadRun.RunEq R qv hk ob 4000 names w) (fun w os => by kernel_rfl) (fun w os => by kernel_rfl) w
end K3H
end
section
set_option maxRecDepth 100000
set_option maxHeartbeats 4000000
namespace MS
open PySem L2
/-! ### the head: what the top has left -/
section
variable {w : World} {K : PySem.W.Frag} {h : Heap} {mg : Str → Option Value}
theorem fa_glo (c : He.SaysD K3H.fa K3H.fn K) {x : Str} (hx : x ∈ K3H.gloL) : (He.Fa.glo x).ok K = true := c.facts (List.mem_append_left _ (List.mem_map_of_mem hx))
theorem fa_free (c : He.SaysD K3H.fa K3H.fn K) {x : Str} (hx : x ∈ K3H.freeL) : (He.Fa.free x).ok K = true := c.facts (List.mem_append_right _ (List.mem_append_left _ (List.mem_map_of_mem hx)))
theorem fa_rest (c : He.SaysD K3H.fa K3H.fn K) (i : Nat) {f : He.Fa} (hi : K3H.restF[i]? = some f := by rfl) : f.ok K = true := c.facts (List.mem_append_right _ (List.mem_append_right _ (List.mem_append_left _ (List.mem_of_getElem? hi))))
theorem fa_err (c : He.SaysD K3H.fa K3H.fn K) {x : Str} (hx : x ∈ K3H.errL) : (He.Fa.exm x "MarkError" true).ok K = true := c.facts (List.mem_append_right _ (List.mem_append_right _ (List.mem_append_right _ (List.mem_map_of_mem (f := fun x => He.Fa.exm x "MarkError" true) hx))))
theorem fn_0 (c : He.SaysD K3H.fa K3H.fn K) (i : Nat) {d : He.DefD} (hi : K3H.fn0[i]? = some d := by rfl) : ∃ fd, FunD K d.name d.qual d.params d.body d.scope (d.dvs K) (d.kws K) (He.fAd K d.at_) fd := c.defs (List.mem_of_getElem? hi)
noncomputable def mkDef (X : K.In h) (G : h.Ns mainGlobals mg) (x : Str) (st : Stmt) (ps : List Str) (hg : (He.Fa.glo x).ok K = true) (hd : ∃ fd, FnP K x st (He.ga K x) fd) (hb : ∀ fd, FnP K x st (He.ga K x) fd → Binds K fd ps []) : Def K mg x st ps :=
  ⟨He.ga K x, hd.choose, hd.choose_spec, He.glo_ok X G hg, hb _ hd.choose_spec⟩
theorem excCB_ok {D : Addr} (h : K3H.excCB K D = true) : ExcC K D := by
  obtain ⟨h1, h⟩ := He.ba h
  obtain ⟨h2, h⟩ := He.ba h
  obtain ⟨h3, h⟩ := He.ba h
  obtain ⟨h4, h⟩ := He.ba h
  obtain ⟨h5, h⟩ := He.ba h
  obtain ⟨h6, h⟩ := He.ba h
  obtain ⟨h7, h8⟩ := He.ba h
  exact ⟨He.eqO_ok h1, He.eqO_ok h2, of_decide_eq_true h3, h4, He.eqO_ok h5, He.eqO_ok h6, of_decide_eq_true h7, of_decide_eq_true h8⟩
theorem ptx (X : K.In h) (G : h.Ns mainGlobals mg) (d : He.SaysD K3H.fa K3H.fn K) (e : K3H.ex K = true) : PTx w K mg := by
  obtain ⟨e1, e⟩ := He.ba e
  exact {
    words := ⟨_, He.glo_ok X G (fa_glo d (x := "WORDS") (by decide +kernel)), fun H => He.tupB_ok e1 H⟩
    right := He.str_ok X G (fa_rest d 0)
    wrong := He.str_ok X G (fa_rest d 1)
    carried := He.str_ok X G (fa_rest d 2)
    mostSteps := He.int_ok X G (fa_rest d 3)
    free := fun x hx => He.free_ok X G (fa_free d hx) }
noncomputable def errF (X : K.In h) (G : h.Ns mainGlobals mg) (d : He.SaysD K3H.fa K3H.fn K) (e : K3H.ex K = true) : ErrF K mg := 
  have e1 := (He.ba (He.ba e).2).1
  have er : ∀ i, i < 6 → K3H.errB K i = true := fun i hi => List.all_eq_true.mp e1 i (List.mem_range.mpr hi)
  have parts : ∀ i, i < 6 → K3H.excCB K (He.ga K (errNm i)) = true ∧ K3H.kitB K i = true ∧ PySem.W.kitOne K (.ref (He.ga K (errNm i))) (.type "ValueError") = some true ∧ xfB K (He.ga K (errNm i)) = true := fun i hi => by
    obtain ⟨h1, h⟩ := He.ba (er i hi)
    obtain ⟨h2, h⟩ := He.ba h
    obtain ⟨h3, h4⟩ := He.ba h
    exact ⟨h1, h2, of_decide_eq_true h3, h4⟩
  { A := fun i => He.ga K (errNm i)
    CM := He.ga K "MarkError"
    gP := He.glo_ok X G (fa_glo d (x := "BadPaper") (by decide +kernel))
    gW := He.glo_ok X G (fa_glo d (x := "BadWork") (by decide +kernel))
    gS := He.glo_ok X G (fa_glo d (x := "BadStep") (by decide +kernel))
    gC := He.glo_ok X G (fa_glo d (x := "BadCount") (by decide +kernel))
    gN := He.glo_ok X G (fa_glo d (x := "NoWork") (by decide +kernel))
    gT := He.glo_ok X G (fa_glo d (x := "BadText") (by decide +kernel))
    gM := He.glo_ok X G (fa_glo d (x := "MarkError") (by decide +kernel))
    ve := He.free_ok X G (fa_free d (x := "ValueError") (by decide +kernel))
    isi := He.free_ok X G (fa_free d (x := "isinstance") (by decide +kernel))
    ex := fun i hi => excCB_ok (parts i hi).1
    kit := fun i j hi hj => of_decide_eq_true (List.all_eq_true.mp (parts i hi).2.1 j (List.mem_range.mpr hj))
    kv := fun i hi => (parts i hi).2.2.1
    exm := fun i hi => by
      have hm : errNm i ∈ K3H.errL := by
        have key : ∀ i, i < 6 → errNm i ∈ K3H.errL := by decide +kernel
        exact key i hi
      exact He.exm_ok (fa_err d hm)
    xf := fun i hi => xfB_ok (parts i hi).2.2.2
    no0 := He.noat_ok (fa_rest d 4)
    no1 := He.noat_ok (fa_rest d 5)
    no2 := He.noat_ok (fa_rest d 6)
    no3 := He.noat_ok (fa_rest d 7) }
theorem init_fd {P : Program} {dd : HeY.InD} (Y : HeY.SupX P K dd) (hn : K3H.noDfl K (He.ma K (He.ga K dd.cls) "__init__") = true) : ∃ (oc : Value) (od : Option Addr) (osl : Array (Option Value)) (kV doc pm : Value) (an : Option Addr) (ct : Value), K.lookup (He.ma K (He.ga K dd.cls) "__init__") = some ⟨oc, od, .func (PySem.W.ksFn "__init__" dd.qual dd.params dd.body dd.scope .none kV doc pm an (.ref (HeY.cdOf K (He.ma K (He.ga K dd.cls) "__init__"))) ct (HeY.ccOf K (He.ma K (He.ga K dd.cls) "__init__"))), osl⟩ := by
  obtain ⟨oc, od, osl, dV, kV, doc, pm, an, ct, lk⟩ := Y.c.fn
  unfold K3H.noDfl at hn
  rw [lk] at hn
  obtain rfl : dV = .none := of_decide_eq_true hn
  exact ⟨oc, od, osl, kV, doc, pm, an, ct, lk⟩
end
end MS
end
section
set_option maxRecDepth 100000
set_option maxHeartbeats 4000000
namespace MS
open PySem L2
section
set_option maxHeartbeats 0
theorem facts {P : Program} {w : World} {K : PySem.W.Frag} {h : Heap} {mg : Str → Option Value} {f : Addr} (hfile : P.main.file = K3H.file) (hsup : (P.main.scope.names.lookup ("super" : Str)).isSome = false) (X : K.In h) (G : h.Ns mainGlobals mg) (hfa : mg ("law" : Str) = some (.ref f)) (c : HeY.SaysY K3H.fa K3H.fn K3H.ts K3H.tf K3H.xs K3H.ex w h K) :
    ∃ fd : FuncData, (∀ (s : Shared) (v : Value), BindsTo s fd ⟨[v], []⟩ [("_law_script", v)]) ∧ ∀ base : Heap, K.In base → base.Ns mainGlobals mg → LamX.TabB base mg (He.cT K ("law", none)).1 (He.cT K ("law", none)).2 → FnOk P w K mg base CX0 10 f fd ["_law_script"] (spLaw K (He.cT K ("law", none)).2) := by
  have d := c.x.t.d
  have T := ptx (w := w) X G d c.x.more
  let F := errF X G d c.x.more
  obtain ⟨e1, e⟩ := He.ba c.x.more
  obtain ⟨e2, e⟩ := He.ba e
  obtain ⟨e3, e4⟩ := He.ba e
  obtain ⟨e3a, e3b⟩ := He.ba e3
  obtain ⟨e4a, e4b⟩ := He.ba e4
  have i0 : HeY.fnY K dWork.cls = dWork.val := by
    have := c.inits
    exact (List.cons.inj this).1
  have i1 : HeY.fnY K dText.cls = dText.val := by
    have := c.inits
    exact (List.cons.inj (List.cons.inj this).2).1
  have YW : HeY.SupX P K dWork := HeY.supB_ok i0 e3a hfile
  have YT : HeY.SupX P K dText := HeY.supB_ok i1 e4a hfile
  have msu : mg "super" = none := T.free "super" (by decide +kernel)
  obtain ⟨oc1, od1, osl1, kV1, doc1, pm1, an1, ct1, lk1⟩ := init_fd YW e3b
  obtain ⟨oc2, od2, osl2, kV2, doc2, pm2, an2, ct2, lk2⟩ := init_fd YT e4b
  let D : D14 K mg := {
    DBg := (mkDef X G "_law_begun" s_L_begun ["_law_script"] (fa_glo d (by decide +kernel)) (fn_0 d 3 (d := K3H.dG "_law_begun" s_L_begun)) fun fd F => F.bindsN fun _ _ _ _ _ _ us hl => match us, hl with | [_], _ => rfl)
    DT := (mkDef X G "_law_take" s_L_take ["_law_box", "_law_many"] (fa_glo d (by decide +kernel)) (fn_0 d 4 (d := K3H.dG "_law_take" s_L_take)) fun fd F => F.bindsN fun _ _ _ _ _ _ us hl => match us, hl with | [_, _], _ => rfl)
    DA := (mkDef X G "_law_alike" s_L_alike ["_law_found", "_law_due_here"] (fa_glo d (by decide +kernel)) (fn_0 d 5 (d := K3H.dG "_law_alike" s_L_alike)) fun fd F => F.bindsN fun _ _ _ _ _ _ us hl => match us, hl with | [_, _], _ => rfl)
    DTo := (mkDef X G "_law_told" s_L_told ["_law_work_here"] (fa_glo d (by decide +kernel)) (fn_0 d 6 (d := K3H.dG "_law_told" s_L_told)) fun fd F => F.bindsN fun _ _ _ _ _ _ us hl => match us, hl with | [_], _ => rfl)
    DSt := (mkDef X G "_law_step" s_L_step ["_law_box", "_law_letters", "_law_was_wrong"] (fa_glo d (by decide +kernel)) (fn_0 d 7 (d := K3H.dG "_law_step" s_L_step)) fun fd F => F.bindsN fun _ _ _ _ _ _ us hl => match us, hl with | [_, _, _], _ => rfl)
    DWk := (mkDef X G "_law_work" s_L_work ["_law_box", "_law_letters", "_law_most"] (fa_glo d (by decide +kernel)) (fn_0 d 8 (d := K3H.dG "_law_work" s_L_work)) fun fd F => F.bindsN fun _ _ _ _ _ _ us hl => match us, hl with | [_, _, _], _ => rfl)
    DDu := (mkDef X G "_law_due" s_L_due ["_law_text"] (fa_glo d (by decide +kernel)) (fn_0 d 9 (d := K3H.dG "_law_due" s_L_due)) fun fd F => F.bindsN fun _ _ _ _ _ _ us hl => match us, hl with | [_], _ => rfl)
    DI := (mkDef X G "is_step" s_is_step ["thing"] (fa_glo d (by decide +kernel)) (fn_0 d 0 (d := K3H.dG "is_step" s_is_step)) fun fd F => F.bindsN fun _ _ _ _ _ _ us hl => match us, hl with | [_], _ => rfl)
    DC := (mkDef X G "check_work" s_check_work ["work"] (fa_glo d (by decide +kernel)) (fn_0 d 1 (d := K3H.dG "check_work" s_check_work)) fun fd F => F.bindsN fun _ _ _ _ _ _ us hl => match us, hl with | [_], _ => rfl)
    DR := (mkDef X G "read_work" s_read_work ["text"] (fa_glo d (by decide +kernel)) (fn_0 d 2 (d := K3H.dG "read_work" s_read_work)) fun fd F => F.bindsN fun _ _ _ _ _ _ us hl => match us, hl with | [_], _ => rfl) }
  let DW : Def K mg "law" s_law ["_law_script"] := (mkDef X G "law" s_law ["_law_script"] (fa_glo d (by decide +kernel)) (fn_0 d 10 (d := K3H.dG "law" s_law)) fun fd F => F.bindsN fun _ _ _ _ _ _ us hl => match us, hl with | [_], _ => rfl)
  have e : f = DW.f := by
    have e := hfa.symm.trans DW.g
    cases e
    rfl
  subst e
  have hc : CodeAt K DW.f (He.cT K ("law", none)).1 := fun oc od fd osl c' lk ec => (He.codeOf_eq (p := ("law", none)) lk ec).symm
  refine ⟨DW.fd, fun s v => FunD.bindsA (ps := ["_law_script"]) DW.F (fun _ _ _ _ _ _ us hl => match us, hl with | [_], _ => rfl) s [v] rfl, fun base _ _ TB => ?_⟩
  let RW : Wr P w K mg base := ⟨He.ga K "BadWork", _, _, YW.c.T, YW.init, YW.ty, init_work YW hsup msu (He.noat_ok (fa_rest d 6)) ⟨oc1, od1, osl1, lk1⟩, .all fun us hl => (match us, hl with | [_, _], _ => rfl), He.glo_ok X G (fa_glo d (x := "BadWork") (by decide +kernel))⟩
  let RT : Tr P w K mg base := ⟨He.ga K "BadText", _, _, YT.c.T, YT.init, YT.ty, init_text YT hsup msu (He.noat_ok (fa_rest d 7)) ⟨oc2, od2, osl2, lk2⟩, .all fun us hl => (match us, hl with | [_, _], _ => rfl), He.glo_ok X G (fa_glo d (x := "BadText") (by decide +kernel))⟩
  exact ok_law T F RW RT D TB DW hc
end
end MS
end
set_option Elab.async false
open PySem PySem.W PySem.Calls PyProof.Rows
set_option maxRecDepth 100000 in
set_option maxHeartbeats 0 in
theorem PySem.Challenge.cw_markscript_k14_works_texts_refused_holds : PySem.Challenge.rw_markscript_k14_works_texts_refused.Holds := by
  w_on; o_law
  refine HandSHeadRun.head_any (r := OpenLaw.row PySem.Challenge.rw_markscript_k14_works_texts_refused) (q := view (OpenLaw.row PySem.Challenge.rw_markscript_k14_works_texts_refused).prog [26]) (H := K3H.hk) (ob := K3H.ob) (M := 4000) (loose := K3H.names) (d := HandSHeadRun.topDef (OpenLaw.row PySem.Challenge.rw_markscript_k14_works_texts_refused).prog 26) (kwd := []) K3H.ob_eq
    (by kernel_rfl) (fun s => by kernel_rfl) K3H.run (by kernel_rfl) (by kernel_rfl) (by kernel_rfl) (by rfl) (by first | assumption | decide +kernel) (by decide +kernel) ⟨rfl, rfl, rfl, rfl, rfl, by decide +kernel⟩ ?hw ?hc
  case hw => w_witness2
  case hc =>
    refine LamX.walk_ofTsE (l := PySem.Challenge.rw_markscript_k14_works_texts_refused) (n := 63) (k := 10) (x := "_law_script") (CX := fun _ => L2.CX0) rfl (by decide) (by kernel_rfl) ⟨rfl, by decide, by decide⟩ ?F (fun _ _ _ _ _ z => z)
    intro w mg fa h Y G hmg0
    obtain ⟨K, KX, c⟩ := Y
    have hmg : mg ("law" : PySem.Str) = some (.ref fa) := by
      have e : (HandSHeadRun.topDef (OpenLaw.row PySem.Challenge.rw_markscript_k14_works_texts_refused).prog 26).name = ("law" : PySem.Str) := by kernel_rfl
      rw [← e]
      exact hmg0
    obtain ⟨fd, hb, hF⟩ := MS.facts (P := (PySem.Challenge.rw_markscript_k14_works_texts_refused).prog) (w := w) (by kernel_rfl) (by kernel_rfl) KX G hmg c
    have hm : (("law", none) : He.Defn) ∈ K3H.tf := List.mem_cons_self
    have one : ∀ p ∈ [He.cT K ("law", none)], p = He.cT K ("law", none) := fun p hp => List.mem_singleton.mp hp
    exact ⟨K, KX, fd, [He.cT K ("law", none)], MS.spLaw K (He.cT K ("law", none)).2, fun p hp => by rw [one p hp]; exact c.x.empty _ hm, fun p hp => by rw [one p hp]; exact c.x.out _ hm, fun p hp => by rw [one p hp]; exact PySem.W.codeHd_of_K KX (c.x.hd _ hm), hb,
      fun H a ns hl _ hT hS => ⟨a, ns, rfl, hS, hl, hT _ List.mem_cons_self, fun _ => rfl⟩, fun base KB GB hTB => hF base KB GB (hTB _ List.mem_cons_self)⟩
#print axioms PySem.Challenge.cw_markscript_k14_works_texts_refused_holds
