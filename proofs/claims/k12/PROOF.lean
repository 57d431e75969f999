import PyProof.Rows.All
import Wide.All
import OpenK.AllK
import Wide.FinOn
import KE.KStateDown
import KE.DataMinKey
import HandS.ForMost
import HandS.Exc
import HandS.TryOnly
import HandS.ExcOwn
import HandS.WordsExc
import HandS.Defaults
import HandS.Flow
import HandS.Style
import HandS.TupAny
import HandS.Zip
import HandS.IsInst
import HandS.RevRange
import HandS.SetKeys
import HandS.WrittenGet
import HandS.Strs
import HandS.SortKw
import HandS.Walk
import HandS.Conv
import HandS.Head0
import HandS.Head1
import HandS.Head2
import HandS.HeadEnd
import HandS.HeadHook1
import HandS.HeadHook2
import HandS.HeadHook3
import HandS.HeadHook4
import KE.GoesEnum
import Lean
import HandS.Deep
import KE.KDictZip
import KE.KItemsList
import KE.KTurns
import HandS.Base
import HandS.Call
import HandS.List
import HandS.Iter
import HandS.Dict
import HandS.ListItems
import KE.GoesEnumKw
import HandS.RaiseMore
import HandS.StrMore
import PySem.Challenge.RW_markscript_k12_papers_and_works_written
set_option Elab.async false
set_option linter.all false
set_option maxRecDepth 100000
section
set_option maxRecDepth 100000
set_option maxHeartbeats 4000000
namespace MS
open PySem L2
def topS (i : Nat) : Stmt := PySem.Challenge.pw_markscript_k12_papers_and_works_written.main.body.getD i (.Pass ⟨0, 0, 0, 0⟩)
abbrev s_is_step : Stmt := topS 11
/-- slots: 0 thing -/
theorem sc_is_step : FnScope ["thing"] ["thing"] (defScope s_is_step) := ⟨rfl, rfl, rfl, by decide +kernel, rfl, by decide +kernel, by decide +kernel⟩
abbrev s_check_work : Stmt := topS 12
/-- slots: 0 work, 1 went_wrong, 2 number, 3 step -/
theorem sc_check_work : FnScope ["work", "went_wrong", "number", "step"] ["work"] (defScope s_check_work) := ⟨rfl, rfl, rfl, by decide +kernel, rfl, by decide +kernel, by decide +kernel⟩
abbrev s_is_number : Stmt := topS 17
/-- slots: 0 thing -/
theorem sc_is_number : FnScope ["thing"] ["thing"] (defScope s_is_number) := ⟨rfl, rfl, rfl, by decide +kernel, rfl, by decide +kernel, by decide +kernel⟩
abbrev s_fits : Stmt := topS 18
/-- slots: 0 part, 1 kind, 2 number, 3 many, 4 least, 5 most -/
theorem sc_fits : FnScope ["part", "kind", "number", "many", "least", "most"] ["part", "kind", "number", "many"] (defScope s_fits) := ⟨rfl, rfl, rfl, by decide +kernel, rfl, by decide +kernel, by decide +kernel⟩
abbrev s_can_be : Stmt := topS 19
/-- slots: 0 thing, 1 number, 2 many, 3 shape, 4 part, 5 kind -/
theorem sc_can_be : FnScope ["thing", "number", "many", "shape", "part", "kind"] ["thing", "number", "many"] (defScope s_can_be) := ⟨rfl, rfl, rfl, by decide +kernel, rfl, by decide +kernel, by decide +kernel⟩
abbrev s_within : Stmt := topS 20
/-- slots: 0 scheme, 1 last -/
theorem sc_within : FnScope ["scheme", "last"] ["scheme"] (defScope s_within) := ⟨rfl, rfl, rfl, by decide +kernel, rfl, by decide +kernel, by decide +kernel⟩
abbrev s_placed : Stmt := topS 29
/-- slots: 0 schemes, 1 place, 2 at, 3 scheme -/
theorem sc_placed : FnScope ["schemes", "place", "at", "scheme"] ["schemes", "place"] (defScope s_placed) := ⟨rfl, rfl, rfl, by decide +kernel, rfl, by decide +kernel, by decide +kernel⟩
abbrev s_schemes_in : Stmt := topS 30
/-- slots: 0 paper, 1 number, 2 found, 3 waiting, 4 place, 5 scheme -/
theorem sc_schemes_in : FnScope ["paper", "number", "found", "waiting", "place", "scheme"] ["paper", "number"] (defScope s_schemes_in) := ⟨rfl, rfl, rfl, by decide +kernel, rfl, by decide +kernel, by decide +kernel⟩
abbrev s_many_of : Stmt := topS 31
/-- slots: 0 names, 1 parts, 2 many, 3 number, 4 scheme -/
theorem sc_many_of : FnScope ["names", "parts", "many", "number", "scheme"] ["names", "parts"] (defScope s_many_of) := ⟨rfl, rfl, rfl, by decide +kernel, rfl, by decide +kernel, by decide +kernel⟩
abbrev s_check_paper : Stmt := topS 32
/-- slots: 0 paper, 1 parts, 2 number -/
theorem sc_check_paper : FnScope ["paper", "parts", "number"] ["paper"] (defScope s_check_paper) := ⟨rfl, rfl, rfl, by decide +kernel, rfl, by decide +kernel, by decide +kernel⟩
abbrev s_L_begun : Stmt := topS 47
/-- slots: 0 _law_script, 1 _law_stirred, 2 _law_cell -/
theorem sc_L_begun : FnScope ["_law_script", "_law_stirred", "_law_cell"] ["_law_script"] (defScope s_L_begun) := ⟨rfl, rfl, rfl, by decide +kernel, rfl, by decide +kernel, by decide +kernel⟩
abbrev s_L_take : Stmt := topS 48
/-- slots: 0 _law_box, 1 _law_many, 2 _law_number -/
theorem sc_L_take : FnScope ["_law_box", "_law_many", "_law_number"] ["_law_box", "_law_many"] (defScope s_L_take) := ⟨rfl, rfl, rfl, by decide +kernel, rfl, by decide +kernel, by decide +kernel⟩
abbrev s_L_alike : Stmt := topS 49
/-- slots: 0 _law_found, 1 _law_due, 2 _law_k -/
theorem sc_L_alike : FnScope ["_law_found", "_law_due", "_law_k"] ["_law_found", "_law_due"] (defScope s_L_alike) := ⟨rfl, rfl, rfl, by decide +kernel, rfl, by decide +kernel, by decide +kernel⟩
abbrev s_L_letters : Stmt := topS 50
/-- slots: 0 _law_box, 1 _law_left, 2 _law_found, 3 _law_turn -/
theorem sc_L_letters : FnScope ["_law_box", "_law_left", "_law_found", "_law_turn"] ["_law_box"] (defScope s_L_letters) := ⟨rfl, rfl, rfl, by decide +kernel, rfl, by decide +kernel, by decide +kernel⟩
abbrev s_L_scheme : Stmt := topS 51
/-- slots: 0 _law_box, 1 _law_letters_here, 2 _law_left, 3 _law_deep, 4 _law_uses, 5 _law_word, 6 _law_way, 7 _law_one, 8 _law_some, 9 _law_kids, 10 _law_turn -/
theorem sc_L_scheme : FnScope ["_law_box", "_law_letters_here", "_law_left", "_law_deep", "_law_uses", "_law_word", "_law_way", "_law_one", "_law_some", "_law_kids", "_law_turn"] ["_law_box", "_law_letters_here", "_law_left", "_law_deep", "_law_uses"] (defScope s_L_scheme) := ⟨rfl, rfl, rfl, by decide +kernel, rfl, by decide +kernel, by decide +kernel⟩
abbrev s_L_counted : Stmt := topS 52
/-- slots: 0 _law_scheme_here, 1 _law_uses, 2 _law_found, 3 _law_kid, 4 _law_more, 5 _law_one -/
theorem sc_L_counted : FnScope ["_law_scheme_here", "_law_uses", "_law_found", "_law_kid", "_law_more", "_law_one"] ["_law_scheme_here", "_law_uses"] (defScope s_L_counted) := ⟨rfl, rfl, rfl, by decide +kernel, rfl, by decide +kernel, by decide +kernel⟩
abbrev s_L_paper : Stmt := topS 53
/-- slots: 0 _law_box, 1 _law_letters_here, 2 _law_left, 3 _law_words, 4 _law_turn, 5 _law_steps, 6 _law_whole, 7 _law_many, 8 _law_found, 9 _law_uses, 10 _law_number, 11 _law_scheme_here, 12 _law_word -/
theorem sc_L_paper : FnScope ["_law_box", "_law_letters_here", "_law_left", "_law_words", "_law_turn", "_law_steps", "_law_whole", "_law_many", "_law_found", "_law_uses", "_law_number", "_law_scheme_here", "_law_word"] ["_law_box", "_law_letters_here"] (defScope s_L_paper) := ⟨rfl, rfl, rfl, by decide +kernel, rfl, by decide +kernel, by decide +kernel⟩
abbrev s_L_step : Stmt := topS 54
/-- slots: 0 _law_box, 1 _law_letters_here, 2 _law_was_wrong, 3 _law_sign -/
theorem sc_L_step : FnScope ["_law_box", "_law_letters_here", "_law_was_wrong", "_law_sign"] ["_law_box", "_law_letters_here", "_law_was_wrong"] (defScope s_L_step) := ⟨rfl, rfl, rfl, by decide +kernel, rfl, by decide +kernel, by decide +kernel⟩
abbrev s_L_work : Stmt := topS 55
/-- slots: 0 _law_box, 1 _law_letters_here, 2 _law_most, 3 _law_found, 4 _law_turn, 5 _law_step_here -/
theorem sc_L_work : FnScope ["_law_box", "_law_letters_here", "_law_most", "_law_found", "_law_turn", "_law_step_here"] ["_law_box", "_law_letters_here", "_law_most"] (defScope s_L_work) := ⟨rfl, rfl, rfl, by decide +kernel, rfl, by decide +kernel, by decide +kernel⟩
abbrev FnP (K : PySem.W.Frag) (x : Str) (st : Stmt) (f : Addr) (fd : FuncData) : Prop := FunD K x x (defArgs st) (defBody st) (defScope st) [] [] f fd
/-- a def of the text: where it stands, by which name it is called -/
structure Def (K : PySem.W.Frag) (mg : Str → Option Value) (x : Str) (st : Stmt) (ps : List Str) where
  f : Addr
  fd : FuncData
  F : FnP K x st f fd
  g : mg x = some (.ref f)
  b : Binds K fd ps []
theorem pcall {X : Cx} {x : Str} {st : Stmt} {ps : List Str} {k : Nat} {sp : Sp} {e : Expr} {es : List Expr} {t : TA} {p pos : Pos} (D : Def X.K X.mg x st ps) (G : FnOk X.prog X.w X.K X.mg X.base CX0 k D.f D.fd ps sp) (hr : Room k X.A)
    (ha : PA X (e :: es) t) (hg : Gl X x := by rfl) (hdb : (x == ("__debug__" : Str)) = false := by decide) (he : starEach (e :: es) X.env = (false, eval e X.env) :: starEach es X.env := by rfl) (hpl : (backTo pos (starEach es X.env)).any (·.1) = false := by rfl) : PE X (.Call (.Name x p) (e :: es) [] pos) (tCall sp [] E0 t) :=
  pe_call G hr hg D.g D.F.kp D.b .nil pass0 ha hdb he hpl

/-- THE RULE for a def that lets nothing out -/
theorem Def.ok {P : Program} {w : World} {K : PySem.W.Frag} {mg : Str → Option Value} {base : Heap} {x : Str} {st : Stmt} {ps N : List Str} {k : Nat} {sp : Sp} (D : Def K mg x st ps) (S : FnScope N ps (defScope st)) (len : ∀ vs H Q E, sp vs H Q E → vs.length = ps.length)
    (hbody : ∀ (cdv : Value) (A : Around) (outer : List Env) (s : Shared) (H : Hp) (vs : List V) (Q : VK) (E : XK), Room k (A.deeper (PyProof.Rows.envOfC x (defScope st) s.heap.objs.size D.f cdv)) → sp vs H Q E →
      ∃ t, PSs (cxOf CX0 P w K mg base N x (defScope st) D.f cdv A outer s H E).nox (defBody st) t ∧ t { nx := fun _ H' => Q .non H', rt := Q } (start N vs) H) : FnOk P w K mg base CX0 (k + 1) D.f D.fd ps sp :=
  D.F.ok S len fun cdv A outer s H vs Q E hr hsp => by
    obtain ⟨t, h, q⟩ := hbody cdv A outer s H vs Q E hr hsp
    exact ⟨t, h.nox, q⟩

/-! ### what stays -/
/-- all but what stands at these addresses is as it was -/
def Keep (S : List Addr) (H H' : Hp) : Prop := ∀ a o, H a = some o → a ∉ S → H' a = some o
theorem Keep.refl (S : List Addr) (H : Hp) : Keep S H H := fun _ _ h _ => h
theorem Keep.trans {S : List Addr} {H H1 H2 : Hp} (a : Keep S H H1) (b : Keep S H1 H2) : Keep S H H2 := fun c o h n => b c o (a c o h n) n
theorem Keep.mono {S T : List Addr} {H H' : Hp} (a : Keep S H H') (h : ∀ x ∈ S, x ∈ T) : Keep T H H' := fun c o e n => a c o e fun z => n (h c z)
theorem Keep.same {H H' : Hp} (a : Keep [] H H') : Same H H' := fun b o h => a b o h (by simp)
theorem Same.keep {S : List Addr} {H H' : Hp} (a : Same H H') : Keep S H H' := fun b o h _ => a b o h
theorem Keep.new {S : List Addr} {H : Hp} {p : Addr} {o : HO} (h : H p = none) : Keep S H (upd H p o) := fun b u q _ => by rw [upd_ne (ne_of_none q h)]; exact q
theorem Same.new {H : Hp} {p : Addr} {o : HO} (h : H p = none) : Same H (upd H p o) := fun b u q => by rw [upd_ne (ne_of_none q h)]; exact q
theorem Keep.put {S : List Addr} {H : Hp} {p : Addr} {o : HO} (h : p ∈ S) : Keep S H (upd H p o) := fun b u q n => by rw [upd_ne (fun z => n (by rw [z]; exact h))]; exact q
theorem Keep.free {S : List Addr} {H H' : Hp} (e : Keep S H H') {l : Addr} (h : H' l = none) (hS : ∀ x ∈ S, H x ≠ none → H' x ≠ none) : H l = none := by
  cases q : H l with
  | none => rfl
  | some o =>
    by_cases m : l ∈ S
    · exact absurd h (hS l m (by rw [q]; exact fun z => nomatch z))
    · rw [e l o q m] at h; cases h

/-! ### data that may be compared -/
def ShN (n : Nat) (d : PyData) : Prop := d.canLay0 = true ∧ d.depth ≤ n
def ShAll (n : Nat) (ds : List PyData) : Prop := PyData.canLayAll0 ds = true ∧ PyData.depthAll ds ≤ n
theorem ShAll.nil {n : Nat} : ShAll n [] := ⟨rfl, Nat.zero_le _⟩
theorem ShAll.cons {n : Nat} {d : PyData} {ds : List PyData} (h : ShN n d) (r : ShAll n ds) : ShAll n (d :: ds) :=
  ⟨by rw [PyData.canLayAll0, h.1, r.1]; rfl, by rw [PyData.depthAll]; exact Nat.max_le.mpr ⟨h.2, r.2⟩⟩
theorem ShN.int {n : Nat} (i : Int) : ShN n (.int i) := ⟨by rw [PyData.canLay0], by rw [PyData.depth]; exact Nat.zero_le _⟩
theorem ShN.str {n : Nat} {x : Str} (h : PyData.strOk x = true) : ShN n (.str x) := ⟨by rw [PyData.canLay0]; exact h, by rw [PyData.depth]; exact Nat.zero_le _⟩
theorem ShN.lst {n : Nat} {ds : List PyData} (h : ShAll n ds) : ShN (n + 1) (.list ds) := ⟨by rw [PyData.canLay0]; exact h.1, by rw [PyData.depth]; exact Nat.succ_le_succ h.2⟩
theorem ShN.tup {n : Nat} {ds : List PyData} (h : ShAll n ds) : ShN (n + 1) (.tuple ds) := ⟨by rw [PyData.canLay0]; exact h.1, by rw [PyData.depth]; exact Nat.succ_le_succ h.2⟩
theorem ShN.mono {n m : Nat} {d : PyData} (h : ShN n d) (hm : n ≤ m) : ShN m d := ⟨h.1, Nat.le_trans h.2 hm⟩
theorem ShN.ok {n : Nat} {d : PyData} (h : ShN n d) (hn : n ≤ 64) : SeqAt.shaped d = true := by
  unfold SeqAt.shaped
  rw [h.1, decide_eq_true (Nat.le_trans h.2 hn)]
  rfl
theorem ShAll.of {n : Nat} : ∀ {ds : List PyData}, (∀ d ∈ ds, ShN n d) → ShAll n ds
  | [], _ => .nil
  | d :: r, h => .cons (h d List.mem_cons_self) (ShAll.of fun e he => h e (List.mem_cons_of_mem _ he))
theorem sh_ints (n : Nat) (ns : List Int) : ShAll n (ns.map PyData.int) := ShAll.of fun d h => by
  obtain ⟨i, _, rfl⟩ := List.mem_map.mp h
  exact .int i
/-! ### the box of draws: the script's numbers left, and the number behind them -/
def Box (H : Hp) (b l : Addr) : Prop := b ≠ l ∧ (∃ n : Int, H b = some (.lst [.ref l, .int n])) ∧ ∃ ns : List Int, H l = some (.lst (ns.map V.int))
theorem Box.keep {S : List Addr} {H H' : Hp} {b l : Addr} (h : Box H b l) (k : Keep S H H') (hb : b ∉ S) (hl : l ∉ S) : Box H' b l := by
  obtain ⟨ne, ⟨n, e1⟩, ns, e2⟩ := h
  exact ⟨ne, ⟨n, k _ _ e1 hb⟩, ns, k _ _ e2 hl⟩
def spTake : Sp := fun vs H Q _ => ∃ (b l : Addr) (m : Int), vs = [.ref b, .int m] ∧ 0 < m ∧ m < 1073741824 ∧ Box H b l ∧
  ∀ (r : Int) (H' : Hp), 0 ≤ r → r < m → Box H' b l → Keep [b, l] H H' → Q (.int r) H'
section
variable {P : Program} {w : World} {K : PySem.W.Frag} {mg : Str → Option Value} {base : Heap}
theorem dp_ints {K : PySem.W.Frag} {H : Hp} : ∀ ns : List Int, DpAll K H (ns.map V.int) (ns.map PyData.int)
  | [] => .nil
  | n :: r => .cons (.int n) (dp_ints r)
theorem at0 {x : V} {xs : List V} : atI (x :: xs) 0 = some x := at_of rfl rfl
theorem at1 {x y : V} {xs : List V} : atI (x :: y :: xs) 1 = some y := at_of rfl rfl
theorem at2 {x y z : V} {xs : List V} : atI (x :: y :: z :: xs) 2 = some z := at_of rfl rfl
theorem ix0 {n : Nat} : ixN (n + 1) 0 = some 0 := by
  unfold ixN
  rw [if_pos (by omega), if_pos (by omega)]
  rfl
theorem seq0 {n : Nat} : seqIndex? 0 (n + 1) = some 0 := (ixN_seq ix0).1
theorem ok_take (D : Def K mg "_law_take" s_L_take ["_law_box", "_law_many"]) : FnOk P w K mg base CX0 1 D.f D.fd ["_law_box", "_law_many"] spTake := by
  refine D.ok sc_L_take (fun vs H Q E h => ?_) (fun cdv A outer s H vs Q E hr h => ?_)
  · obtain ⟨b, l, m, rfl, _⟩ := h
    rfl
  obtain ⟨b, l, m, rfl, m0, m1, ⟨nbl, ⟨n, eb⟩, ns, el⟩, q⟩ := h
  refine ⟨_, pss_cons (ps_if (pt_cmpR (op_eqD hr.units) (pe_ix ix_list (pv 0) pe_int (fun _ _ => rfl)) (pe_lst pa_nil) (nomark _))
      (pss_cons (ps_asg (pe_op op_mod (pe_op op_mul (pe_ix ix_list (pv 0) pe_int (fun _ _ => rfl)) pe_int) pe_int) (pg_sub (pv 0) pe_int set_list))
        (pss_one (ps_ret (pe_op op_mod (pe_op op_fdiv (pe_ix ix_list (pv 0) pe_int (fun _ _ => rfl)) pe_int) (pv 1))))) pss_nil)
    (pss_cons (ps_set (i := 2) sc_L_take.nd rfl (Or.inl rfl) (pe_ix ix_list (pe_ix ix_list (pv 0) pe_int (fun _ _ => rfl)) pe_int (fun _ _ => rfl)))
    (pss_cons (ps_asg (pe_op op_fdiv (pv 2) (pv 1)) (pg_sub (pe_ix ix_list (pv 0) pe_int (fun _ _ => rfl)) pe_int set_list))
    (pss_cons (ps_if (PW.pt (pw_or (pt_cmpR op_eq (pe_ix ix_list (pe_ix ix_list (pv 0) pe_int (fun _ _ => rfl)) pe_int (fun _ _ => rfl)) pe_int (nomark _))
        (pw_or1 (pt_cmpR op_eq (pe_ix ix_list (pe_ix ix_list (pv 0) pe_int (fun _ _ => rfl)) pe_int (fun _ _ => rfl)) (pe_un un_neg pe_int) (nomark _)))))
        (pss_one (ps_expr (pe_bm PySem.F.plainAttrs_list PySem.F.slot_list_pop PySem.F.type_list_pop mt_popAt (pe_ix ix_list (pv 0) pe_int (fun _ _ => rfl)) (pa_cons pe_int pa_nil)))) pss_nil)
    (pss_one (ps_ret (pe_op op_mod (pv 2) (pv 1))))))), ?_⟩
  refine ⟨_, rfl, b, _, 0, .ref l, rfl, rfl, SqL.of eb, rfl, ?_⟩
  refine ⟨Nat.zero_le _, fun p hp => ?_⟩
  have nlp : l ≠ p := ne_of_none el hp
  have nbp : b ≠ p := ne_of_none eb hp
  have eb1 : upd H p (.lst []) b = some (.lst [.ref l, .int n]) := by rw [upd_ne nbp]; exact eb
  have el1 : upd H p (.lst []) l = some (.lst (ns.map V.int)) := by rw [upd_ne nlp]; exact el
  have k1 : Keep [b, l] H (upd H p (.lst [])) := Keep.new hp
  refine ⟨.list (ns.map PyData.int), .list [], .lst (SqL.of el1) (dp_ints ns), .lst (SqL.of upd_same) .nil, ?_, rfl, ?_⟩
  · exact (ShN.lst (sh_ints 0 ns)).ok (by decide)
  refine ⟨_, rfl, ?_⟩
  refine ite2 (fun c => ?_) (fun c => ?_)
  · refine ⟨_, rfl, b, _, 1, .int n, rfl, rfl, SqL.of eb1, rfl, _, _, rfl, rfl, .inr ⟨by decide, by decide⟩, _, _, rfl, rfl, (by show (0 : Int) < 2147483647; decide), ?_⟩
    refine ⟨_, rfl, b, _, 1, 1, rfl, rfl, eb1, rfl, ?_⟩
    refine ⟨_, rfl, b, _, 1, _, rfl, rfl, SqL.of upd_same, rfl, _, _, rfl, rfl, ⟨by decide, by decide⟩, _, rfl, _, _, rfl, rfl, m0, ?_⟩
    refine q _ _ (Int.emod_nonneg _ (by omega)) (Int.emod_lt_of_pos _ m0) ⟨nbl, ⟨_, upd_same⟩, ns, ?_⟩ (k1.trans (Keep.put (by simp)))
    rw [upd_ne nbl.symm]
    exact el1
  · have hne : ns ≠ [] := fun z => c (by rw [z]; rfl)
    obtain ⟨z, r, rfl⟩ : ∃ z r, ns = z :: r := by
      cases ns with
      | nil => exact absurd rfl hne
      | cons z r => exact ⟨z, r, rfl⟩
    refine ⟨_, rfl, b, _, 0, .ref l, rfl, rfl, SqL.of eb1, rfl, l, _, 0, .int z, rfl, rfl, SqL.of el1, at0, ?_⟩
    refine ⟨_, rfl, _, rfl, _, _, rfl, rfl, ⟨m0, m1⟩, _, rfl, b, _, 0, .ref l, rfl, rfl, SqL.of eb1, rfl, l, _, 0, 0, rfl, rfl, el1, ix0, ?_⟩
    have eb2 : ∀ o, upd (upd H p (.lst [])) l o b = some (.lst [.ref l, .int n]) := fun o => by rw [upd_ne nbl]; exact eb1
    refine ⟨_, rfl, b, _, 0, .ref l, rfl, rfl, SqL.of (eb2 _), rfl, l, _, 0, .int (z / m), rfl, rfl, SqL.of upd_same, at0, rfl, _, rfl, ?_⟩
    have fin : ∀ (H' : Hp), Box H' b l → Keep [b, l] H H' → Q (.int (z % m)) H' := fun H' B k => q _ _ (Int.emod_nonneg _ (by omega)) (Int.emod_lt_of_pos _ m0) B k
    have k2 : ∀ o, Keep [b, l] H (upd (upd H p (.lst [])) l o) := fun o => k1.trans (Keep.put (by simp))
    refine ite2 (fun c2 => ?_) (fun c2 => ?_)
    · refine iteT ⟨_, rfl, b, _, 0, .ref l, rfl, rfl, SqL.of (eb2 _), rfl, .inl ⟨rfl, _, SqL.of upd_same⟩, l, _, 0, 0, _, rfl, rfl, upd_same, by decide, by decide, seq0, rfl, ?_⟩
      refine ⟨_, rfl, _, rfl, _, _, rfl, rfl, m0, fin _ ⟨nbl, ⟨n, by rw [upd_ne nbl]; exact eb2 _⟩, r, upd_same⟩ ((k2 _).trans (Keep.put (by simp)))⟩
    · refine ⟨_, rfl, b, _, 0, .ref l, rfl, rfl, SqL.of (eb2 _), rfl, l, _, 0, .int (z / m), rfl, rfl, SqL.of upd_same, at0, _, rfl, rfl, _, rfl, ?_⟩
      by_cases c3 : decide (V.int (z / m) = V.int (-1)) = true
      · show (if decide (V.int (z / m) = V.int (-1)) = true then _ else _)
        rw [if_pos c3]
        refine ⟨_, rfl, b, _, 0, .ref l, rfl, rfl, SqL.of (eb2 _), rfl, .inl ⟨rfl, _, SqL.of upd_same⟩, l, _, 0, 0, _, rfl, rfl, upd_same, by decide, by decide, seq0, rfl, ?_⟩
        refine ⟨_, rfl, _, rfl, _, _, rfl, rfl, m0, fin _ ⟨nbl, ⟨n, by rw [upd_ne nbl]; exact eb2 _⟩, r, upd_same⟩ ((k2 _).trans (Keep.put (by simp)))⟩
      · show (if decide (V.int (z / m) = V.int (-1)) = true then _ else _)
        rw [if_neg c3]
        refine ⟨_, rfl, _, rfl, _, _, rfl, rfl, m0, fin _ ⟨nbl, ⟨n, eb2 _⟩, (z / m) :: r, upd_same⟩ (k2 _)⟩
end
end MS
end
section
set_option maxRecDepth 100000
set_option maxHeartbeats 4000000
namespace MS
open PySem L2
/-! ### words, steps -/
def wordsL : List Str := ["a", "b", "c", "d", "e", "f", "g", "h"]
def marksL : List Str := ["r", "w", "c"]
def IsW (x : Str) : Prop := x ∈ wordsL
def IsM (x : Str) : Prop := x ∈ marksL
theorem IsW.len {x : Str} (h : IsW x) : x.length = 1 := by
  have h' : x ∈ wordsL := h
  have q : ∀ y ∈ wordsL, y.length = 1 := by decide +kernel
  exact q x h'
theorem IsM.len {x : Str} (h : IsM x) : x.length = 1 := by
  have h' : x ∈ marksL := h
  have q : ∀ y ∈ marksL, y.length = 1 := by decide +kernel
  exact q x h'
theorem IsW.ok {x : Str} (h : IsW x) : PyData.strOk x = true := by
  have h' : x ∈ wordsL := h
  have q : ∀ y ∈ wordsL, PyData.strOk y = true := by decide +kernel
  exact q x h'
/-- a step: its word, how it was done -/
abbrev StepT := Str × Str
def stepS (p : StepT) : Str := p.1 ++ p.2
def IsStep (p : StepT) : Prop := IsW p.1 ∧ IsM p.2
theorem step_look : ∀ x ∈ wordsL, ∀ m ∈ marksL, (∃ c, atI (stepS (x, m)).cps.toList 0 = some c ∧ (⟨#[c]⟩ : Str) = x) ∧ (∃ c, atI (stepS (x, m)).cps.toList 1 = some c ∧ (⟨#[c]⟩ : Str) = m) ∧ (stepS (x, m)).length = 2 ∧ PyData.strOk (stepS (x, m)) = true := by
  intro x hx m hm
  simp only [wordsL, marksL, List.mem_cons, List.not_mem_nil, or_false] at hx hm
  rcases hx with rfl | rfl | rfl | rfl | rfl | rfl | rfl | rfl <;> rcases hm with rfl | rfl | rfl <;> exact ⟨⟨_, rfl, by decide +kernel⟩, ⟨_, rfl, by decide +kernel⟩, by decide +kernel, by decide +kernel⟩
theorem IsStep.at0 {p : StepT} (h : IsStep p) : ∃ c, atI (stepS p).cps.toList 0 = some c ∧ (⟨#[c]⟩ : Str) = p.1 := (step_look p.1 h.1 p.2 h.2).1
theorem IsStep.at1 {p : StepT} (h : IsStep p) : ∃ c, atI (stepS p).cps.toList 1 = some c ∧ (⟨#[c]⟩ : Str) = p.2 := (step_look p.1 h.1 p.2 h.2).2.1
theorem IsStep.len {p : StepT} (h : IsStep p) : (stepS p).length = 2 := (step_look p.1 h.1 p.2 h.2).2.2.1
theorem IsStep.ok {p : StepT} (h : IsStep p) : PyData.strOk (stepS p) = true := (step_look p.1 h.1 p.2 h.2).2.2.2
/-- steps of which none is carried on without a wrong one ahead; w: there was one -/
def WorkFrom : Bool → List StepT → Prop
  | _, [] => True
  | w, p :: r => IsStep p ∧ (p.2 = "c" → w = true) ∧ WorkFrom (w || p.2 == "w") r
def WorkOk (ws : List StepT) : Prop := WorkFrom false ws ∧ ws.length ≤ 12
def anyWrong (ws : List StepT) : Bool := ws.any fun p => p.2 == "w"
theorem WorkFrom.snoc : ∀ {ws : List StepT} {w : Bool} {p : StepT}, WorkFrom w ws → IsStep p → (p.2 = "c" → (w || anyWrong ws) = true) → WorkFrom w (ws ++ [p])
  | [], w, p, _, hp, hc => ⟨hp, fun e => by
      have z := hc e
      rw [show anyWrong [] = false from rfl, Bool.or_false] at z
      exact z, trivial⟩
  | q :: r, w, p, h, hp, hc => ⟨h.1, h.2.1, WorkFrom.snoc h.2.2 hp fun e => by
      have z := hc e
      rw [show anyWrong (q :: r) = ((q.2 == "w") || anyWrong r) from rfl] at z
      rw [Bool.or_assoc]
      exact z⟩
theorem WorkFrom.all : ∀ {ws : List StepT} {w : Bool}, WorkFrom w ws → ∀ p ∈ ws, IsStep p
  | [], _, _, p, h => by cases h
  | q :: r, _, h, p, hp => by
    rcases List.mem_cons.mp hp with rfl | hp
    · exact h.1
    · exact WorkFrom.all h.2.2 p hp
def stepsV (ws : List StepT) : List V := ws.map fun p => V.str (stepS p)

/-! ### list(text) -/
def rListS : List V → Hp → VK → Prop := fun xs H Q => ∃ x : Str, xs = [.str x] ∧ x.cps.size ≤ sizeLine ∧ ∀ p, H p = none → Q (.ref p) (upd H p (.lst (x.cps.toList.map fun c => V.str ⟨#[c]⟩)))
theorem cr_listStr {X : Cx} (hc : X.calm = true) : CallR X (.type "list") rListS := by
  intro pins s σ H xs us Q I r h
  obtain ⟨x, rfl, hz, q⟩ := h
  obtain ⟨u, rfl, ru⟩ := vals1 r
  obtain ⟨t, rfl⟩ := ru
  refine call_list_str (hn := hz) (I.ok.hd hc) x t fun h' tk acc c' hk e hi => ?_
  refine (fun (hv : Vals (x.cps.toList.map fun c => V.str ⟨#[c]⟩) acc.toList) => ?_) ?_
  · exact ⟨.ref s.heap.objs.size, upd H s.heap.objs.size (.lst (x.cps.toList.map fun c => V.str ⟨#[c]⟩)), I.laid hk (Nat.le_refl _) ⟨by rw [List.length_map, Array.length_toList]; exact hz, acc.toList, c', hv, by rw [Array.toArray_toList]; exact e⟩, rfl, q _ (I.hok.fresh (Nat.le_refl _))⟩
  refine vals_of_idx _ _ (by rw [List.length_map, Array.length_toList, Array.length_toList]; exact hi.1) fun j u hj => ?_
  obtain ⟨c, t', hc, rfl⟩ := hi.2 j u (by rw [← Array.getElem?_toList]; exact hj)
  exact ⟨.str ⟨#[c]⟩, by simp [hc], ⟨_, rfl⟩⟩
theorem letters_of : (("abcdefgh" : Str).cps.toList.map fun c => V.str ⟨#[c]⟩) = wordsL.map V.str := by decide +kernel

/-! ### the draws' begin -/
def spBegun (K : PySem.W.Frag) : Sp := fun vs H Q _ => ∃ (a : Addr) (ns : List Int), vs = [.ref a] ∧ SqL K H a (ns.map V.int) ∧ ns.length ≤ 63 ∧
  ∀ (b l : Addr) (H' : Hp), H b = none → H l = none → Box H' b l → Same H H' → Q (.ref b) H'
section
variable {P : Program} {w : World} {K : PySem.W.Frag} {mg : Str → Option Value} {base : Heap}
theorem ok_begun (D : Def K mg "_law_begun" s_L_begun ["_law_script"]) (ml : mg "len" = none) (mli : mg "list" = none) (mi : mg "int" = none) : FnOk P w K mg base CX0 1 D.f D.fd ["_law_script"] (spBegun K) := by
  refine D.ok sc_L_begun (fun vs H Q E h => ?_) (fun cdv A outer s H vs Q E hr h => ?_)
  · obtain ⟨a, ns, rfl, _⟩ := h
    rfl
  obtain ⟨a, ns, rfl, hS, hlen, q⟩ := h
  refine ⟨_, pss_cons (ps_set (i := 1) sc_L_begun.nd rfl (Or.inl rfl) pe_int)
    (pss_cons (ps_for PassesOwn.never rfl (pi_list (pv 0)) (pg_name (i := 2) sc_L_begun.nd rfl (Or.inl rfl))
      (pss_one (ps_set (i := 1) sc_L_begun.nd rfl (Or.inl rfl) (pe_op op_mod (pe_op op_add (pe_op op_add (pe_op op_mul (pv 1) pe_int) (pe_op op_mul (pv 2) pe_int)) pe_int) pe_int))))
    (pss_one (ps_ret (pe_lst (pa_cons (pe_callTy call_list_of rfl mli (by decide +kernel) (pa_cons (pv 0) pa_nil))
      (pa_cons (pe_op op_mul (pv 1) (pe_callTy call_int1 rfl mi (by decide +kernel) (pa_cons (pe_cmpR op_gt (pe_callB call_len_seq rfl ml PySem.boot_len (pa_cons (pv 0) pa_nil)) pe_int (nomark _)) pa_nil))) pa_nil)))))), ?_⟩
  refine ⟨_, rfl, a, rfl, ⟨_, hS⟩, for_list (K := K) (a := a) (xs := ns.map V.int) (fun i σ H' => ∃ (z : Int) (v : Option V), σ = [some (.ref a), some (.int z), v] ∧ H' = H)
    ⟨0, none, rfl, rfl⟩ (fun i σ H' _ ⟨_, _, _, e⟩ => by rw [e]; exact hS) ?_ ?_⟩
  · rintro i y σ H' hi ⟨z, v, rfl, rfl⟩
    obtain ⟨u, rfl⟩ : ∃ u, y = V.int u := by
      obtain ⟨u, _, e⟩ := List.mem_map.mp (List.mem_of_getElem? hi)
      exact ⟨u, e.symm⟩
    exact ⟨_, rfl, _, _, rfl, rfl, .inr ⟨by decide, by decide⟩, _, rfl, _, _, rfl, rfl, .inr ⟨by decide, by decide⟩, _, _, rfl, rfl, _, _, rfl, rfl, _, _, rfl, rfl, (by show (0 : Int) < 2147483647; decide), _, _, rfl, rfl⟩
  · rintro σ H' ⟨z, v, rfl, rfl⟩
    refine ⟨_, rfl, a, _, rfl, .inl hS, fun l hl => ?_⟩
    have s1 : Same H' (upd H' l (.lst (ns.map V.int))) := Same.new hl
    refine ⟨_, rfl, _, rfl, a, _, rfl, .inl (s1.seq hS), _, _, rfl, rfl, .inr ⟨_, rfl, ?_⟩⟩
    refine ⟨_, _, rfl, rfl, .inr ?_, ?_⟩
    · split <;> exact ⟨by decide, by decide⟩
    refine ⟨(by show 2 ≤ sizeLine; decide), fun b hb => ?_⟩
    have nb : l ≠ b := ne_of_none upd_same hb
    have hb0 : H' b = none := s1.free hb
    refine q b l _ hb0 hl ⟨nb.symm, ⟨_, upd_same⟩, ns, by rw [upd_ne nb]; exact upd_same⟩ (s1.trans (Same.new hb))
/-! ### the letters -/
def spLetters : Sp := fun vs H Q _ => ∃ (b l : Addr), vs = [.ref b] ∧ Box H b l ∧
  ∀ (p : Addr) (F : List Str) (H' : Hp), H p = none → H' p = some (.lst (F.map V.str)) → (∀ x ∈ F, IsW x) → 0 < F.length → F.length ≤ 8 → Box H' b l → Keep [b, l] H H' → Q (.ref p) H'
end
end MS
end
section
set_option maxRecDepth 100000
set_option maxHeartbeats 4000000
namespace MS
open PySem L2
theorem mem_eraseIdx {α : Type} {l : List α} {k : Nat} {x : α} (h : x ∈ l.eraseIdx k) : x ∈ l := List.mem_of_mem_eraseIdx h
theorem map_erase {α β : Type} (f : α → β) : ∀ (l : List α) (k : Nat), (l.map f).eraseIdx k = (l.eraseIdx k).map f
  | [], _ => rfl
  | _ :: _, 0 => rfl
  | a :: r, k + 1 => congrArg (f a :: ·) (map_erase f r k)
theorem seq_of {n : Nat} {i : Int} (h0 : 0 ≤ i) (h1 : i < n) : seqIndex? i n = some i.toNat := by
  have e : ixN n i = some i.toNat := by
    unfold ixN
    rw [if_pos h0, if_pos h1]
  exact (ixN_seq e).1
theorem atI_of {α : Type} {l : List α} {i : Int} {x : α} (h0 : 0 ≤ i) (h : l[i.toNat]? = some x) : atI l i = some x := by
  have e : i = ((i.toNat : Nat) : Int) := by omega
  rw [e]
  exact atI_nat h
theorem get_map {α β : Type} (f : α → β) (l : List α) {i : Nat} (h : i < l.length) : (l.map f)[i]? = some (f (l[i]'h)) := by
  rw [List.getElem?_map, List.getElem?_eq_getElem h]
  rfl
theorem Keep.newer {S : List Addr} {H H1 : Hp} {p : Addr} {o : HO} (k : Keep S H H1) (h : H p = none) : Keep S H (upd H1 p o) := fun b u q n => by
  rw [upd_ne (ne_of_none q h)]
  exact k b u q n
theorem Box.ne_new {H : Hp} {b l x : Addr} (B : Box H b l) (hx : H x = none) : x ≠ b ∧ x ≠ l := by
  obtain ⟨_, ⟨n, e1⟩, ns, e2⟩ := B
  exact ⟨(ne_of_none e1 hx).symm, (ne_of_none e2 hx).symm⟩
theorem Box.nin {H : Hp} {b l x : Addr} (B : Box H b l) (hx : H x = none) : x ∉ [b, l] := fun hm => by
  rcases List.mem_cons.mp hm with e | hm
  · exact (B.ne_new hx).1 e
  · exact (B.ne_new hx).2 (List.mem_singleton.mp hm)
theorem Box.put {H : Hp} {b l x : Addr} {o : HO} (B : Box H b l) (hb : x ≠ b) (hl : x ≠ l) : Box (upd H x o) b l := by
  obtain ⟨ne, ⟨n, e1⟩, ns, e2⟩ := B
  exact ⟨ne, ⟨n, by rw [upd_ne hb.symm]; exact e1⟩, ns, by rw [upd_ne hl.symm]; exact e2⟩
theorem Box.new {H : Hp} {b l x : Addr} {o : HO} (B : Box H b l) (hx : H x = none) : Box (upd H x o) b l := B.put (B.ne_new hx).1 (B.ne_new hx).2
theorem sz2 : 2 ≤ sizeLine := by decide
theorem szN {n : Nat} (h : n ≤ 1000) : n ≤ sizeLine := Nat.le_of_lt (small1000 h)
/-- one of two numbers, by a draw -/
theorem pick2 {x y r m : Int} (hx : 0 ≤ x ∧ x < m) (hy : 0 ≤ y ∧ y < m) (h0 : 0 ≤ r) (h1 : r < 2) : ∃ z, atI [V.int x, V.int y] r = some (.int z) ∧ 0 ≤ z ∧ z < m := by
  have e : r = 0 ∨ r = 1 := by omega
  rcases e with rfl | rfl
  · exact ⟨x, at0, hx⟩
  · exact ⟨y, at1, hy⟩
section
variable {P : Program} {w : World} {K : PySem.W.Frag} {mg : Str → Option Value} {base : Heap}
theorem ok_letters (D : Def K mg "_law_letters" s_L_letters ["_law_box"]) (DT : Def K mg "_law_take" s_L_take ["_law_box", "_law_many"]) (ml : mg "len" = none) (mli : mg "list" = none) (mr : mg "range" = none) : FnOk P w K mg base CX0 2 D.f D.fd ["_law_box"] spLetters := by
  have GT : FnOk P w K mg base CX0 1 DT.f DT.fd ["_law_box", "_law_many"] spTake := ok_take DT
  refine D.ok sc_L_letters (fun vs H Q E h => ?_) (fun cdv A outer s H vs Q E hr h => ?_)
  · obtain ⟨b, l, rfl, _⟩ := h
    rfl
  obtain ⟨b, l, rfl, B, q⟩ := h
  refine ⟨_, pss_cons (ps_par (i := 1) (j := 2) (by rfl) sc_L_letters.nd rfl rfl (by decide) rfl rfl (pa_cons (pe_callTy (cr_listStr rfl) rfl mli (by decide +kernel) (pa_cons pe_str pa_nil)) (pa_cons (pe_lst pa_nil) pa_nil)) (by rfl))
    (pss_cons (ps_for PassesOwn.never rfl (pi_range1 rfl mr (pa_cons (pe_op op_add pe_int (pe_ix ix_list (pe_lst (pa_cons (pcall DT GT hr (pa_cons (pv 0) (pa_cons pe_int pa_nil))) (pa_cons (pcall DT GT hr (pa_cons (pv 0) (pa_cons pe_int pa_nil))) pa_nil))) (pcall DT GT hr (pa_cons (pv 0) (pa_cons pe_int pa_nil))) (fun _ _ => rfl))) pa_nil)) (pg_name (i := 3) sc_L_letters.nd rfl (Or.inl rfl))
      (pss_one (ps_expr (pe_bm PySem.F.plainAttrs_list PySem.F.slot_list_append PySem.F.type_list_append mt_append (pv 2)
        (pa_cons (pe_bm PySem.F.plainAttrs_list PySem.F.slot_list_pop PySem.F.type_list_pop mt_popAt (pv 1) (pa_cons (pcall DT GT hr (pa_cons (pv 0) (pa_cons (pe_callB call_len_seq rfl ml PySem.boot_len (pa_cons (pv 1) pa_nil)) pa_nil))) pa_nil)) pa_nil)))))
    (pss_one (ps_ret (pv 2)))), ?_⟩
  refine ⟨_, rfl, by decide, fun p hp => ?_⟩
  rw [letters_of]
  refine ⟨Nat.zero_le _, fun f hf => ?_⟩
  have npf : p ≠ f := ne_of_none upd_same hf
  have hpf : upd (upd H p (.lst (wordsL.map V.str))) f (.lst []) p = some (.lst (wordsL.map V.str)) := by rw [upd_ne npf]; exact upd_same
  have k1 : Keep [b, l] H (upd (upd H p (.lst (wordsL.map V.str))) f (.lst [])) := (Keep.new hp).trans (Keep.new hf)
  have hf0 : H f = none := (Same.new hp).free hf
  have nfb := B.ne_new hf0
  have npb := B.ne_new hp
  have B1 : Box (upd (upd H p (.lst (wordsL.map V.str))) f (.lst [])) b l := (B.new hp).put nfb.1 nfb.2
  refine ⟨_, _, rfl, ?_⟩
  refine ⟨_, rfl, b, l, 2, rfl, by decide, by decide, B1, fun r1 H1 a0 a1 B2 k2 => ?_⟩
  refine ⟨_, rfl, b, l, 7, rfl, by decide, by decide, B2, fun r2 H2 b0 b1 B3 k3 => ?_⟩
  refine ⟨sz2, fun L hL => ?_⟩
  refine ⟨_, rfl, b, l, 2, rfl, by decide, by decide, B3.new hL, fun r3 H3 c0 c1 B4 k4 => ?_⟩
  have k5 : Keep [b, l] H2 H3 := (Keep.new hL).trans k4
  have nL := B3.ne_new hL
  have eL : H3 L = some (.lst [.int r1, .int r2]) := k4 L _ upd_same (by simp [nL.1, nL.2])
  obtain ⟨z, ez, z0, z1⟩ := pick2 (x := r1) (y := r2) (m := 7) ⟨a0, by omega⟩ ⟨b0, b1⟩ c0 c1
  refine ⟨L, _, r3, .int z, rfl, rfl, SqL.of eL, ez, _, _, rfl, rfl, _, rfl, by omega, by omega, ?_⟩
  have k6 : Keep [b, l] (upd (upd H p (.lst (wordsL.map V.str))) f (.lst [])) H3 := k2.trans (k3.trans k5)
  have nin : ∀ {x : Addr}, x ≠ b ∧ x ≠ l → x ∉ [b, l] := fun {x} h => by simp [h.1, h.2]
  refine for_range (lo := 0) (n := (2 + z).toNat) (fun i σ H' => ∃ (W F : List Str) (v : Option V), σ = [some (.ref b), some (.ref p), some (.ref f), v] ∧ H' p = some (.lst (W.map V.str)) ∧ H' f = some (.lst (F.map V.str)) ∧
      W.length + i = 8 ∧ F.length = i ∧ (∀ x ∈ W, IsW x) ∧ (∀ x ∈ F, IsW x) ∧ Box H' b l ∧ Keep [b, l] H H')
    ⟨wordsL, [], none, rfl, k6 _ _ hpf (nin npb), k6 _ _ upd_same (nin nfb), rfl, rfl, fun _ h => h, fun _ h => (nomatch h), B4, k1.trans k6⟩ ?_ ?_
  · rintro i σ H' hi ⟨W, F, v, rfl, e1, e2, l1, l2, w1, w2, B', k'⟩
    have hW : 0 < W.length := by omega
    refine ⟨_, rfl, .inl ⟨rfl, _, SqL.of e2⟩, _, rfl, .inl ⟨rfl, _, SqL.of e1⟩, _, rfl, _, rfl, p, _, rfl, .inl (SqL.of e1), b, l, _, rfl, (by rw [List.length_map]; omega), (by rw [List.length_map]; omega), B', fun r H2' r0 r1' B2' k2' => ?_⟩
    rw [List.length_map] at r1'
    have hr' : r.toNat < W.length := by omega
    have e1' := k2' _ _ e1 (nin npb)
    have e2' := k2' _ _ e2 (nin nfb)
    refine ⟨p, _, r, r.toNat, .str (W[r.toNat]'hr'), rfl, rfl, e1', by omega, by omega, seq_of r0 (by rw [List.length_map]; exact r1'), get_map V.str W hr', ?_⟩
    refine ⟨f, _, _, rfl, rfl, (by rw [upd_ne npf.symm]; exact e2'), (by rw [List.length_map]; exact small1000 (by omega)), ?_⟩
    refine ⟨W.eraseIdx r.toNat, F ++ [W[r.toNat]'hr'], _, rfl, ?_, ?_, ?_, ?_, fun x hx => w1 x (mem_eraseIdx hx), fun x hx => ?_, (B2'.put npb.1 npb.2).put nfb.1 nfb.2, ((k'.trans k2').newer hp).newer hf0⟩
    · rw [upd_ne npf, upd_same, map_erase]
    · rw [upd_same, List.map_append]
      rfl
    · rw [List.length_eraseIdx_of_lt hr']
      omega
    · rw [List.length_append, l2]
      rfl
    · rcases List.mem_append.mp hx with hx | hx
      · exact w2 x hx
      · rw [List.mem_singleton.mp hx]
        exact w1 _ (List.getElem_mem hr')
  · rintro σ H' ⟨W, F, v, rfl, e1, e2, l1, l2, w1, w2, B', k'⟩
    exact ⟨_, rfl, q f F H' hf0 e2 w2 (by omega) (by omega) B' k'⟩
end
end MS
end
section
set_option maxRecDepth 100000
set_option maxHeartbeats 4000000
namespace MS
open PySem L2
def spStep : Sp := fun vs H Q _ => ∃ (b l L : Addr) (F : List Str) (c : Bool), vs = [.ref b, .ref L, .bl c] ∧ Box H b l ∧ L ≠ b ∧ L ≠ l ∧ H L = some (.lst (F.map V.str)) ∧ (∀ x ∈ F, IsW x) ∧ 0 < F.length ∧ F.length ≤ 8 ∧
  ∀ (p : StepT) (H' : Hp), IsStep p → (p.2 = "c" → c = true) → Box H' b l → Keep [b, l] H H' → Q (.str (stepS p)) H'
theorem pick_mark {r : Int} (h0 : 0 ≤ r) (h1 : r < 4) : ∃ m, atI [V.str "r", V.str "w", V.str "r", V.str "c"] r = some (.str m) ∧ IsM m := by
  have e : r = 0 ∨ r = 1 ∨ r = 2 ∨ r = 3 := by omega
  rcases e with rfl | rfl | rfl | rfl
  · exact ⟨"r", at0, by unfold IsM; decide +kernel⟩
  · exact ⟨"w", at1, by unfold IsM; decide +kernel⟩
  · exact ⟨"r", at2, by unfold IsM; decide +kernel⟩
  · exact ⟨"c", at_of (j := 3) rfl rfl, by unfold IsM; decide +kernel⟩
theorem pick_word {F : List Str} {r : Int} (w1 : ∀ x ∈ F, IsW x) (h0 : 0 ≤ r) (h1 : r < ((F.map V.str).length : Nat)) : ∃ x, atI (F.map V.str) r = some (.str x) ∧ IsW x ∧ x ∈ F := by
  rw [List.length_map] at h1
  have hr : r.toNat < F.length := by omega
  exact ⟨F[r.toNat]'hr, atI_of h0 (get_map V.str F hr), w1 _ (List.getElem_mem hr), List.getElem_mem hr⟩
section
variable {P : Program} {w : World} {K : PySem.W.Frag} {mg : Str → Option Value} {base : Heap}
theorem ok_step (D : Def K mg "_law_step" s_L_step ["_law_box", "_law_letters_here", "_law_was_wrong"]) (DT : Def K mg "_law_take" s_L_take ["_law_box", "_law_many"]) (ml : mg "len" = none) : FnOk P w K mg base CX0 2 D.f D.fd ["_law_box", "_law_letters_here", "_law_was_wrong"] spStep := by
  have GT : FnOk P w K mg base CX0 1 DT.f DT.fd ["_law_box", "_law_many"] spTake := ok_take DT
  refine D.ok sc_L_step (fun vs H Q E h => ?_) (fun cdv A outer s H vs Q E hr h => ?_)
  · obtain ⟨b, l, L, F, c, rfl, _⟩ := h
    rfl
  obtain ⟨b, l, L, F, c, rfl, B, nb, nl, eL, w1, l0, l1, q⟩ := h
  refine ⟨_, pss_cons (ps_set (i := 3) sc_L_step.nd rfl (Or.inl rfl) (pe_ix ix_list (pe_lst (pa_cons pe_str (pa_cons pe_str (pa_cons pe_str (pa_cons pe_str pa_nil))))) (pcall DT GT hr (pa_cons (pv 0) (pa_cons pe_int pa_nil))) (fun _ _ => rfl)))
    (pss_one (ps_ret (pe_op op_add_str (pe_ix ix_list (pv 1) (pcall DT GT hr (pa_cons (pv 0) (pa_cons (pe_callB call_len_seq rfl ml PySem.boot_len (pa_cons (pv 1) pa_nil)) pa_nil))) (fun _ _ => rfl))
      (pe_ifExp (PW.pt (pw_or (pt_cmpR op_ne (pv 3) pe_str (nomark _)) (pw_or1 (pt_val (pv 2))))) (pv 3) pe_str)))), ?_⟩
  refine ⟨(by show 4 ≤ sizeLine; decide), fun T hT => ?_⟩
  refine ⟨_, rfl, b, l, 4, rfl, by decide, by decide, B.new hT, fun r H1 a0 a1 B1 k1 => ?_⟩
  have k2 : Keep [b, l] H H1 := (Keep.new hT).trans k1
  have eT := k1 T _ upd_same (B.nin hT)
  obtain ⟨m, em, hm⟩ := pick_mark a0 a1
  refine ⟨T, _, r, .str m, rfl, rfl, SqL.of eT, em, ?_⟩
  have eL1 := k2 L _ eL (by simp [nb, nl])
  refine ⟨_, rfl, _, rfl, _, rfl, L, _, rfl, .inl (SqL.of eL1), b, l, _, rfl, (by rw [List.length_map]; omega), (by rw [List.length_map]; omega), B1, fun r2 H2 b0 b1 B2 k3 => ?_⟩
  have eL2 := k3 L _ eL1 (by simp [nb, nl])
  obtain ⟨x, ex, hx, _⟩ := pick_word w1 b0 b1
  refine ⟨L, _, r2, .str x, rfl, rfl, SqL.of eL2, ex, ?_⟩
  have fin : ∀ m' : Str, IsM m' → (m' = "c" → c = true) → x.length + m'.length ≤ sizeLine ∧ Q (.str (x ++ m')) H2 := fun m' h1 h2 =>
    ⟨by rw [hx.len, h1.len]; decide, q (x, m') H2 ⟨hx, h1⟩ h2 B2 (k2.trans k3)⟩
  refine ⟨_, rfl, rfl, _, rfl, ?_⟩
  refine ite2 (fun c1 => ?_) (fun c1 => ?_)
  · refine iteT ⟨_, rfl, x, m, rfl, rfl, fin m hm fun e => ?_⟩
    subst e
    exact absurd c1 (by decide +kernel)
  · have e : m = "c" := by
      by_cases z : m = "c"
      · exact z
      · refine absurd ?_ c1
        rw [decide_eq_false (fun y => z (V.str.inj y))]
        rfl
    subst e
    refine ⟨_, rfl, c, rfl, ?_⟩
    cases c with
    | true => exact iteT ⟨_, rfl, x, "c", rfl, rfl, fin "c" hm fun _ => rfl⟩
    | false => exact iteF ⟨x, "w", rfl, rfl, fin "w" (by unfold IsM; decide +kernel) fun e => absurd e (by decide +kernel)⟩
/-! ### a work -/
def spWork : Sp := fun vs H Q _ => ∃ (b l L : Addr) (F : List Str), vs = [.ref b, .ref L, .int 12] ∧ Box H b l ∧ L ≠ b ∧ L ≠ l ∧ H L = some (.lst (F.map V.str)) ∧ (∀ x ∈ F, IsW x) ∧ 0 < F.length ∧ F.length ≤ 8 ∧
  ∀ (p : Addr) (ws : List StepT) (H' : Hp), H p = none → H' p = some (.lst (stepsV ws)) → WorkOk ws → Box H' b l → Keep [b, l] H H' → Q (.ref p) H'
theorem ok_work (D : Def K mg "_law_work" s_L_work ["_law_box", "_law_letters_here", "_law_most"]) (DT : Def K mg "_law_take" s_L_take ["_law_box", "_law_many"]) (DS : Def K mg "_law_step" s_L_step ["_law_box", "_law_letters_here", "_law_was_wrong"]) (ml : mg "len" = none) (mr : mg "range" = none) (ma : mg "any" = none) :
    FnOk P w K mg base CX0 3 D.f D.fd ["_law_box", "_law_letters_here", "_law_most"] spWork := by
  have GT : FnOk P w K mg base CX0 1 DT.f DT.fd ["_law_box", "_law_many"] spTake := ok_take DT
  have GS : FnOk P w K mg base CX0 2 DS.f DS.fd ["_law_box", "_law_letters_here", "_law_was_wrong"] spStep := ok_step DS DT ml
  refine D.ok sc_L_work (fun vs H Q E h => ?_) (fun cdv A outer s H vs Q E hr h => ?_)
  · obtain ⟨b, l, L, F, rfl, _⟩ := h
    rfl
  obtain ⟨b, l, L, F, rfl, B, nb, nl, eL, w1, l0, l1, q⟩ := h
  have hr1 : Room 1 _ := hr.mono (by decide)
  have nd := sc_L_work.nd
  refine ⟨_, pss_cons (ps_set (i := 3) nd rfl (Or.inl rfl) (pe_lst pa_nil))
    (pss_cons (ps_for PassesOwn.never rfl (pi_range1 rfl mr (pa_cons (pcall DT GT hr1 (pa_cons (pv 0) (pa_cons (pe_op op_add (pv 2) pe_int) pa_nil))) pa_nil)) (pg_name (i := 4) nd rfl (Or.inl rfl))
      (pss_one (ps_expr (pe_bm PySem.F.plainAttrs_list PySem.F.slot_list_append PySem.F.type_list_append mt_append (pv 3)
        (pa_cons (pcall DS GS hr (pa_cons (pv 0) (pa_cons (pv 1) (pa_cons (pe_callB (cr_any rfl) rfl ma (by decide +kernel) (pa_cons
          (pe_lc (own := [("_law_step_here", 5)]) (g := gName 5) (tt := tYes) rfl nd (pi_list (pv 3)) (blkOk_by (N := ["_law_box", "_law_letters_here", "_law_most", "_law_found", "_law_turn", "_law_step_here"]) (sc := defScope s_L_work) (by decide +kernel)) (fun _ _ _ _ _ => pg_name (i := 5) nd rfl (Or.inl rfl)) (fun _ _ _ _ _ => pts_nil)
            (fun _ _ _ _ _ => pe_cmpR op_eq (pe_ix ix_str (pv 5) pe_int (fun _ _ => rfl)) pe_str (nomark _))) pa_nil)) pa_nil)))) pa_nil)))))
    (pss_one (ps_ret (pv 3)))), ?_⟩
  refine ⟨Nat.zero_le _, fun f hf => ?_⟩
  have nfb := B.ne_new hf
  refine ⟨_, rfl, _, rfl, _, _, rfl, rfl, b, l, _, rfl, by decide, by decide, B.new hf, fun r H1 a0 a1 B1 k1 => ?_⟩
  have a1' : r < 13 := a1
  have nin : ∀ {x : Addr}, x ≠ b ∧ x ≠ l → x ∉ [b, l] := fun {x} h => by simp [h.1, h.2]
  refine ⟨_, rfl, by omega, by omega, ?_⟩
  refine for_range (lo := 0) (n := r.toNat) (fun i σ H' => ∃ (ws : List StepT) (v : Option V), σ = [some (.ref b), some (.ref L), some (.int 12), some (.ref f), v, none] ∧ H' f = some (.lst (stepsV ws)) ∧ ws.length = i ∧ WorkFrom false ws ∧ Box H' b l ∧ Keep [b, l] H H')
    ⟨[], none, rfl, k1 _ _ upd_same (nin nfb), rfl, trivial, B1, (Keep.new hf).trans k1⟩ ?_ ?_
  · rintro i σ H' hi ⟨ws, v, rfl, ef, hl, hw, B', k'⟩
    have lws : (stepsV ws).length = ws.length := List.length_map _
    have all := hw.all
    refine ⟨_, rfl, .inl ⟨rfl, _, SqL.of ef⟩, _, rfl, _, rfl, _, rfl, f, rfl, ⟨_, SqL.of ef⟩, fun D hD => ?_⟩
    have nfD : f ≠ D := ne_of_none ef hD
    refine lc_list (K := K) (a := f) (xs := stepsV ws) (fun j H'' => H'' = upd H' D (.lst ((ws.take j).map fun p : StepT => V.bl (p.2 == ("w" : Str))))) rfl (fun j H'' _ e => by rw [e]; exact SqL.of (by rw [upd_ne nfD]; exact ef)) ?_ ?_
    · rintro j x H'' hj rfl
      have hjl : j < ws.length := by
        have z := (List.getElem?_eq_some_iff.mp hj).1
        rw [lws] at z
        exact z
      have ex : x = V.str (stepS (ws[j]'hjl)) := by
        have z := get_map (fun p => V.str (stepS p)) ws hjl
        exact Option.some.inj (hj.symm.trans z)
      subst ex
      have hs := all _ (List.getElem_mem hjl)
      obtain ⟨c, ec, em⟩ := hs.at1
      refine ⟨rfl, _, rfl, _, 1, c, rfl, rfl, by rw [hs.len]; decide, ec, rfl, _, upd_same, ?_, ?_⟩
      · rw [List.length_map, List.length_take]
        exact small1000 (by omega)
      · rw [upd_upd, em, List.take_succ_eq_append_getElem hjl, List.map_append, dec_str]
        rfl
    · rintro H'' rfl
      rw [lws, List.take_length]
      refine ⟨D, ws.map fun p : StepT => p.2 == ("w" : Str), rfl, SqL.of (by rw [upd_same, List.map_map]; rfl), ?_⟩
      have kD : Keep [b, l] H' (upd H' D (.lst (ws.map fun p : StepT => V.bl (p.2 == ("w" : Str))))) := Keep.new hD
      refine ⟨b, l, L, F, _, rfl, B'.new hD, nb, nl, (k'.trans kD) L _ eL (by simp [nb, nl]), w1, l0, l1, fun p H2 hp hc B2 k2 => ?_⟩
      have ef2 := (kD.trans k2) f _ ef (nin nfb)
      refine ⟨f, _, _, rfl, rfl, ef2, by rw [lws]; exact small1000 (by omega), ?_⟩
      refine ⟨ws ++ [p], _, rfl, ?_, ?_, hw.snoc hp fun e => ?_, B2.put nfb.1 nfb.2, ((k'.trans (kD.trans k2)).newer hf)⟩
      · rw [upd_same]
        unfold stepsV
        rw [List.map_append]
        rfl
      · rw [List.length_append, hl]
        rfl
      · have z := hc e
        rw [Bool.false_or]
        unfold anyWrong
        rw [List.any_map] at z
        exact z
  · rintro σ H' ⟨ws, v, rfl, ef, hl, hw, B', k'⟩
    exact ⟨_, rfl, q f ws H' hf ef ⟨hw, by omega⟩ B' k'⟩
end
end MS
end
section
set_option maxRecDepth 100000
set_option maxHeartbeats 4000000
namespace MS
open PySem L2
/-! ### schemes -/
inductive Sch where
  | step (w : Str) (p : Int)
  | all (k : List Sch)
  | best (k : List Sch)
  | most (n : Int) (s : Sch)
  | half (s : Sch)
  | seen (w : Str) (s : Sch)
  | behind (w : Str) (s : Sch)
  | carry (s : Sch)
  | fin (w : Str) (p : Int) (s : Sch)
  | use (n : Nat)
/-- a scheme of at most d levels stands in the heap -/
def SAt (H : Hp) : Nat → Sch → V → Prop
  | 0, _, _ => False
  | _ + 1, .step w p, v => ∃ a, v = .ref a ∧ H a = some (.tup [.str "step", .str w, .int p])
  | d + 1, .all k, v => ∃ a b vs, v = .ref a ∧ H a = some (.tup [.str "all", .ref b]) ∧ H b = some (.tup vs) ∧ Paired (SAt H d) k vs
  | d + 1, .best k, v => ∃ a b vs, v = .ref a ∧ H a = some (.tup [.str "best", .ref b]) ∧ H b = some (.tup vs) ∧ Paired (SAt H d) k vs
  | d + 1, .most n s, v => ∃ a u, v = .ref a ∧ H a = some (.tup [.str "most", .int n, u]) ∧ SAt H d s u
  | d + 1, .half s, v => ∃ a u, v = .ref a ∧ H a = some (.tup [.str "half", u]) ∧ SAt H d s u
  | d + 1, .seen w s, v => ∃ a u, v = .ref a ∧ H a = some (.tup [.str "seen", .str w, u]) ∧ SAt H d s u
  | d + 1, .behind w s, v => ∃ a u, v = .ref a ∧ H a = some (.tup [.str "behind", .str w, u]) ∧ SAt H d s u
  | d + 1, .carry s, v => ∃ a u, v = .ref a ∧ H a = some (.tup [.str "carry", u]) ∧ SAt H d s u
  | d + 1, .fin w p s, v => ∃ a u, v = .ref a ∧ H a = some (.tup [.str "end", .str w, .int p, u]) ∧ SAt H d s u
  | _ + 1, .use n, v => ∃ a, v = .ref a ∧ H a = some (.tup [.str "use", .int (n : Int)])
/-- tuples stay -/
def TupK (H H' : Hp) : Prop := ∀ a xs, H a = some (.tup xs) → H' a = some (.tup xs)
theorem TupK.refl (H : Hp) : TupK H H := fun _ _ h => h
theorem TupK.trans {H H1 H2 : Hp} (a : TupK H H1) (b : TupK H1 H2) : TupK H H2 := fun c o h => b c o (a c o h)
theorem TupK.new {H : Hp} {p : Addr} {o : HO} (h : H p = none) : TupK H (upd H p o) := fun b u q => by rw [upd_ne (ne_of_none q h)]; exact q
theorem TupK.put {H : Hp} {p : Addr} {o : HO} {ys : List V} (h : H p = some (.lst ys)) : TupK H (upd H p o) := fun b u q => by rw [upd_ne (ne_of q h (by intro z; cases z))]; exact q
theorem Keep.tup {S : List Addr} {H H' : Hp} (k : Keep S H H') (nt : ∀ a ∈ S, ∃ ys, H a = some (.lst ys)) : TupK H H' := fun a xs e => k a _ e fun hm => by
  obtain ⟨ys, z⟩ := nt a hm
  rw [e] at z
  cases z
theorem paired_imp {α β : Type} {R T : α → β → Prop} : ∀ {xs : List α} {ys : List β}, Paired R xs ys → (∀ x y, R x y → T x y) → Paired T xs ys
  | _, _, .nil, _ => .nil
  | _, _, .cons r t, h => .cons (h _ _ r) (paired_imp t h)
theorem SAt.keep {H H' : Hp} (k : TupK H H') : ∀ (d : Nat) (s : Sch) (v : V), SAt H d s v → SAt H' d s v
  | 0, _, _, h => by cases h
  | _ + 1, .step w p, v, ⟨a, e, h⟩ => ⟨a, e, k _ _ h⟩
  | d + 1, .all ks, v, ⟨a, b, vs, e, h1, h2, h3⟩ => ⟨a, b, vs, e, k _ _ h1, k _ _ h2, paired_imp h3 fun s v => SAt.keep k d s v⟩
  | d + 1, .best ks, v, ⟨a, b, vs, e, h1, h2, h3⟩ => ⟨a, b, vs, e, k _ _ h1, k _ _ h2, paired_imp h3 fun s v => SAt.keep k d s v⟩
  | d + 1, .most n s, v, ⟨a, u, e, h1, h2⟩ => ⟨a, u, e, k _ _ h1, SAt.keep k d s u h2⟩
  | d + 1, .half s, v, ⟨a, u, e, h1, h2⟩ => ⟨a, u, e, k _ _ h1, SAt.keep k d s u h2⟩
  | d + 1, .seen w s, v, ⟨a, u, e, h1, h2⟩ => ⟨a, u, e, k _ _ h1, SAt.keep k d s u h2⟩
  | d + 1, .behind w s, v, ⟨a, u, e, h1, h2⟩ => ⟨a, u, e, k _ _ h1, SAt.keep k d s u h2⟩
  | d + 1, .carry s, v, ⟨a, u, e, h1, h2⟩ => ⟨a, u, e, k _ _ h1, SAt.keep k d s u h2⟩
  | d + 1, .fin w p s, v, ⟨a, u, e, h1, h2⟩ => ⟨a, u, e, k _ _ h1, SAt.keep k d s u h2⟩
  | _ + 1, .use n, v, ⟨a, e, h⟩ => ⟨a, e, k _ _ h⟩
/-- a scheme that can be, in scheme i of M -/
def OkS (i M : Nat) : Nat → Sch → Prop
  | 0, _ => False
  | _ + 1, .step w p => IsW w ∧ 1 ≤ p ∧ p ≤ 9
  | d + 1, .all k => 0 < k.length ∧ k.length ≤ 4 ∧ ∀ s ∈ k, OkS i M d s
  | d + 1, .best k => 0 < k.length ∧ k.length ≤ 4 ∧ ∀ s ∈ k, OkS i M d s
  | d + 1, .most n s => (0 ≤ n ∧ n ≤ 30) ∧ OkS i M d s
  | d + 1, .half s => OkS i M d s
  | d + 1, .seen w s => IsW w ∧ OkS i M d s
  | d + 1, .behind w s => IsW w ∧ OkS i M d s
  | d + 1, .carry s => OkS i M d s
  | d + 1, .fin w p s => (IsW w ∧ 1 ≤ p ∧ p ≤ 9) ∧ OkS i M d s
  | _ + 1, .use n => i < n ∧ n < M
def sz : Nat → Sch → Int
  | 0, _ => 0
  | _ + 1, .step _ _ => 1
  | d + 1, .all k => 1 + (k.map (sz d)).sum
  | d + 1, .best k => 1 + (k.map (sz d)).sum
  | d + 1, .most _ s => 1 + sz d s
  | d + 1, .half s => 1 + sz d s
  | d + 1, .seen _ s => 1 + sz d s
  | d + 1, .behind _ s => 1 + sz d s
  | d + 1, .carry s => 1 + sz d s
  | d + 1, .fin _ _ s => 1 + sz d s
  | _ + 1, .use _ => 1
/-- steps and ends; c: those of the used ones -/
def er (c : Nat → Int) : Nat → Sch → Int
  | 0, _ => 0
  | _ + 1, .step _ _ => 1
  | d + 1, .all k => (k.map (er c d)).sum
  | d + 1, .best k => (k.map (er c d)).sum
  | d + 1, .most _ s => er c d s
  | d + 1, .half s => er c d s
  | d + 1, .seen _ s => er c d s
  | d + 1, .behind _ s => er c d s
  | d + 1, .carry s => er c d s
  | d + 1, .fin _ _ s => 1 + er c d s
  | _ + 1, .use n => c n
/-- seens and behinds -/
def wr (c : Nat → Int) : Nat → Sch → Int
  | 0, _ => 0
  | _ + 1, .step _ _ => 0
  | d + 1, .all k => (k.map (wr c d)).sum
  | d + 1, .best k => (k.map (wr c d)).sum
  | d + 1, .most _ s => wr c d s
  | d + 1, .half s => wr c d s
  | d + 1, .seen _ s => 1 + wr c d s
  | d + 1, .behind _ s => 1 + wr c d s
  | d + 1, .carry s => wr c d s
  | d + 1, .fin _ _ s => wr c d s
  | _ + 1, .use n => c n
/-- what is told of the later schemes: number, steps and ends, seens and behinds -/
def UAt (H : Hp) (i M : Nat) (ce cw : Nat → Int) (u : Addr) : Prop := ∃ (js : List Nat) (vs : List V), H u = some (.lst vs) ∧ js.length ≤ 5 ∧ (∀ j ∈ js, i < j ∧ j < M) ∧
  Paired (fun j v => ∃ t, v = V.ref t ∧ H t = some (.tup [.int ((j : Nat) : Int), .int (ce j), .int (cw j)])) js vs
theorem UAt.keep {H H' : Hp} {i M : Nat} {ce cw : Nat → Int} {u : Addr} (h : UAt H i M ce cw u) (k : TupK H H') (hu : ∀ vs, H u = some (.lst vs) → H' u = some (.lst vs)) : UAt H' i M ce cw u := by
  obtain ⟨js, vs, e, l, r, p⟩ := h
  exact ⟨js, vs, hu vs e, l, r, paired_imp p fun j v ⟨t, e1, e2⟩ => ⟨t, e1, k _ _ e2⟩⟩
end MS
end
section
set_option maxRecDepth 100000
set_option maxHeartbeats 4000000
namespace MS
open PySem L2
theorem ev_or {t u : TT} {σ : St} {H : Hp} {b c : Bool} (h1 : ∀ Q : Bool → Hp → Prop, Q b H → t σ H Q) (h2 : ∀ Q : Bool → Hp → Prop, Q c H → u σ H Q) : ∀ Q : Bool → Hp → Prop, Q (b || c) H → tOr t u σ H Q := fun Q q => h1 _ (by
  cases b with
  | true => exact iteT q
  | false => exact iteF (h2 _ q))
theorem ev_and {t u : TT} {σ : St} {H : Hp} {b c : Bool} (h1 : ∀ Q : Bool → Hp → Prop, Q b H → t σ H Q) (h2 : ∀ Q : Bool → Hp → Prop, Q c H → u σ H Q) : ∀ Q : Bool → Hp → Prop, Q (b && c) H → tAnd t u σ H Q := fun Q q => h1 _ (by
  cases b with
  | true => exact iteT (h2 _ q)
  | false => exact iteF q)
theorem seq_if {tc : TT} {t r : TS} {D : Ends} {σ : St} {H : Hp} {b : Bool} (h : ∀ Q : Bool → Hp → Prop, Q b H → tc σ H Q) (k1 : b = true → t { D with nx := r D } σ H) (k2 : b = false → r D σ H) : tSeq (tIfS tc t tNext) r D σ H := h _ (by
  cases b with
  | true => exact iteT (k1 rfl)
  | false => exact iteF (k2 rfl))
theorem one_if {tc : TT} {t : TS} {D : Ends} {σ : St} {H : Hp} {b : Bool} (h : ∀ Q : Bool → Hp → Prop, Q b H → tc σ H Q) (k1 : b = true → t D σ H) (k2 : b = false → D.nx σ H) : tIfS tc t tNext D σ H := h _ (by
  cases b with
  | true => exact iteT (k1 rfl)
  | false => exact iteF (k2 rfl))
theorem seq_if_to {tc : TT} {t r : TS} {D : Ends} {σ : St} {H : Hp} {b : Bool} (R : St → Hp → Prop) (h : ∀ Q : Bool → Hp → Prop, Q b H → tc σ H Q) (rest : ∀ σ' H', R σ' H' → r D σ' H')
    (k1 : b = true → (∀ σ' H', R σ' H' → r D σ' H') → t { D with nx := r D } σ H) (k2 : b = false → R σ H) : tSeq (tIfS tc t tNext) r D σ H := seq_if h (fun e => k1 e rest) fun e => rest _ _ (k2 e)
theorem paired_get' {α β : Type} {R : α → β → Prop} : ∀ {xs : List α} {ys : List β}, Paired R xs ys → ∀ {k : Nat} {y : β}, ys[k]? = some y → ∃ x, xs[k]? = some x ∧ R x y
  | _, _, .nil, _, _, h => by simp at h
  | _, _, .cons r t, 0, _, h => by
    simp at h
    subst h
    exact ⟨_, rfl, r⟩
  | _, _, .cons _ t, k + 1, y, h => by
    obtain ⟨x, e, r⟩ := paired_get' t (k := k) (y := y) (by simpa using h)
    exact ⟨x, by simpa using e, r⟩
theorem paired_snoc {α β : Type} {R : α → β → Prop} : ∀ {xs : List α} {ys : List β} {x : α} {y : β}, Paired R xs ys → R x y → Paired R (xs ++ [x]) (ys ++ [y])
  | _, _, _, _, .nil, h => .cons h .nil
  | _, _, _, _, .cons r t, h => .cons r (paired_snoc t h)
theorem pick_name {a b : Str} {r : Int} (h0 : 0 ≤ r) (h1 : r < 2) : atI [V.str a, V.str b] r = some (.str (if r = 0 then a else b)) := by
  have e : r = 0 ∨ r = 1 := by omega
  rcases e with rfl | rfl
  · exact at0
  · exact at1
structure GenAt (i M : Nat) (ce cw : Nat → Int) (H : Hp) (b l L m u : Addr) (F : List Str) (x y z : Int) : Prop where
  box : Box H b l
  left : H m = some (.lst [.int x, .int y, .int z])
  lets : H L = some (.lst (F.map V.str))
  words : ∀ x ∈ F, IsW x
  pos : 0 < F.length
  few : F.length ≤ 8
  uses : UAt H i M ce cw u
  bm : m ≠ b ∧ m ≠ l
  nL : L ∉ [b, l, m]
  nu : u ∉ [b, l, m]
section
variable {i M : Nat} {ce cw : Nat → Int} {H H' : Hp} {b l L m u : Addr} {F : List Str} {x y z x' y' z' : Int}
theorem GenAt.lists (G : GenAt i M ce cw H b l L m u F x y z) : ∀ a ∈ [b, l, m], ∃ ys, H a = some (.lst ys) := fun a ha => by
  obtain ⟨_, ⟨n, e1⟩, ns, e2⟩ := G.box
  rcases List.mem_cons.mp ha with rfl | ha
  · exact ⟨_, e1⟩
  · rcases List.mem_cons.mp ha with rfl | ha
    · exact ⟨_, e2⟩
    · rw [List.mem_singleton.mp ha]
      exact ⟨_, G.left⟩
theorem GenAt.tup (G : GenAt i M ce cw H b l L m u F x y z) (k : Keep [b, l, m] H H') : TupK H H' := k.tup G.lists
theorem GenAt.move (G : GenAt i M ce cw H b l L m u F x y z) (k : Keep [b, l, m] H H') (B : Box H' b l) (e : H' m = some (.lst [.int x', .int y', .int z'])) : GenAt i M ce cw H' b l L m u F x' y' z' :=
  ⟨B, e, k _ _ G.lets G.nL, G.words, G.pos, G.few, G.uses.keep (G.tup k) (fun vs h => k _ _ h G.nu), G.bm, G.nL, G.nu⟩
theorem GenAt.nm (G : GenAt i M ce cw H b l L m u F x y z) : m ∉ [b, l] := by simp [G.bm.1, G.bm.2]
theorem GenAt.draw (G : GenAt i M ce cw H b l L m u F x y z) (k : Keep [b, l] H H') (B : Box H' b l) : GenAt i M ce cw H' b l L m u F x y z :=
  G.move (k.mono fun _ h => by simp only [List.mem_cons, List.not_mem_nil, or_false] at h ⊢; rcases h with h | h <;> simp [h]) B (k _ _ G.left G.nm)
theorem GenAt.new (G : GenAt i M ce cw H b l L m u F x y z) {p : Addr} {o : HO} (h : H p = none) : GenAt i M ce cw (upd H p o) b l L m u F x y z :=
  G.draw (Keep.new h) (G.box.new h)
theorem GenAt.put (G : GenAt i M ce cw H b l L m u F x y z) : GenAt i M ce cw (upd H m (.lst [.int x', .int y', .int z'])) b l L m u F x' y' z' :=
  G.move (Keep.put (by simp)) (G.box.put G.bm.1 G.bm.2) upd_same
theorem k3 {b l m : Addr} {H H' : Hp} (k : Keep [b, l] H H') : Keep [b, l, m] H H' := k.mono fun _ h => by simp only [List.mem_cons, List.not_mem_nil, or_false] at h ⊢; rcases h with h | h <;> simp [h]
end
def spScheme (i M : Nat) (ce cw : Nat → Int) (d : Nat) : Sp := fun vs H Q _ => ∃ (b l L m u : Addr) (F : List Str) (x y z : Int), vs = [.ref b, .ref L, .ref m, .int (d : Int), .ref u] ∧ GenAt i M ce cw H b l L m u F x y z ∧ 1 ≤ x ∧ 1 ≤ y ∧ 0 ≤ z ∧
  ∀ (v : V) (s : Sch) (H' : Hp) (x' y' z' : Int), SAt H' (d + 1) s v → OkS i M (d + 1) s → sz (d + 1) s = x - x' → er ce (d + 1) s = y - y' → wr cw (d + 1) s = z - z' → 0 ≤ x' → 0 ≤ y' → 0 ≤ z' →
    H' m = some (.lst [.int x', .int y', .int z']) → Box H' b l → Keep [b, l, m] H H' → Q v H'
abbrev nmScheme : List Str := ["_law_box", "_law_letters_here", "_law_left", "_law_deep", "_law_uses", "_law_word", "_law_way", "_law_one", "_law_some", "_law_kids", "_law_turn"]
abbrev psScheme : List Str := ["_law_box", "_law_letters_here", "_law_left", "_law_deep", "_law_uses"]
section
variable {P : Program} {w : World} {K : PySem.W.Frag} {mg : Str → Option Value} {base : Heap}
theorem scheme_turn {i M d : Nat} {ce cw : Nat → Int} {sp' : Sp} (D : Def K mg "_law_scheme" s_L_scheme psScheme) (DT : Def K mg "_law_take" s_L_take ["_law_box", "_law_many"]) (ml : mg "len" = none) (mr : mg "range" = none) (mt : mg "tuple" = none)
    (G : FnOk P w K mg base CX0 (d + 1) D.f D.fd psScheme sp') (hs : ∀ d', d = d' + 1 → sp' = spScheme i M ce cw d') : FnOk P w K mg base CX0 (d + 2) D.f D.fd psScheme (spScheme i M ce cw d) := by
  have GT : FnOk P w K mg base CX0 1 DT.f DT.fd ["_law_box", "_law_many"] spTake := ok_take DT
  have nd := sc_L_scheme.nd
  refine D.ok sc_L_scheme (fun vs H Q E h => ?_) (fun cdv A outer s H vs Q E hr h => ?_)
  · obtain ⟨b, l, L, m, u, F, x, y, z, rfl, _⟩ := h
    rfl
  obtain ⟨b, l, L, m, u, F, x, y, z, rfl, g, hx, hy, hz, q⟩ := h
  have hr1 : Room 1 _ := hr.mono (by omega)
  refine ⟨_, pss_cons (ps_asg (pe_op op_sub (pe_ix ix_list (pv 2) pe_int (fun _ _ => rfl)) pe_int) (pg_sub (pv 2) pe_int set_list))
    (pss_cons (ps_set (i := 5) nd rfl (Or.inl rfl) (pe_ix ix_list (pv 1) (pcall DT GT hr1 (pa_cons (pv 0) (pa_cons (pe_callB call_len_seq rfl ml PySem.boot_len (pa_cons (pv 1) pa_nil)) pa_nil))) (fun _ _ => rfl)))
    (pss_cons (ps_set (i := 6) nd rfl (Or.inl rfl) (pcall DT GT hr1 (pa_cons (pv 0) (pa_cons pe_int pa_nil))))
    (pss_cons (ps_if (PW.pt (pw_or (pt_cmpR op_eq (pv 3) pe_int (nomark _)) (pw_or (pt_cmpR op_lt (pe_ix ix_list (pv 2) pe_int (fun _ _ => rfl)) pe_int (nomark _)) (pw_or (pt_cmpR op_lt (pe_ix ix_list (pv 2) pe_int (fun _ _ => rfl)) pe_int (nomark _)) (pw_or1 (pt_cmpR op_lt (pv 6) pe_int (nomark _)))))))
      (pss_cons (ps_asg (pe_op op_sub (pe_ix ix_list (pv 2) pe_int (fun _ _ => rfl)) pe_int) (pg_sub (pv 2) pe_int set_list)) (pss_one (ps_ret (pe_tup (pa_cons pe_str (pa_cons (pv 5) (pa_cons (pe_op op_add pe_int (pcall DT GT hr1 (pa_cons (pv 0) (pa_cons pe_int pa_nil)))) pa_nil))))))) pss_nil)
    (pss_cons (ps_if (pt_cmpR op_eq (pv 6) pe_int (nomark _))
      (pss_cons (ps_setLc (i := 8) (own := [("_law_one", 7)]) (g := gName 7) rfl nd rfl rfl (sw_true rfl rfl rfl (by decide +kernel)) (pi_list (pv 4)) (blkOk_by (N := nmScheme) (sc := defScope s_L_scheme) (by decide +kernel)) (fun _ _ _ _ _ => pg_name (i := 7) nd rfl (Or.inl rfl))
          (fun _ _ _ _ _ => pts_one (PW.pt (pw_and (pt_cmpR op_le (pe_ix (r := rIxT K) ix_tup (pv 7) pe_int (fun _ _ => rfl)) (pe_ix (r := rIxL K) ix_list (pv 2) pe_int (fun _ _ => rfl)) (nomark _)) (pw_and1 (pt_cmpR op_le (pe_ix (r := rIxT K) ix_tup (pv 7) pe_int (fun _ _ => rfl)) (pe_ix (r := rIxL K) ix_list (pv 2) pe_int (fun _ _ => rfl)) (nomark _))))))
          (fun _ _ _ _ _ => pv 7))
        (pss_one (ps_if (pt_cmpR (op_neD hr.units) (pv 8) (pe_lst pa_nil) (nomark _))
          (pss_cons (ps_set (i := 7) nd rfl (Or.inl rfl) (pe_ix ix_list (pv 8) (pcall DT GT hr1 (pa_cons (pv 0) (pa_cons (pe_callB call_len_seq rfl ml PySem.boot_len (pa_cons (pv 8) pa_nil)) pa_nil))) (fun _ _ => rfl)))
          (pss_cons (ps_asg (pe_tup (pa_cons (pe_op op_sub (pe_ix ix_list (pv 2) pe_int (fun _ _ => rfl)) (pe_ix ix_tup (pv 7) pe_int (fun _ _ => rfl))) (pa_cons (pe_op op_sub (pe_ix ix_list (pv 2) pe_int (fun _ _ => rfl)) (pe_ix ix_tup (pv 7) pe_int (fun _ _ => rfl))) pa_nil)))
              (pg_tup (by rfl) (pgs_cons (pg_sub (pv 2) pe_int set_list) (pgs_cons (pg_sub (pv 2) pe_int set_list) pgs_nil))))
          (pss_one (ps_ret (pe_tup (pa_cons pe_str (pa_cons (pe_ix ix_tup (pv 7) pe_int (fun _ _ => rfl)) pa_nil))))))) pss_nil))) pss_nil)
    (pss_cons (ps_if (pt_cmpR op_lt (pv 6) pe_int (nomark _))
      (pss_cons (ps_set (i := 9) nd rfl (Or.inl rfl) (pe_lst pa_nil))
      (pss_cons (ps_for PassesOwn.never rfl (pi_range1 rfl mr (pa_cons (pe_op op_add pe_int (pcall DT GT hr1 (pa_cons (pv 0) (pa_cons pe_int pa_nil)))) pa_nil)) (pg_name (i := 10) nd rfl (Or.inl rfl))
        (pss_one (ps_if (PW.pt (pw_and (pt_cmpR op_gt (pe_ix ix_list (pv 2) pe_int (fun _ _ => rfl)) pe_int (nomark _)) (pw_and1 (pt_cmpR op_gt (pe_ix ix_list (pv 2) pe_int (fun _ _ => rfl)) pe_int (nomark _)))))
          (pss_one (ps_expr (pe_bm PySem.F.plainAttrs_list PySem.F.slot_list_append PySem.F.type_list_append mt_append (pv 9) (pa_cons (pcall D G hr (pa_cons (pv 0) (pa_cons (pv 1) (pa_cons (pv 2) (pa_cons (pe_op op_sub (pv 3) pe_int) (pa_cons (pv 4) pa_nil)))))) pa_nil)))) pss_nil)))
      (pss_one (ps_ret (pe_tup (pa_cons (pe_ix ix_list (pe_lst (pa_cons pe_str (pa_cons pe_str pa_nil))) (pe_op op_mod (pv 6) pe_int) (fun _ _ => rfl)) (pa_cons (pe_callTy call_tuple_of rfl mt (by decide +kernel) (pa_cons (pv 9) pa_nil)) pa_nil))))))) pss_nil)
    (pss_cons (ps_if (PW.pt (pw_and (pt_cmpR op_lt (pv 6) pe_int (nomark _)) (pw_and1 (pt_cmpR op_gt (pe_ix ix_list (pv 2) pe_int (fun _ _ => rfl)) pe_int (nomark _)))))
      (pss_cons (ps_asg (pe_op op_sub (pe_ix ix_list (pv 2) pe_int (fun _ _ => rfl)) pe_int) (pg_sub (pv 2) pe_int set_list))
        (pss_one (ps_ret (pe_tup (pa_cons (pe_ix ix_list (pe_lst (pa_cons pe_str (pa_cons pe_str pa_nil))) (pe_op op_mod (pv 6) pe_int) (fun _ _ => rfl)) (pa_cons (pv 5) (pa_cons (pcall D G hr (pa_cons (pv 0) (pa_cons (pv 1) (pa_cons (pv 2) (pa_cons (pe_op op_sub (pv 3) pe_int) (pa_cons (pv 4) pa_nil)))))) pa_nil))))))) pss_nil)
    (pss_cons (ps_if (PW.pt (pw_and (pt_cmpR op_eq (pv 6) pe_int (nomark _)) (pw_and1 (pt_cmpR op_gt (pe_ix ix_list (pv 2) pe_int (fun _ _ => rfl)) pe_int (nomark _)))))
      (pss_cons (ps_asg (pe_op op_sub (pe_ix ix_list (pv 2) pe_int (fun _ _ => rfl)) pe_int) (pg_sub (pv 2) pe_int set_list))
        (pss_one (ps_ret (pe_tup (pa_cons pe_str (pa_cons (pv 5) (pa_cons (pe_op op_add pe_int (pcall DT GT hr1 (pa_cons (pv 0) (pa_cons pe_int pa_nil)))) (pa_cons (pcall D G hr (pa_cons (pv 0) (pa_cons (pv 1) (pa_cons (pv 2) (pa_cons (pe_op op_sub (pv 3) pe_int) (pa_cons (pv 4) pa_nil)))))) pa_nil)))))))) pss_nil)
    (pss_cons (ps_if (pt_cmpR op_eq (pv 6) pe_int (nomark _))
      (pss_one (ps_ret (pe_tup (pa_cons pe_str (pa_cons (pcall DT GT hr1 (pa_cons (pv 0) (pa_cons (pe_ix ix_list (pe_lst (pa_cons pe_int (pa_cons pe_int (pa_cons pe_int pa_nil)))) (pcall DT GT hr1 (pa_cons (pv 0) (pa_cons pe_int pa_nil))) (fun _ _ => rfl)) pa_nil))) (pa_cons (pcall D G hr (pa_cons (pv 0) (pa_cons (pv 1) (pa_cons (pv 2) (pa_cons (pe_op op_sub (pv 3) pe_int) (pa_cons (pv 4) pa_nil)))))) pa_nil)))))) pss_nil)
    (pss_one (ps_ret (pe_tup (pa_cons (pe_ix ix_list (pe_lst (pa_cons pe_str (pa_cons pe_str pa_nil))) (pe_op op_mod (pv 6) pe_int) (fun _ _ => rfl)) (pa_cons (pcall D G hr (pa_cons (pv 0) (pa_cons (pv 1) (pa_cons (pv 2) (pa_cons (pe_op op_sub (pv 3) pe_int) (pa_cons (pv 4) pa_nil)))))) pa_nil))))))))))))), ?_⟩
  -- left[0] = left[0] - 1
  refine ⟨_, rfl, m, _, 0, .int x, rfl, rfl, SqL.of g.left, at0, _, _, rfl, rfl, _, rfl, m, _, 0, 0, rfl, rfl, g.left, rfl, ?_⟩
  have g1 : GenAt i M ce cw (upd H m (.lst [.int (x - 1), .int y, .int z])) b l L m u F (x - 1) y z := g.put
  -- word
  refine ⟨_, rfl, _, rfl, _, rfl, L, _, rfl, .inl (SqL.of g1.lets), b, l, _, rfl, (by have := g.pos; rw [List.length_map]; omega), (by have := g.few; rw [List.length_map]; omega), g1.box, fun r1 H2 a0 a1 B2 k2 => ?_⟩
  have g2 := g1.draw k2 B2
  obtain ⟨wd, ew, hw, _⟩ := pick_word g.words a0 a1
  refine ⟨L, _, r1, .str wd, rfl, rfl, SqL.of g2.lets, ew, ?_⟩
  -- way
  refine ⟨_, rfl, b, l, 16, rfl, by decide, by decide, g2.box, fun way H3 c0 c1 B3 k3' => ?_⟩
  have g3 := g2.draw k3' B3
  have kk3 : Keep [b, l, m] H H3 := (Keep.put (by simp)).trans (k3 (k2.trans k3'))
  dsimp only [gName]
  refine seq_if (b := decide ((d : Int) = 0) || (decide (x - 1 < 2) || (decide (y < 2) || decide (way < 3)))) (ev_or (fun Q q => ⟨_, rfl, rfl, _, rfl, by rw [dec_int]; exact q⟩) (ev_or (fun Q q => ⟨_, rfl, m, _, 0, .int (x - 1), rfl, rfl, SqL.of g3.left, at0, _, _, rfl, rfl, _, rfl, q⟩)
    (ev_or (fun Q q => ⟨_, rfl, m, _, 1, .int y, rfl, rfl, SqL.of g3.left, at1, _, _, rfl, rfl, _, rfl, q⟩) (fun Q q => ⟨_, rfl, _, _, rfl, rfl, _, rfl, q⟩)))) (fun cc => ?_) (fun cc => ?_)
  · -- a step
    refine ⟨_, rfl, m, _, 1, .int y, rfl, rfl, SqL.of g3.left, at1, _, _, rfl, rfl, _, rfl, m, _, 1, 1, rfl, rfl, g3.left, rfl, ?_⟩
    have g4 : GenAt i M ce cw (upd H3 m (.lst [.int (x - 1), .int (y - 1), .int z])) b l L m u F (x - 1) (y - 1) z := g3.put
    refine ⟨_, rfl, _, rfl, b, l, 9, rfl, by decide, by decide, g4.box, fun r H5 d0 d1 B5 k5 => ?_⟩
    have g5 := g4.draw k5 B5
    refine ⟨_, _, rfl, rfl, (by show 3 ≤ sizeLine; decide), fun p hp => ?_⟩
    have g6 := g5.new (o := .tup [.str "step", .str wd, .int (1 + r)]) hp
    refine q _ (.step wd (1 + r)) _ (x - 1) (y - 1) z ⟨p, rfl, upd_same⟩ ⟨hw, by omega, by omega⟩ ?_ ?_ ?_ (by omega) (by omega) hz g6.left g6.box (kk3.trans ((Keep.put (by simp)).trans ((k3 k5).trans (Keep.new hp))))
    · show (1 : Int) = x - (x - 1)
      omega
    · show (1 : Int) = y - (y - 1)
      omega
    · show (0 : Int) = z - z
      omega
  simp only [Bool.or_eq_false_iff, decide_eq_false_iff_not] at cc
  obtain ⟨cd, cx, cy, cw'⟩ := cc
  obtain ⟨d', rfl⟩ : ∃ d', d = d' + 1 := ⟨d - 1, by omega⟩
  obtain rfl := hs d' rfl
  refine seq_if_to (b := decide (way = 3)) (fun σ' H' => ∃ v7 v8 : Option V, σ' = [some (.ref b), some (.ref L), some (.ref m), some (.int ((d' + 1 : Nat) : Int)), some (.ref u), some (.str wd), some (.int way), v7, v8, none, none] ∧ GenAt i M ce cw H' b l L m u F (x - 1) y z ∧ Keep [b, l, m] H H')
    (fun Q q => ⟨_, rfl, rfl, _, rfl, by rw [dec_int]; exact q⟩) ?_ ?_ (fun _ => ⟨none, none, rfl, g3, kk3⟩)
  · rintro σ' H4 ⟨v7, v8, rfl, g4, kk4⟩
    have recE : (.int (((d' + 1 : Nat) : Int) - 1) : V) = .int (d' : Int) := by rw [show (((d' + 1 : Nat) : Int) - 1) = (d' : Int) by omega]
    refine seq_if (b := decide (way < 9)) (fun Q q => ⟨_, rfl, _, _, rfl, rfl, _, rfl, q⟩) (fun _ => ?_) (fun c9 => ?_)
    · -- all, best
      refine ⟨Nat.zero_le _, fun kd hkd => ?_⟩
      have nkd := g4.box.ne_new hkd
      have nkm : kd ≠ m := (ne_of_none g4.left hkd).symm
      have gk := g4.new (o := .lst []) hkd
      have hkd0 : ∀ {S : List Addr} {H' : Hp} {o : HO}, Keep [b, l, m] H4 H' → Keep [b, l, m] H4 (upd H' kd o) := fun k => k.newer hkd
      have nin : kd ∉ [b, l, m] := by simp [nkd.1, nkd.2, nkm]
      refine ⟨_, rfl, b, l, 4, rfl, by decide, by decide, gk.box, fun r H5 e0 e1 B5 k5 => ?_⟩
      have g5 := gk.draw k5 B5
      refine ⟨_, _, rfl, rfl, _, rfl, by omega, by omega, ?_⟩
      refine for_range (lo := 0) (n := (1 + r).toNat) (fun k σ H' => ∃ (ks : List Sch) (vs : List V) (x' y' z' : Int) (v10 : Option V), σ = [some (.ref b), some (.ref L), some (.ref m), some (.int ((d' + 1 : Nat) : Int)), some (.ref u), some (.str wd), some (.int way), v7, v8, some (.ref kd), v10] ∧
          H' kd = some (.lst vs) ∧ Paired (SAt H' (d' + 1)) ks vs ∧ (∀ s ∈ ks, OkS i M (d' + 1) s) ∧ (ks.map (sz (d' + 1))).sum = (x - 1) - x' ∧ (ks.map (er ce (d' + 1))).sum = y - y' ∧ (ks.map (wr cw (d' + 1))).sum = z - z' ∧ 0 ≤ x' ∧ 0 ≤ y' ∧ 0 ≤ z' ∧
          ks.length ≤ k ∧ (0 < k → 0 < ks.length) ∧ (k = 0 → x' = x - 1 ∧ y' = y) ∧ GenAt i M ce cw H' b l L m u F x' y' z' ∧ Keep [b, l, m] H4 H')
        ⟨[], [], x - 1, y, z, none, rfl, k5 _ _ upd_same (by simp [nkd.1, nkd.2]), .nil, (fun _ h => nomatch h), by simp, by simp, by simp, by omega, by omega, hz, Nat.le_refl _, fun h => absurd h (Nat.lt_irrefl _), fun _ => ⟨rfl, rfl⟩, g5, (Keep.new hkd).trans (k3 k5)⟩ ?_ ?_
      · rintro k σ H' hk ⟨ks, vs, x', y', z', v10, rfl, ekd, pk, ok, s1, s2, s3, p1, p2, p3, len, pos, ini, g', kk'⟩
        refine one_if (b := decide (0 < x') && decide (0 < y')) (ev_and (fun Q q => ⟨_, rfl, m, _, 0, .int x', rfl, rfl, SqL.of g'.left, at0, _, _, rfl, rfl, _, rfl, q⟩) (fun Q q => ⟨_, rfl, m, _, 1, .int y', rfl, rfl, SqL.of g'.left, at1, _, _, rfl, rfl, _, rfl, q⟩)) (fun cc => ?_) (fun cc => ?_)
        · simp only [Bool.and_eq_true, decide_eq_true_eq] at cc
          refine ⟨_, rfl, .inl ⟨rfl, _, SqL.of ekd⟩, _, rfl, _, rfl, _, rfl, _, rfl, _, _, rfl, rfl, _, rfl, b, l, L, m, u, F, x', y', z', by rw [← recE] <;> rfl, g', by omega, by omega, p3, fun v s H6 x2 y2 z2 sa so q1 q2 q3 n1 n2 n3 el B6 k6 => ?_⟩
          have g6 := g'.move k6 B6 el
          have t6 := g'.tup k6
          refine ⟨kd, vs, v, rfl, rfl, k6 _ _ ekd nin, ?_, ?_⟩
          · have hl := Paired.length pk
            exact small1000 (by omega)
          · have g7 : GenAt i M ce cw (upd H6 kd (.lst (vs ++ [v]))) b l L m u F x2 y2 z2 := g4.move ((kk'.trans k6).newer hkd) (g6.box.put nkd.1 nkd.2) (by rw [upd_ne nkm.symm]; exact g6.left)
            have t7 : TupK H6 (upd H6 kd (.lst (vs ++ [v]))) := TupK.put (k6 _ _ ekd nin)
            refine ⟨ks ++ [s], vs ++ [v], x2, y2, z2, _, rfl, upd_same, paired_snoc (paired_imp pk fun s' v' h => SAt.keep (t6.trans t7) _ _ _ h) (SAt.keep t7 _ _ _ sa), ?_, ?_, ?_, ?_, n1, n2, n3, ?_, fun _ => by simp, fun h => absurd h (Nat.succ_ne_zero _), g7, (kk'.trans k6).newer hkd⟩
            · intro s' hs'
              rcases List.mem_append.mp hs' with h | h
              · exact ok s' h
              · rw [List.mem_singleton.mp h]
                exact so
            · simp only [List.map_append, List.sum_append, List.map_cons, List.map_nil, List.sum_cons, List.sum_nil]
              omega
            · simp only [List.map_append, List.sum_append, List.map_cons, List.map_nil, List.sum_cons, List.sum_nil]
              omega
            · simp only [List.map_append, List.sum_append, List.map_cons, List.map_nil, List.sum_cons, List.sum_nil]
              omega
            · simp only [List.length_append, List.length_cons, List.length_nil]
              omega
        · simp only [Bool.and_eq_false_iff, decide_eq_false_iff_not] at cc
          refine ⟨ks, vs, x', y', z', _, rfl, ekd, pk, ok, s1, s2, s3, p1, p2, p3, by omega, fun _ => pos ?_, fun h => absurd h (Nat.succ_ne_zero _), g', kk'⟩
          by_cases hk0 : k = 0
          · have := ini hk0
            omega
          · omega
      · rintro σ H' ⟨ks, vs, x', y', z', v10, rfl, ekd, pk, ok, s1, s2, s3, p1, p2, p3, len, pos, ini, g', kk'⟩
        have hm := Int.emod_nonneg way (show (2 : Int) ≠ 0 by decide)
        have hm2 := Int.emod_lt_of_pos way (show (0 : Int) < 2 by decide)
        refine ⟨sz2, fun T hT => ?_⟩
        have gT := g'.new (o := .lst [.str "all", .str "best"]) hT
        refine ⟨_, rfl, _, _, rfl, rfl, (by show (0 : Int) < 2; decide), T, _, way % 2, _, rfl, rfl, SqL.of upd_same, pick_name hm hm2, ?_⟩
        have nkT : kd ≠ T := ne_of_none ekd hT
        have ekT : upd H' T (.lst [.str "all", .str "best"]) kd = some (.lst vs) := by rw [upd_ne nkT]; exact ekd
        refine ⟨_, rfl, kd, vs, rfl, .inl ⟨SqL.of ekT, fun t ht => ?_⟩⟩
        have gt := gT.new (o := .tup vs) ht
        refine ⟨sz2, fun p hp => ?_⟩
        have tt : TupK H' (upd (upd (upd H' T (.lst [.str "all", .str "best"])) t (.tup vs)) p (.tup [.str (if way % 2 = 0 then "all" else "best"), .ref t])) := (TupK.new hT).trans ((TupK.new ht).trans (TupK.new hp))
        have gp := gt.new (o := .tup [.str (if way % 2 = 0 then "all" else "best"), .ref t]) hp
        have kp : Keep [b, l, m] H (upd (upd (upd H' T (.lst [.str "all", .str "best"])) t (.tup vs)) p (.tup [.str (if way % 2 = 0 then "all" else "best"), .ref t])) := kk4.trans (kk'.trans ((Keep.new hT).trans ((Keep.new ht).trans (Keep.new hp))))
        have et : (upd (upd (upd H' T (.lst [.str "all", .str "best"])) t (.tup vs)) p (.tup [.str (if way % 2 = 0 then "all" else "best"), .ref t])) t = some (.tup vs) := by rw [upd_ne (ne_of_none upd_same hp)]; exact upd_same
        have pk' := paired_imp pk fun s' v' h => SAt.keep tt _ _ _ h
        have hlen : 0 < ks.length ∧ ks.length ≤ 4 := ⟨pos (by omega), by omega⟩
        by_cases hw2 : way % 2 = 0
        · refine q _ (.all ks) _ x' y' z' ⟨p, t, vs, rfl, by rw [upd_same, if_pos hw2], et, pk'⟩ ⟨hlen.1, hlen.2, ok⟩ ?_ ?_ ?_ p1 p2 p3 gp.left gp.box kp
          · show 1 + (ks.map (sz (d' + 1))).sum = x - x'
            omega
          · exact s2
          · exact s3
        · refine q _ (.best ks) _ x' y' z' ⟨p, t, vs, rfl, by rw [upd_same, if_neg hw2], et, pk'⟩ ⟨hlen.1, hlen.2, ok⟩ ?_ ?_ ?_ p1 p2 p3 gp.left gp.box kp
          · show 1 + (ks.map (sz (d' + 1))).sum = x - x'
            omega
          · exact s2
          · exact s3
    have hm := Int.emod_nonneg way (show (2 : Int) ≠ 0 by decide)
    have hm2 := Int.emod_lt_of_pos way (show (0 : Int) < 2 by decide)
    refine seq_if (b := decide (way < 12) && decide (0 < z)) (ev_and (fun Q q => ⟨_, rfl, _, _, rfl, rfl, _, rfl, q⟩) (fun Q q => ⟨_, rfl, m, _, 2, .int z, rfl, rfl, SqL.of g4.left, at2, _, _, rfl, rfl, _, rfl, q⟩)) (fun cc => ?_) (fun c12 => ?_)
    · -- seen, behind
      simp only [Bool.and_eq_true, decide_eq_true_eq] at cc
      refine ⟨_, rfl, m, _, 2, .int z, rfl, rfl, SqL.of g4.left, at2, _, _, rfl, rfl, _, rfl, m, _, 2, 2, rfl, rfl, g4.left, rfl, ?_⟩
      have g5 : GenAt i M ce cw (upd H4 m (.lst [.int (x - 1), .int y, .int (z - 1)])) b l L m u F (x - 1) y (z - 1) := g4.put
      refine ⟨sz2, fun T hT => ?_⟩
      have g6 := g5.new (o := .lst [.str "seen", .str "behind"]) hT
      refine ⟨_, rfl, _, _, rfl, rfl, (by show (0 : Int) < 2; decide), T, _, way % 2, _, rfl, rfl, SqL.of upd_same, pick_name hm hm2, ?_⟩
      refine ⟨_, rfl, _, rfl, _, rfl, _, rfl, _, rfl, _, _, rfl, rfl, _, rfl, b, l, L, m, u, F, x - 1, y, z - 1, by rw [← recE] <;> rfl, g6, by omega, by omega, by omega, fun v s H6 x2 y2 z2 sa so q1 q2 q3 n1 n2 n3 el B6 k6 => ?_⟩
      have g7 := g6.move k6 B6 el
      refine ⟨(by show 3 ≤ sizeLine; decide), fun p hp => ?_⟩
      have tp : TupK H6 (upd H6 p (.tup [.str (if way % 2 = 0 then "seen" else "behind"), .str wd, v])) := TupK.new hp
      have g8 := g7.new (o := .tup [.str (if way % 2 = 0 then "seen" else "behind"), .str wd, v]) hp
      have kp : Keep [b, l, m] H (upd H6 p (.tup [.str (if way % 2 = 0 then "seen" else "behind"), .str wd, v])) := kk4.trans ((Keep.put (by simp)).trans ((Keep.new hT).trans (k6.trans (Keep.new hp))))
      by_cases hw2 : way % 2 = 0
      · refine q _ (.seen wd s) _ x2 y2 z2 ⟨p, v, rfl, by rw [upd_same, if_pos hw2], SAt.keep tp _ _ _ sa⟩ ⟨hw, so⟩ ?_ ?_ ?_ n1 n2 n3 g8.left g8.box kp
        · show 1 + sz (d' + 1) s = x - x2
          omega
        · exact q2
        · show 1 + wr cw (d' + 1) s = z - z2
          omega
      · refine q _ (.behind wd s) _ x2 y2 z2 ⟨p, v, rfl, by rw [upd_same, if_neg hw2], SAt.keep tp _ _ _ sa⟩ ⟨hw, so⟩ ?_ ?_ ?_ n1 n2 n3 g8.left g8.box kp
        · show 1 + sz (d' + 1) s = x - x2
          omega
        · exact q2
        · show 1 + wr cw (d' + 1) s = z - z2
          omega
    refine seq_if (b := decide (way = 12) && decide (1 < y)) (ev_and (fun Q q => ⟨_, rfl, rfl, _, rfl, by rw [dec_int]; exact q⟩) (fun Q q => ⟨_, rfl, m, _, 1, .int y, rfl, rfl, SqL.of g4.left, at1, _, _, rfl, rfl, _, rfl, q⟩)) (fun cc => ?_) (fun c13 => ?_)
    · -- end
      simp only [Bool.and_eq_true, decide_eq_true_eq] at cc
      refine ⟨_, rfl, m, _, 1, .int y, rfl, rfl, SqL.of g4.left, at1, _, _, rfl, rfl, _, rfl, m, _, 1, 1, rfl, rfl, g4.left, rfl, ?_⟩
      have g5 : GenAt i M ce cw (upd H4 m (.lst [.int (x - 1), .int (y - 1), .int z])) b l L m u F (x - 1) (y - 1) z := g4.put
      refine ⟨_, rfl, _, rfl, b, l, 9, rfl, by decide, by decide, g5.box, fun r H5 d0 d1 B5 k5 => ?_⟩
      have g6 := g5.draw k5 B5
      refine ⟨_, _, rfl, rfl, ?_⟩
      refine ⟨_, rfl, _, rfl, _, rfl, _, rfl, _, _, rfl, rfl, _, rfl, b, l, L, m, u, F, x - 1, y - 1, z, by rw [← recE] <;> rfl, g6, by omega, by omega, hz, fun v s H6 x2 y2 z2 sa so q1 q2 q3 n1 n2 n3 el B6 k6 => ?_⟩
      have g7 := g6.move k6 B6 el
      refine ⟨(by show 4 ≤ sizeLine; decide), fun p hp => ?_⟩
      have g8 := g7.new (o := .tup [.str "end", .str wd, .int (1 + r), v]) hp
      refine q _ (.fin wd (1 + r) s) _ x2 y2 z2 ⟨p, v, rfl, upd_same, SAt.keep (TupK.new hp) _ _ _ sa⟩ ⟨⟨hw, by omega, by omega⟩, so⟩ ?_ ?_ q3 n1 n2 n3 g8.left g8.box (kk4.trans ((Keep.put (by simp)).trans ((k3 k5).trans (k6.trans (Keep.new hp)))))
      · show 1 + sz (d' + 1) s = x - x2
        omega
      · show 1 + er ce (d' + 1) s = y - y2
        omega
    refine seq_if (b := decide (way = 13)) (fun Q q => ⟨_, rfl, rfl, _, rfl, by rw [dec_int]; exact q⟩) (fun _ => ?_) (fun _ => ?_)
    · -- most
      refine ⟨_, rfl, (by show 3 ≤ sizeLine; decide), fun T hT => ?_⟩
      have g5 := g4.new (o := .lst [.int 4, .int 12, .int 31]) hT
      refine ⟨_, rfl, b, l, 3, rfl, by decide, by decide, g5.box, fun r H5 d0 d1 B5 k5 => ?_⟩
      have g6 := g5.draw k5 B5
      have eT := k5 _ _ upd_same (g4.box.nin hT)
      obtain ⟨mm, em, mb⟩ : ∃ mm : Int, atI [V.int 4, V.int 12, V.int 31] r = some (.int mm) ∧ (0 < mm ∧ mm ≤ 31) := by
        have e : r = 0 ∨ r = 1 ∨ r = 2 := by omega
        rcases e with rfl | rfl | rfl
        · exact ⟨4, at0, by decide⟩
        · exact ⟨12, at1, by decide⟩
        · exact ⟨31, at2, by decide⟩
      refine ⟨T, _, r, .int mm, rfl, rfl, SqL.of eT, em, b, l, mm, rfl, mb.1, by omega, g6.box, fun r2 H6 f0 f1 B6 k6 => ?_⟩
      have g7 := g6.draw k6 B6
      refine ⟨_, rfl, _, rfl, _, rfl, _, rfl, _, _, rfl, rfl, _, rfl, b, l, L, m, u, F, x - 1, y, z, by rw [← recE] <;> rfl, g7, by omega, by omega, hz, fun v s H7 x2 y2 z2 sa so q1 q2 q3 n1 n2 n3 el B7 k7 => ?_⟩
      have g8 := g7.move k7 B7 el
      refine ⟨(by show 3 ≤ sizeLine; decide), fun p hp => ?_⟩
      have g9 := g8.new (o := .tup [.str "most", .int r2, v]) hp
      refine q _ (.most r2 s) _ x2 y2 z2 ⟨p, v, rfl, upd_same, SAt.keep (TupK.new hp) _ _ _ sa⟩ ⟨⟨f0, by omega⟩, so⟩ ?_ q2 q3 n1 n2 n3 g9.left g9.box (kk4.trans ((Keep.new hT).trans ((k3 (k5.trans k6)).trans (k7.trans (Keep.new hp)))))
      show 1 + sz (d' + 1) s = x - x2
      omega
    -- half, carry
    refine ⟨sz2, fun T hT => ?_⟩
    have g6 := g4.new (o := .lst [.str "half", .str "carry"]) hT
    refine ⟨_, rfl, _, _, rfl, rfl, (by show (0 : Int) < 2; decide), T, _, way % 2, _, rfl, rfl, SqL.of upd_same, pick_name hm hm2, ?_⟩
    refine ⟨_, rfl, _, rfl, _, rfl, _, rfl, _, _, rfl, rfl, _, rfl, b, l, L, m, u, F, x - 1, y, z, by rw [← recE] <;> rfl, g6, by omega, by omega, hz, fun v s H6 x2 y2 z2 sa so q1 q2 q3 n1 n2 n3 el B6 k6 => ?_⟩
    have g7 := g6.move k6 B6 el
    refine ⟨sz2, fun p hp => ?_⟩
    have tp : TupK H6 (upd H6 p (.tup [.str (if way % 2 = 0 then "half" else "carry"), v])) := TupK.new hp
    have g8 := g7.new (o := .tup [.str (if way % 2 = 0 then "half" else "carry"), v]) hp
    have kp : Keep [b, l, m] H (upd H6 p (.tup [.str (if way % 2 = 0 then "half" else "carry"), v])) := kk4.trans ((Keep.new hT).trans (k6.trans (Keep.new hp)))
    by_cases hw2 : way % 2 = 0
    · refine q _ (.half s) _ x2 y2 z2 ⟨p, v, rfl, by rw [upd_same, if_pos hw2], SAt.keep tp _ _ _ sa⟩ so ?_ q2 q3 n1 n2 n3 g8.left g8.box kp
      show 1 + sz (d' + 1) s = x - x2
      omega
    · refine q _ (.carry s) _ x2 y2 z2 ⟨p, v, rfl, by rw [upd_same, if_neg hw2], SAt.keep tp _ _ _ sa⟩ so ?_ q2 q3 n1 n2 n3 g8.left g8.box kp
      show 1 + sz (d' + 1) s = x - x2
      omega
  · -- a use
    intro _ rest
    obtain ⟨js, uv, eu, jl, jr, pu⟩ := g3.uses
    have gu : UAt H3 i M ce cw u := ⟨js, uv, eu, jl, jr, pu⟩
    have ul := Paired.length pu
    refine ⟨_, rfl, u, rfl, ⟨_, SqL.of eu⟩, fun Dd hD => ?_⟩
    have nuD : u ≠ Dd := ne_of_none eu hD
    refine lc_list (K := K) (a := u) (xs := uv) (fun k H'' => ∃ (js' : List Nat) (vs' : List V), H'' = upd H3 Dd (.lst vs') ∧ js'.length ≤ k ∧ (∀ j ∈ js', j ∈ js ∧ ce j ≤ y ∧ cw j ≤ z) ∧ Paired (fun j v => ∃ t, v = V.ref t ∧ H3 t = some (.tup [.int ((j : Nat) : Int), .int (ce j), .int (cw j)])) js' vs')
      ⟨[], [], rfl, Nat.le_refl _, (fun _ h => nomatch h), .nil⟩ (fun k H'' _ ⟨_, _, e, _⟩ => by rw [e]; exact SqL.of (by rw [upd_ne nuD]; exact eu)) ?_ ?_
    · rintro k xk H'' hk ⟨js', vs', rfl, l', sub, pu'⟩
      obtain ⟨j, ej, t, rfl, et⟩ := paired_get' pu hk
      have et' : upd H3 Dd (.lst vs') t = some (.tup [.int ((j : Nat) : Int), .int (ce j), .int (cw j)]) := by rw [upd_ne (ne_of_none et hD)]; exact et
      have em : upd H3 Dd (.lst vs') m = some (.lst [.int (x - 1), .int y, .int z]) := (g3.new hD).left
      refine ⟨rfl, ev_and (b := decide (ce j ≤ y)) (c := decide (cw j ≤ z)) (fun Q q => ⟨_, rfl, t, _, 1, .int (ce j), rfl, rfl, SqT.of et', at1, _, rfl, m, _, 1, .int y, rfl, rfl, SqL.of em, at1, _, _, rfl, rfl, _, rfl, q⟩)
        (fun Q q => ⟨_, rfl, t, _, 2, .int (cw j), rfl, rfl, SqT.of et', at2, _, rfl, m, _, 2, .int z, rfl, rfl, SqL.of em, at2, _, _, rfl, rfl, _, rfl, q⟩) _ ?_⟩
      have lv := Paired.length pu'
      have hkl := (List.getElem?_eq_some_iff.mp hk).1
      refine ite2 (fun c => ?_) (fun c => ?_)
      · simp only [Bool.and_eq_true, decide_eq_true_eq] at c
        refine ⟨_, rfl, vs', upd_same, small1000 (by omega), js' ++ [j], vs' ++ [.ref t], upd_upd, by simp only [List.length_append, List.length_cons, List.length_nil]; omega, fun j' hj' => ?_, paired_snoc pu' ⟨t, rfl, et⟩⟩
        rcases List.mem_append.mp hj' with h | h
        · exact sub j' h
        · rw [List.mem_singleton.mp h]
          exact ⟨List.mem_of_getElem? ej, c⟩
      · exact ⟨js', vs', rfl, by omega, sub, pu'⟩
    · rintro H'' ⟨js', vs', rfl, l', sub, pu'⟩
      have lv := Paired.length pu'
      have g4 := g3.new (o := .lst vs') hD
      have kk4 : Keep [b, l, m] H (upd H3 Dd (.lst vs')) := kk3.trans (Keep.new hD)
      dsimp only [gName]
      refine ⟨_, rfl, Nat.zero_le _, fun p hp => ?_⟩
      have g5 := g4.new (o := .lst []) hp
      have nDp : Dd ≠ p := ne_of_none upd_same hp
      have eD : upd (upd H3 Dd (.lst vs')) p (.lst []) Dd = some (.lst vs') := by rw [upd_ne nDp]; exact upd_same
      have kk5 : Keep [b, l, m] H (upd (upd H3 Dd (.lst vs')) p (.lst [])) := kk4.trans (Keep.new hp)
      have tk5 : TupK H3 (upd (upd H3 Dd (.lst vs')) p (.lst [])) := (TupK.new hD).trans (TupK.new hp)
      have pu5 : Paired (fun (j : Nat) (v : V) => ∃ t, v = V.ref t ∧ (upd (upd H3 Dd (.lst vs')) p (.lst [])) t = some (HO.tup [.int ((j : Nat) : Int), .int (ce j), .int (cw j)])) js' vs' := paired_imp pu' fun j v ⟨t, e1, e2⟩ => ⟨t, e1, tk5 _ _ e2⟩
      have dp : ∀ {js' : List Nat} {vs' : List V} {Hx : Hp}, Paired (fun j v => ∃ t, v = V.ref t ∧ Hx t = some (.tup [.int ((j : Nat) : Int), .int (ce j), .int (cw j)])) js' vs' → DpAll K Hx vs' (js'.map fun j => .tuple [.int ((j : Nat) : Int), .int (ce j), .int (cw j)]) := by
        intro js' vs' Hx h
        induction h with
        | nil => exact .nil
        | cons h1 _ ih =>
          obtain ⟨t, rfl, e⟩ := h1
          exact .cons (.tup (SqT.of e) (.cons (.int _) (.cons (.int _) (.cons (.int _) .nil)))) ih
      refine ⟨.list (js'.map fun j => .tuple [.int ((j : Nat) : Int), .int (ce j), .int (cw j)]), .list [], .lst (SqL.of eD) (dp pu5), .lst (SqL.of upd_same) .nil, (ShN.lst (n := 1) (ShAll.of fun dd h => ?_)).ok (by decide), rfl, _, rfl, ?_⟩
      · obtain ⟨j, _, rfl⟩ := List.mem_map.mp h
        exact ShN.tup (.cons (.int _) (.cons (.int _) (.cons (.int _) .nil)))
      refine ite2 (fun c => ?_) (fun c => ?_)
      · have hne : 0 < vs'.length := by
          cases js' with
          | nil => exact absurd c (by simp [PyData.eqv, PyData.eqvAll])
          | cons a r => rw [← lv]; exact Nat.succ_pos _
        refine ⟨_, rfl, _, rfl, _, rfl, Dd, _, rfl, .inl (SqL.of eD), b, l, _, rfl, by omega, by omega, g5.box, fun r H6 a0 a1 B6 k6 => ?_⟩
        have g6 := g5.draw k6 B6
        have eD6 := k6 _ _ eD (g3.box.nin hD)
        have hr' : r.toNat < vs'.length := by omega
        have ev : vs'[r.toNat]? = some (vs'[r.toNat]'hr') := List.getElem?_eq_getElem hr'
        obtain ⟨j, ej, t, et0, et⟩ := paired_get' pu5 ev
        have ht6 := g5.tup (k3 k6) _ _ et
        refine ⟨Dd, _, r, .ref t, rfl, rfl, SqL.of eD6, atI_of a0 (by rw [ev, et0]), ?_⟩
        obtain ⟨jin, j1, j2⟩ := sub j (List.mem_of_getElem? ej)
        refine ⟨_, rfl, m, _, 1, .int y, rfl, rfl, SqL.of g6.left, at1, _, rfl, t, _, 1, .int (ce j), rfl, rfl, SqT.of ht6, at1, _, _, rfl, rfl, ?_⟩
        refine ⟨_, rfl, m, _, 2, .int z, rfl, rfl, SqL.of g6.left, at2, _, rfl, t, _, 2, .int (cw j), rfl, rfl, SqT.of ht6, at2, _, _, rfl, rfl, ?_⟩
        refine ⟨sz2, fun T hT => ?_⟩
        have g7 := g6.new (o := .tup [.int (y - ce j), .int (z - cw j)]) hT
        refine ⟨T, _, rfl, SqT.of upd_same, rfl, _, _, rfl, _, rfl, m, _, 1, 1, rfl, rfl, g7.left, rfl, _, _, rfl, _, rfl, m, _, 2, 2, rfl, rfl, upd_same, rfl, rfl, ?_⟩
        have g7a : GenAt i M ce cw (upd (upd H6 T (.tup [.int (y - ce j), .int (z - cw j)])) m (.lst [.int (x - 1), .int (y - ce j), .int z])) b l L m u F (x - 1) (y - ce j) z := g7.put
        have g8 : GenAt i M ce cw (upd (upd (upd H6 T (.tup [.int (y - ce j), .int (z - cw j)])) m (.lst [.int (x - 1), .int (y - ce j), .int z])) m (.lst [.int (x - 1), .int (y - ce j), .int (z - cw j)])) b l L m u F (x - 1) (y - ce j) (z - cw j) := g7a.put
        have ht8 : (upd (upd (upd H6 T (.tup [.int (y - ce j), .int (z - cw j)])) m (.lst [.int (x - 1), .int (y - ce j), .int z])) m (.lst [.int (x - 1), .int (y - ce j), .int (z - cw j)])) t = some (.tup [.int ((j : Nat) : Int), .int (ce j), .int (cw j)]) := (TupK.put g7a.left) _ _ ((TupK.put g7.left) _ _ ((TupK.new hT) _ _ ht6))
        refine ⟨_, rfl, t, _, 0, .int ((j : Nat) : Int), rfl, rfl, SqT.of ht8, at0, sz2, fun p2 hp2 => ?_⟩
        have g9 := g8.new (o := .tup [.str "use", .int ((j : Nat) : Int)]) hp2
        refine q _ (.use j) _ (x - 1) (y - ce j) (z - cw j) ⟨p2, rfl, upd_same⟩ (jr j jin) ?_ ?_ ?_ (by omega) (by omega) (by omega) g9.left g9.box (kk5.trans ((k3 k6).trans ((Keep.new hT).trans ((Keep.put (by simp)).trans ((Keep.put (by simp)).trans (Keep.new hp2))))))
        · show (1 : Int) = x - (x - 1)
          omega
        · show ce j = y - (y - ce j)
          omega
        · show cw j = z - (z - cw j)
          omega
      · exact rest _ _ ⟨none, some (.ref Dd), rfl, g5, kk5⟩
end
end MS
end
section
set_option maxRecDepth 100000
set_option maxHeartbeats 4000000
namespace MS
open PySem L2
section
variable {P : Program} {w : World} {K : PySem.W.Frag} {mg : Str → Option Value} {base : Heap}
theorem no_sp {k : Nat} {f : Addr} {fd : FuncData} {ps : List Str} : FnOk P w K mg base CX0 k f fd ps (fun _ _ _ _ => False) := ⟨fun vs H Q E h => h.elim, fun A outer s H args us vs Q E _ _ _ _ h => h.elim⟩
theorem ok_scheme {i M : Nat} {ce cw : Nat → Int} (D : Def K mg "_law_scheme" s_L_scheme psScheme) (DT : Def K mg "_law_take" s_L_take ["_law_box", "_law_many"]) (ml : mg "len" = none) (mr : mg "range" = none) (mt : mg "tuple" = none) :
    ∀ d : Nat, FnOk P w K mg base CX0 (d + 2) D.f D.fd psScheme (spScheme i M ce cw d)
  | 0 => scheme_turn D DT ml mr mt (sp' := fun _ _ _ _ => False) no_sp fun d' h => by omega
  | d + 1 => scheme_turn D DT ml mr mt (ok_scheme D DT ml mr mt d) fun d' h => by
      have e : d = d' := by omega
      rw [e]
end
/-! ### counts -/
/-- all later schemes are told -/
def UFull (H : Hp) (i M : Nat) (ce cw : Nat → Int) (u : Addr) : Prop := ∃ (js : List Nat) (vs : List V), H u = some (.lst vs) ∧ js.length ≤ 5 ∧ (∀ j, i < j → j < M → j ∈ js) ∧
  Paired (fun j v => ∃ t, v = V.ref t ∧ H t = some (.tup [.int ((j : Nat) : Int), .int (ce j), .int (cw j)])) js vs
theorem UFull.keep {H H' : Hp} {i M : Nat} {ce cw : Nat → Int} {u : Addr} (h : UFull H i M ce cw u) (k : Same H H') : UFull H' i M ce cw u := by
  obtain ⟨js, vs, e, l, r, p⟩ := h
  exact ⟨js, vs, k _ _ e, l, r, paired_imp p fun j v ⟨t, e1, e2⟩ => ⟨t, e1, k _ _ e2⟩⟩
theorem Same.tupK {H H' : Hp} (k : Same H H') : TupK H H' := fun a xs e => k a _ e
/-- what a value within a scheme counts -/
def KidR (i M : Nat) (ce cw : Nat → Int) (H : Hp) (d : Nat) (p : Int × Int) (v : V) : Prop := (∃ n, v = .int n ∧ p = (0, 0)) ∨ ∃ s, SAt H d s v ∧ OkS i M d s ∧ p = (er ce d s, wr cw d s)
def isAB (nm : Str) : Bool := inV (.str nm) [.str "all", .str "best"]
def n0 (nm : Str) : Int := if inV (.str nm) [.str "step", .str "end"] then 1 else 0
def n1 (nm : Str) : Int := if inV (.str nm) [.str "seen", .str "behind"] then 1 else 0
structure KidsOf (i M : Nat) (ce cw : Nat → Int) (H : Hp) (d : Nat) (nm : Str) (rest : List V) (e w : Int) : Prop where
  no : nm ≠ "use"
  kids : (isAB nm = true ∧ ∃ (b : Addr) (vs : List V) (ps : List (Int × Int)), rest = [.ref b] ∧ H b = some (.tup vs) ∧ Paired (KidR i M ce cw H d) ps vs ∧ e = n0 nm + (ps.map (·.1)).sum ∧ w = n1 nm + (ps.map (·.2)).sum) ∨
    (isAB nm = false ∧ ∃ (u : V) (p : Int × Int), cutV (.str nm :: rest) (some (-1)) none = [u] ∧ ¬ (HT.sIx (V.str nm :: rest).length 0 (some (-1)) = 0 ∧ HT.sIx (V.str nm :: rest).length (V.str nm :: rest).length none = (V.str nm :: rest).length) ∧ KidR i M ce cw H d p u ∧ e = n0 nm + p.1 ∧ w = n1 nm + p.2)
theorem kid_list {i M : Nat} {ce cw : Nat → Int} {H : Hp} {d : Nat} : ∀ {ks : List Sch} {vs : List V}, Paired (SAt H d) ks vs → (∀ s ∈ ks, OkS i M d s) → Paired (KidR i M ce cw H d) (ks.map fun s => (er ce d s, wr cw d s)) vs
  | _, _, .nil, _ => .nil
  | _, _, .cons r t, h => .cons (.inr ⟨_, r, h _ List.mem_cons_self, rfl⟩) (kid_list t fun s hs => h s (List.mem_cons_of_mem _ hs))
theorem SAt.view {i M : Nat} {ce cw : Nat → Int} {H : Hp} {d : Nat} {s : Sch} {v : V} (h : SAt H (d + 1) s v) (o : OkS i M (d + 1) s) :
    (∃ a j, v = .ref a ∧ s = .use j ∧ H a = some (.tup [.str "use", .int ((j : Nat) : Int)])) ∨
    ∃ a nm rest, v = .ref a ∧ H a = some (.tup (.str nm :: rest)) ∧ KidsOf i M ce cw H d nm rest (er ce (d + 1) s) (wr cw (d + 1) s) := by
  cases s with
  | step x p =>
    obtain ⟨a, rfl, e⟩ := h
    exact .inr ⟨a, "step", _, rfl, e, by decide +kernel, .inr ⟨by decide +kernel, .int p, (0, 0), rfl, (by show ¬ (HT.sIx 3 0 (some (-1)) = 0 ∧ HT.sIx 3 3 none = 3); decide), .inl ⟨p, rfl, rfl⟩, by show (1 : Int) = n0 "step" + 0; decide +kernel, by show (0 : Int) = n1 "step" + 0; decide +kernel⟩⟩
  | all k =>
    obtain ⟨a, b, vs, rfl, e, e2, pk⟩ := h
    refine .inr ⟨a, "all", _, rfl, e, by decide +kernel, .inl ⟨by decide +kernel, b, vs, _, rfl, e2, kid_list pk o.2.2, ?_, ?_⟩⟩
    · rw [List.map_map, show n0 "all" = 0 by decide +kernel, Int.zero_add]; rfl
    · rw [List.map_map, show n1 "all" = 0 by decide +kernel, Int.zero_add]; rfl
  | best k =>
    obtain ⟨a, b, vs, rfl, e, e2, pk⟩ := h
    refine .inr ⟨a, "best", _, rfl, e, by decide +kernel, .inl ⟨by decide +kernel, b, vs, _, rfl, e2, kid_list pk o.2.2, ?_, ?_⟩⟩
    · rw [List.map_map, show n0 "best" = 0 by decide +kernel, Int.zero_add]; rfl
    · rw [List.map_map, show n1 "best" = 0 by decide +kernel, Int.zero_add]; rfl
  | most n s =>
    obtain ⟨a, u, rfl, e, hs⟩ := h
    refine .inr ⟨a, "most", _, rfl, e, by decide +kernel, .inr ⟨by decide +kernel, u, _, rfl, (by show ¬ (HT.sIx 3 0 (some (-1)) = 0 ∧ HT.sIx 3 3 none = 3); decide), .inr ⟨s, hs, o.2, rfl⟩, ?_, ?_⟩⟩
    · rw [show n0 "most" = 0 by decide +kernel, Int.zero_add]; rfl
    · rw [show n1 "most" = 0 by decide +kernel, Int.zero_add]; rfl
  | half s =>
    obtain ⟨a, u, rfl, e, hs⟩ := h
    refine .inr ⟨a, "half", _, rfl, e, by decide +kernel, .inr ⟨by decide +kernel, u, _, rfl, (by show ¬ (HT.sIx 2 0 (some (-1)) = 0 ∧ HT.sIx 2 2 none = 2); decide), .inr ⟨s, hs, o, rfl⟩, ?_, ?_⟩⟩
    · rw [show n0 "half" = 0 by decide +kernel, Int.zero_add]; rfl
    · rw [show n1 "half" = 0 by decide +kernel, Int.zero_add]; rfl
  | seen x s =>
    obtain ⟨a, u, rfl, e, hs⟩ := h
    refine .inr ⟨a, "seen", _, rfl, e, by decide +kernel, .inr ⟨by decide +kernel, u, _, rfl, (by show ¬ (HT.sIx 3 0 (some (-1)) = 0 ∧ HT.sIx 3 3 none = 3); decide), .inr ⟨s, hs, o.2, rfl⟩, ?_, ?_⟩⟩
    · rw [show n0 "seen" = 0 by decide +kernel, Int.zero_add]; rfl
    · rw [show n1 "seen" = 1 by decide +kernel]; rfl
  | behind x s =>
    obtain ⟨a, u, rfl, e, hs⟩ := h
    refine .inr ⟨a, "behind", _, rfl, e, by decide +kernel, .inr ⟨by decide +kernel, u, _, rfl, (by show ¬ (HT.sIx 3 0 (some (-1)) = 0 ∧ HT.sIx 3 3 none = 3); decide), .inr ⟨s, hs, o.2, rfl⟩, ?_, ?_⟩⟩
    · rw [show n0 "behind" = 0 by decide +kernel, Int.zero_add]; rfl
    · rw [show n1 "behind" = 1 by decide +kernel]; rfl
  | carry s =>
    obtain ⟨a, u, rfl, e, hs⟩ := h
    refine .inr ⟨a, "carry", _, rfl, e, by decide +kernel, .inr ⟨by decide +kernel, u, _, rfl, (by show ¬ (HT.sIx 2 0 (some (-1)) = 0 ∧ HT.sIx 2 2 none = 2); decide), .inr ⟨s, hs, o, rfl⟩, ?_, ?_⟩⟩
    · rw [show n0 "carry" = 0 by decide +kernel, Int.zero_add]; rfl
    · rw [show n1 "carry" = 0 by decide +kernel, Int.zero_add]; rfl
  | fin x p s =>
    obtain ⟨a, u, rfl, e, hs⟩ := h
    refine .inr ⟨a, "end", _, rfl, e, by decide +kernel, .inr ⟨by decide +kernel, u, _, rfl, (by show ¬ (HT.sIx 4 0 (some (-1)) = 0 ∧ HT.sIx 4 4 none = 4); decide), .inr ⟨s, hs, o.2, rfl⟩, ?_, ?_⟩⟩
    · rw [show n0 "end" = 1 by decide +kernel]; rfl
    · rw [show n1 "end" = 0 by decide +kernel, Int.zero_add]; rfl
  | use n =>
    obtain ⟨a, rfl, e⟩ := h
    exact .inl ⟨a, n, rfl, rfl, e⟩
theorem KidR.keep {i M : Nat} {ce cw : Nat → Int} {H H' : Hp} {d : Nat} {p : Int × Int} {v : V} (h : KidR i M ce cw H d p v) (k : TupK H H') : KidR i M ce cw H' d p v := by
  rcases h with h | ⟨s, h1, h2⟩
  · exact .inl h
  · exact .inr ⟨s, SAt.keep k _ _ _ h1, h2⟩
theorem KidsOf.keep {i M : Nat} {ce cw : Nat → Int} {H H' : Hp} {d : Nat} {nm : Str} {rest : List V} {e w : Int} (h : KidsOf i M ce cw H d nm rest e w) (k : TupK H H') : KidsOf i M ce cw H' d nm rest e w := by
  refine ⟨h.no, ?_⟩
  rcases h.kids with ⟨hb, b, vs, ps, e1, eb, pk, ee, ew⟩ | ⟨hb, u, p, eu, nw, hk, ee, ew⟩
  · exact .inl ⟨hb, b, vs, ps, e1, k _ _ eb, paired_imp pk fun _ _ z => z.keep k, ee, ew⟩
  · exact .inr ⟨hb, u, p, eu, nw, hk.keep k, ee, ew⟩
theorem SAt.ref {H : Hp} {d : Nat} {s : Sch} {v : V} (h : SAt H d s v) : ∃ a xs, v = .ref a ∧ H a = some (.tup xs) := by
  cases d with
  | zero => cases h
  | succ d =>
    cases s with
    | step x p => obtain ⟨a, e, h⟩ := h; exact ⟨a, _, e, h⟩
    | all k => obtain ⟨a, b, vs, e, h, _⟩ := h; exact ⟨a, _, e, h⟩
    | best k => obtain ⟨a, b, vs, e, h, _⟩ := h; exact ⟨a, _, e, h⟩
    | most n s => obtain ⟨a, u, e, h, _⟩ := h; exact ⟨a, _, e, h⟩
    | half s => obtain ⟨a, u, e, h, _⟩ := h; exact ⟨a, _, e, h⟩
    | seen x s => obtain ⟨a, u, e, h, _⟩ := h; exact ⟨a, _, e, h⟩
    | behind x s => obtain ⟨a, u, e, h, _⟩ := h; exact ⟨a, _, e, h⟩
    | carry s => obtain ⟨a, u, e, h, _⟩ := h; exact ⟨a, _, e, h⟩
    | fin x p s => obtain ⟨a, u, e, h, _⟩ := h; exact ⟨a, _, e, h⟩
    | use n => obtain ⟨a, e, h⟩ := h; exact ⟨a, _, e, h⟩
/-- what the laws' walks go through within a scheme -/
def tKids (K : PySem.W.Frag) : TE := tIf (tTest (tOp (rIn K false) (tOp (rIxT K) (tVar 0) (tC (.int 0))) (tTup (tCons (tC (.str "all")) (tCons (tC (.str "best")) tNil))))) (tOp (rIxT K) (tVar 0) (tC (.int 1)))
  (tSl (rSlA K) (tVar 0) (tPart (tUn (rU fun i => .int (-i)) (tC (.int 1)))) tNoPart)
theorem kids_ev {K : PySem.W.Frag} {i M : Nat} {ce cw : Nat → Int} {σ : St} {H : Hp} {d : Nat} {a : Addr} {nm : Str} {rest : List V} {e w : Int} {Q : VK} (s0 : σ[0]? = some (some (.ref a))) (ea : H a = some (.tup (.str nm :: rest))) (k : KidsOf i M ce cw H d nm rest e w)
    (h : ∀ (kd : Addr) (kv : List V) (ps : List (Int × Int)) (H1 : Hp), Same H H1 → H1 kd = some (.tup kv) → Paired (KidR i M ce cw H d) ps kv → e = n0 nm + (ps.map (·.1)).sum → w = n1 nm + (ps.map (·.2)).sum → Q (.ref kd) H1) : tKids K σ H Q := by
  refine ⟨_, s0, a, _, 0, .str nm, rfl, rfl, SqT.of ea, at0, sz2, fun t ht => ⟨t, _, rfl, .inr (SqT.of upd_same), rfl, rfl, _, rfl, ?_⟩⟩
  have s1 : Same H (upd H t (.tup [.str "all", .str "best"])) := Same.new ht
  have ea1 := s1 _ _ ea
  rcases k.kids with ⟨hb, b, vs, ps, rfl, eb, pk, ee, ew⟩ | ⟨hb, u, p, eu, nw, hk, ee, ew⟩
  · show (if isAB nm = true then _ else _)
    rw [if_pos hb]
    exact ⟨_, s0, a, _, 1, .ref b, rfl, rfl, SqT.of ea1, at1, h b vs ps _ s1 (s1 _ _ eb) pk ee ew⟩
  · show (if isAB nm = true then _ else _)
    rw [if_neg (by rw [hb]; decide)]
    refine ⟨_, s0, 1, rfl, -1, rfl, a, _, rfl, SqT.of ea1, fun z => absurd z nw, fun _ q hq => ?_⟩
    refine h q [u] [p] _ (s1.trans (Same.new hq)) (by rw [upd_same, eu]) (.cons hk .nil) ?_ ?_
    · rw [ee, List.map_singleton, List.sum_singleton]
    · rw [ew, List.map_singleton, List.sum_singleton]
def spCounted (K : PySem.W.Frag) (i M : Nat) (ce cw : Nat → Int) (d : Nat) : Sp := fun vs H Q _ => ∃ (v : V) (u : Addr) (s : Sch), vs = [v, .ref u] ∧ SAt H d s v ∧ OkS i M d s ∧ UFull H i M ce cw u ∧
  ∀ (p : Addr) (H' : Hp), Same H H' → H' p = some (.tup [.int (er ce d s), .int (wr cw d s)]) → Q (.ref p) H'
abbrev nmCounted : List Str := ["_law_scheme_here", "_law_uses", "_law_found", "_law_kid", "_law_more", "_law_one"]
abbrev psCounted : List Str := ["_law_scheme_here", "_law_uses"]
section
variable {P : Program} {w : World} {K : PySem.W.Frag} {mg : Str → Option Value} {base : Heap}
theorem counted_turn {i M d : Nat} {ce cw : Nat → Int} (D : Def K mg "_law_counted" s_L_counted psCounted) (mi : mg "int" = none) (mt : mg "tuple" = none) (mis : mg "isinstance" = none)
    (G : FnOk P w K mg base CX0 d D.f D.fd psCounted (spCounted K i M ce cw d)) : FnOk P w K mg base CX0 (d + 1) D.f D.fd psCounted (spCounted K i M ce cw (d + 1)) := by
  have nd := sc_L_counted.nd
  refine D.ok sc_L_counted (fun vs H Q E h => ?_) (fun cdv A outer s H vs Q E hr h => ?_)
  · obtain ⟨v, u, s, rfl, _⟩ := h
    rfl
  obtain ⟨v, u, sc, rfl, hs, ho, hu, q⟩ := h
  refine ⟨_, pss_cons (ps_if (pt_cmpR op_eq (pe_ix ix_tup (pv 0) pe_int (fun _ _ => rfl)) pe_str (nomark _))
      (pss_one (ps_ret (pe_ix ix_list (pe_lc (own := [("_law_one", 5)]) (g := gName 5) rfl nd (pi_list (pv 1)) (blkOk_by (N := nmCounted) (sc := defScope s_L_counted) (by decide +kernel)) (fun _ _ _ _ _ => pg_name (i := 5) nd rfl (Or.inl rfl))
          (fun _ _ _ _ _ => pts_one (pt_cmpR op_eq (pe_ix (r := rIxT K) ix_tup (pv 5) pe_int (fun _ _ => rfl)) (pe_ix (r := rIxT K) ix_tup (pv 0) pe_int (fun _ _ => rfl)) (nomark _)))
          (fun _ _ _ _ _ => pe_slice (r := rSlA K) sl_tupA (pv 5) (po_some pe_int) po_none)) pe_int (fun _ _ => rfl)))) pss_nil)
    (pss_cons (ps_set (i := 2) nd rfl (Or.inl rfl) (pe_lst (pa_cons (pe_callTy call_int1 rfl mi (by decide +kernel) (pa_cons (pe_cmpR op_in_seq (pe_ix ix_tup (pv 0) pe_int (fun _ _ => rfl)) (pe_tup (pa_cons pe_str (pa_cons pe_str pa_nil))) (by rfl)) pa_nil))
      (pa_cons (pe_callTy call_int1 rfl mi (by decide +kernel) (pa_cons (pe_cmpR op_in_seq (pe_ix ix_tup (pv 0) pe_int (fun _ _ => rfl)) (pe_tup (pa_cons pe_str (pa_cons pe_str pa_nil))) (by rfl)) pa_nil)) pa_nil))))
    (pss_cons (ps_for PassesOwn.never rfl (pi_tup (pe_ifExp (pt_cmpR op_in_seq (pe_ix ix_tup (pv 0) pe_int (fun _ _ => rfl)) (pe_tup (pa_cons pe_str (pa_cons pe_str pa_nil))) (by rfl)) (pe_ix ix_tup (pv 0) pe_int (fun _ _ => rfl)) (pe_slice sl_tupA (pv 0) (po_some (pe_un un_neg pe_int)) po_none))) (pg_name (i := 3) nd rfl (Or.inl rfl))
      (pss_one (ps_if (pt_val (pe_callB call_isi rfl mis (by decide +kernel) (pa_cons (pv 3) (pa_cons (pe_bltn rfl mt (by decide +kernel) (v := .ty "tuple") rfl) pa_nil))))
        (pss_cons (ps_set (i := 4) nd rfl (Or.inl rfl) (pcall D G hr (pa_cons (pv 3) (pa_cons (pv 1) pa_nil))))
        (pss_one (ps_set (i := 2) nd rfl (Or.inl rfl) (pe_lst (pa_cons (pe_op op_add (pe_ix ix_list (pv 2) pe_int (fun _ _ => rfl)) (pe_ix ix_tup (pv 4) pe_int (fun _ _ => rfl))) (pa_cons (pe_op op_add (pe_ix ix_list (pv 2) pe_int (fun _ _ => rfl)) (pe_ix ix_tup (pv 4) pe_int (fun _ _ => rfl))) pa_nil)))))) pss_nil)))
    (pss_one (ps_ret (pe_callTy call_tuple_of rfl mt (by decide +kernel) (pa_cons (pv 2) pa_nil)))))), ?_⟩
  rcases hs.view (ce := ce) (cw := cw) ho with ⟨a, j, rfl, rfl, ea⟩ | ⟨a, nm, rest, rfl, ea, kk⟩
  · -- a use
    refine seq_if (b := true) (fun Q q => ⟨_, rfl, a, _, 0, .str "use", rfl, rfl, SqT.of ea, at0, rfl, _, rfl, by rw [dec_str]; exact q⟩) (fun _ => ?_) (fun z => nomatch z)
    obtain ⟨js, uv, eu, jl, jf, pu⟩ := hu
    have ul := Paired.length pu
    refine ⟨_, rfl, u, rfl, ⟨_, SqL.of eu⟩, fun Dd hD => ?_⟩
    have jin : j ∈ js := jf j ho.1 ho.2
    refine lc_list (K := K) (a := u) (xs := uv) (fun k H'' => ∃ rs : List Addr, H'' Dd = some (.lst (rs.map V.ref)) ∧ Same H H'' ∧ (∀ r ∈ rs, H'' r = some (.tup [.int (ce j), .int (cw j)])) ∧ rs.length ≤ k ∧ (j ∈ js.take k → rs ≠ []))
      ⟨[], upd_same, Same.new hD, (fun _ h => nomatch h), Nat.le_refl _, fun h => by simp at h⟩ (fun k H'' _ ⟨_, _, s1, _⟩ => SqL.of (s1 _ _ eu)) ?_ ?_
    · rintro k xk H'' hk ⟨rs, eD, s1, hrs, lr, hin⟩
      obtain ⟨j', ej, t, rfl, et⟩ := paired_get' pu hk
      have et' := s1 _ _ et
      have ea' := s1 _ _ ea
      have hkl := (List.getElem?_eq_some_iff.mp hk).1
      have tk : js.take (k + 1) = js.take k ++ [j'] := by
        rw [List.take_succ, ej]
        rfl
      refine ⟨rfl, _, rfl, t, _, 0, .int ((j' : Nat) : Int), rfl, rfl, SqT.of et', at0, _, rfl, a, _, 1, .int ((j : Nat) : Int), rfl, rfl, SqT.of ea', at1, rfl, _, rfl, ?_⟩
      refine ite2 (fun c => ?_) (fun c => ?_)
      · have e : j' = j := by
          have z := V.int.inj (of_decide_eq_true c)
          omega
        subst e
        refine ⟨_, rfl, 1, rfl, t, _, rfl, SqT.of et', fun z => absurd z (by show ¬ (HT.sIx 3 0 (some 1) = 0 ∧ HT.sIx 3 3 none = 3); decide), fun _ p hp => ?_⟩
        refine ⟨_, (by rw [upd_ne (ne_of_none eD hp)]; exact eD), (by rw [List.length_map]; exact small1000 (by omega)), rs ++ [p], ?_, fun b o e => ?_, fun r hr => ?_, by simp only [List.length_append, List.length_cons, List.length_nil]; omega, fun _ => by simp⟩
        · rw [upd_same, List.map_append]
          rfl
        · rw [upd_ne (ne_of_none e hD)]
          exact Same.new hp _ _ (s1 _ _ e)
        · have nD : ∀ x xs, H'' x = some (HO.tup xs) → x ≠ Dd := fun x xs e => ne_of e eD (by intro z; cases z)
          rcases List.mem_append.mp hr with h | h
          · rw [upd_ne (nD r _ (hrs r h))]
            exact Same.new hp _ _ (hrs r h)
          · rw [List.mem_singleton.mp h, upd_ne (ne_of_none eD hp).symm, upd_same]
            rfl
      · refine ⟨rs, eD, s1, hrs, by omega, fun h => hin ?_⟩
        rw [tk] at h
        rcases List.mem_append.mp h with h | h
        · exact h
        · exact absurd (by rw [List.mem_singleton.mp h]; exact decide_eq_true rfl) c
    · rintro H'' ⟨rs, eD, s1, hrs, lr, hin⟩
      have hne := hin (by rw [List.take_of_length_le (by omega)]; exact jin)
      cases rs with
      | nil => exact absurd rfl hne
      | cons r0 rr => exact ⟨Dd, _, 0, .ref r0, rfl, rfl, SqL.of eD, at0, q r0 H'' s1 (hrs r0 List.mem_cons_self)⟩
  · refine seq_if (b := false) (fun Q q => ⟨_, rfl, a, _, 0, .str nm, rfl, rfl, SqT.of ea, at0, rfl, _, rfl, by rw [dec_str, beq_eq_false_iff_ne.mpr kk.no]; exact q⟩) (fun z => nomatch z) (fun _ => ?_)
    refine ⟨_, rfl, a, _, 0, .str nm, rfl, rfl, SqT.of ea, at0, sz2, fun t1 h1 => ⟨t1, _, rfl, .inr (SqT.of upd_same), rfl, rfl, .inr ⟨_, rfl, ?_⟩⟩⟩
    have s1 : Same H (upd H t1 (.tup [.str "step", .str "end"])) := Same.new h1
    refine ⟨_, rfl, a, _, 0, .str nm, rfl, rfl, SqT.of (s1 _ _ ea), at0, sz2, fun t2 h2 => ⟨t2, _, rfl, .inr (SqT.of upd_same), rfl, rfl, .inr ⟨_, rfl, sz2, fun fd0 hf0 => ?_⟩⟩⟩
    have s2 : Same H (upd (upd H t1 (.tup [.str "step", .str "end"])) t2 (.tup [.str "seen", .str "behind"])) := s1.trans (Same.new h2)
    have hf00 : H fd0 = none := s2.free hf0
    have s3 : Same H (upd (upd (upd H t1 (.tup [.str "step", .str "end"])) t2 (.tup [.str "seen", .str "behind"])) fd0 (.lst [.int (n0 nm), .int (n1 nm)])) := s2.trans (Same.new hf0)
    dsimp only [gName]
    refine kids_ev (K := K) (d := d) rfl (s3 _ _ ea) (kk.keep (Same.tupK s3)) (fun kd kv ps H1 s4 ekd pk ee ew => ?_)
    have s5 := s3.trans s4
    have pk1 := paired_imp pk fun _ _ z => z.keep (Same.tupK s4)
    refine ⟨kd, rfl, ⟨_, SqT.of ekd⟩, for_tup (K := K) (a := kd) (xs := kv) (fun k σ H' => ∃ (f : Addr) (v3 v4 : Option V), σ = [some (.ref a), some (.ref u), some (.ref f), v3, v4, none] ∧ H' f = some (.lst [.int (n0 nm + ((ps.take k).map (·.1)).sum), .int (n1 nm + ((ps.take k).map (·.2)).sum)]) ∧ Same H1 H')
      ⟨fd0, none, none, rfl, by rw [List.take_zero, List.map_nil, List.map_nil, List.sum_nil, Int.add_zero, Int.add_zero]; exact s4 _ _ upd_same, Same.refl _⟩ (fun k σ H' _ ⟨_, _, _, _, _, s6⟩ => SqT.of (s6 _ _ ekd)) ?_ ?_⟩
    · rintro k x σ H' hk ⟨f, v3, v4, rfl, ef, s6⟩
      obtain ⟨p, ep, hp⟩ := paired_get' pk1 hk
      have hkl := (List.getElem?_eq_some_iff.mp ep).1
      have tk : ps.take (k + 1) = ps.take k ++ [p] := by rw [List.take_succ, ep]; rfl
      rcases hp with ⟨n, rfl, rfl⟩ | ⟨s', hs', ho', rfl⟩
      · refine one_if (b := false) (fun Q q => ⟨_, rfl, _, .ty "tuple", .type "int", .type "tuple", false, rfl, .ty _, .base (.int n), kit_ty (by decide +kernel), _, rfl, q⟩) (fun z => nomatch z) (fun _ => ?_)
        refine ⟨f, _, v4, rfl, ?_, s6⟩
        rw [tk]
        simpa using ef
      · obtain ⟨t, xs, rfl, et⟩ := hs'.ref
        have et' := s6 _ _ et
        refine one_if (b := true) (fun Q q => ⟨_, rfl, _, .ty "tuple", .type "tuple", .type "tuple", true, rfl, .ty _, .base (.tup et'), kit_ty (by decide +kernel), _, rfl, q⟩) (fun _ => ?_) (fun z => nomatch z)
        refine ⟨_, rfl, _, rfl, .ref t, u, s', rfl, SAt.keep (Same.tupK s6) _ _ _ hs', ho', hu.keep (s5.trans s6), fun p H2 s7 ep => ?_⟩
        have ef' := s7 _ _ ef
        refine ⟨_, rfl, f, _, 0, .int _, rfl, rfl, SqL.of ef', at0, _, rfl, p, _, 0, .int _, rfl, rfl, SqT.of ep, at0, _, _, rfl, rfl, _, rfl, f, _, 1, .int _, rfl, rfl, SqL.of ef', at1, _, rfl, p, _, 1, .int _, rfl, rfl, SqT.of ep, at1, _, _, rfl, rfl, sz2, fun f2 hf2 => ?_⟩
        refine ⟨f2, _, _, rfl, ?_, s6.trans (s7.trans (Same.new hf2))⟩
        rw [upd_same, tk]
        simp only [List.map_append, List.sum_append, List.map_cons, List.map_nil, List.sum_cons, List.sum_nil, Int.add_zero, Int.add_assoc]
    · rintro σ H' ⟨f, v3, v4, rfl, ef, s6⟩
      have lp := Paired.length pk
      rw [← lp, List.take_length, ← ee, ← ew] at ef
      exact ⟨_, rfl, f, _, rfl, .inl ⟨SqL.of ef, fun t ht => q t _ ((s5.trans s6).trans (Same.new ht)) upd_same⟩⟩
end
end MS
end
section
set_option maxRecDepth 100000
set_option maxHeartbeats 4000000
namespace MS
open PySem L2
theorem er_congr {i M : Nat} {c c' : Nat → Int} (h : ∀ j, i < j → j < M → c j = c' j) : ∀ (d : Nat) (s : Sch), OkS i M d s → er c d s = er c' d s
  | 0, _, o => by cases o
  | _ + 1, .step _ _, _ => rfl
  | d + 1, .all k, o => by
    show (k.map (er c d)).sum = (k.map (er c' d)).sum
    rw [List.map_congr_left fun s hs => er_congr h d s (o.2.2 s hs)]
  | d + 1, .best k, o => by
    show (k.map (er c d)).sum = (k.map (er c' d)).sum
    rw [List.map_congr_left fun s hs => er_congr h d s (o.2.2 s hs)]
  | d + 1, .most _ s, o => er_congr h d s o.2
  | d + 1, .half s, o => er_congr h d s o
  | d + 1, .seen _ s, o => er_congr h d s o.2
  | d + 1, .behind _ s, o => er_congr h d s o.2
  | d + 1, .carry s, o => er_congr h d s o
  | d + 1, .fin _ _ s, o => congrArg (1 + ·) (er_congr h d s o.2)
  | _ + 1, .use n, o => h n o.1 o.2
theorem wr_congr {i M : Nat} {c c' : Nat → Int} (h : ∀ j, i < j → j < M → c j = c' j) : ∀ (d : Nat) (s : Sch), OkS i M d s → wr c d s = wr c' d s
  | 0, _, o => by cases o
  | _ + 1, .step _ _, _ => rfl
  | d + 1, .all k, o => by
    show (k.map (wr c d)).sum = (k.map (wr c' d)).sum
    rw [List.map_congr_left fun s hs => wr_congr h d s (o.2.2 s hs)]
  | d + 1, .best k, o => by
    show (k.map (wr c d)).sum = (k.map (wr c' d)).sum
    rw [List.map_congr_left fun s hs => wr_congr h d s (o.2.2 s hs)]
  | d + 1, .most _ s, o => wr_congr h d s o.2
  | d + 1, .half s, o => wr_congr h d s o
  | d + 1, .seen _ s, o => congrArg (1 + ·) (wr_congr h d s o.2)
  | d + 1, .behind _ s, o => congrArg (1 + ·) (wr_congr h d s o.2)
  | d + 1, .carry s, o => wr_congr h d s o
  | d + 1, .fin _ _ s, o => wr_congr h d s o.2
  | _ + 1, .use n, o => h n o.1 o.2
/-- a paper stands in the heap -/
def PaperAt (H : Hp) (ps : List Sch) (v : V) : Prop := ∃ a vs, v = .ref a ∧ H a = some (.tup vs) ∧ Paired (SAt H 5) ps vs
theorem PaperAt.keep {H H' : Hp} {ps : List Sch} {v : V} (h : PaperAt H ps v) (k : TupK H H') : PaperAt H' ps v := by
  obtain ⟨a, vs, e, h1, h2⟩ := h
  exact ⟨a, vs, e, k _ _ h1, paired_imp h2 fun s v => SAt.keep k _ _ _⟩
/-- the later ones from the n-th on can be -/
def TailOk (ce cw : Nat → Int) (M n : Nat) (ps : List Sch) : Prop := ∀ k s, ps[k]? = some s → OkS (n + k) M 5 s ∧ ce (n + k) = er ce 5 s ∧ cw (n + k) = wr cw 5 s ∧ sz 5 s ≤ 12 ∧ er ce 5 s ≤ 7 ∧ wr cw 5 s ≤ 3
def PaperOk (ps : List Sch) : Prop := 0 < ps.length ∧ ps.length ≤ 5 ∧ ∃ ce cw : Nat → Int, TailOk ce cw ps.length 0 ps
theorem TailOk.cons {ce cw : Nat → Int} {M n : Nat} {ps : List Sch} {s : Sch} (h : TailOk ce cw M (n + 1) ps) (o : OkS n M 5 s) (hM : n + 1 + ps.length ≤ M) (h1 : sz 5 s ≤ 12) (h2 : er ce 5 s ≤ 7) (h3 : wr cw 5 s ≤ 3) :
    TailOk (fun j => if j = n then er ce 5 s else ce j) (fun j => if j = n then wr cw 5 s else cw j) M n (s :: ps) := by
  have key : ∀ i t, n ≤ i → OkS i M 5 t → er (fun j => if j = n then er ce 5 s else ce j) 5 t = er ce 5 t ∧ wr (fun j => if j = n then wr cw 5 s else cw j) 5 t = wr cw 5 t := fun i t hi ot =>
    ⟨er_congr (fun j hj _ => if_neg (by omega)) 5 t ot, wr_congr (fun j hj _ => if_neg (by omega)) 5 t ot⟩
  intro k t e
  cases k with
  | zero =>
    obtain rfl : s = t := by simpa using e
    obtain ⟨k1, k2⟩ := key n s (Nat.le_refl _) o
    rw [k1, k2]
    exact ⟨o, if_pos rfl, if_pos rfl, h1, h2, h3⟩
  | succ k =>
    obtain ⟨q1, q2, q3, q4, q5, q6⟩ := h k t (by simpa using e)
    have en : n + 1 + k = n + (k + 1) := by omega
    rw [en] at q1 q2 q3
    obtain ⟨k1, k2⟩ := key (n + (k + 1)) t (by omega) q1
    rw [k1, k2]
    exact ⟨q1, by rw [← q2]; exact if_neg (by omega), by rw [← q3]; exact if_neg (by omega), q4, q5, q6⟩
theorem fn_any {P : Program} {w : World} {K : PySem.W.Frag} {mg : Str → Option Value} {base : Heap} {ι : Type} {sp : ι → Sp} {k : Nat} {f : Addr} {fd : FuncData} {ps : List Str} (G : ∀ i, FnOk P w K mg base CX0 k f fd ps (sp i)) : FnOk P w K mg base CX0 k f fd ps (fun vs H Q E => ∃ i, sp i vs H Q E) :=
  ⟨fun vs H Q E ⟨i, h⟩ => (G i).1 vs H Q E h, fun A outer s H args us vs Q E a1 a2 a3 a4 ⟨i, h⟩ => (G i).2 A outer s H args us vs Q E a1 a2 a3 a4 h⟩
structure Gp where
  i : Nat
  M : Nat
  ce : Nat → Int
  cw : Nat → Int
theorem cut_to (xs : List V) (k : Nat) : cutV xs none (some (k : Int)) = xs.take k := by
  unfold cutV
  rw [HT.sIx_none, HT.sIx_nat, List.drop_zero, Nat.sub_zero]
  by_cases h : k ≤ xs.length
  · rw [Nat.min_eq_left h]
  · rw [Nat.min_eq_right (by omega), List.take_of_length_le (Nat.le_refl _), List.take_of_length_le (by omega)]
theorem cut_from (xs : List V) (k : Nat) : cutV xs (some (k : Int)) none = xs.drop k := by
  unfold cutV
  rw [HT.sIx_none, HT.sIx_nat]
  by_cases h : k ≤ xs.length
  · rw [Nat.min_eq_left h, List.take_of_length_le (by rw [List.length_drop]; exact Nat.le_refl _)]
  · rw [Nat.min_eq_right (by omega), List.drop_eq_nil_of_le (Nat.le_refl _), List.drop_eq_nil_of_le (by omega)]
    simp
/-- plain steps in a row -/
def StepR (H : Hp) (s : Sch) (v : V) : Prop := ∃ x p a, s = .step x p ∧ v = V.ref a ∧ H a = some (.tup [.str "step", .str x, .int p]) ∧ IsW x ∧ 1 ≤ p ∧ p ≤ 9
theorem StepR.keep {H H' : Hp} {s : Sch} {v : V} (h : StepR H s v) (k : TupK H H') : StepR H' s v := by
  obtain ⟨x, p, a, e1, e2, e3, r⟩ := h
  exact ⟨x, p, a, e1, e2, k _ _ e3, r⟩
theorem StepR.at {H : Hp} {s : Sch} {v : V} (h : StepR H s v) (d : Nat) : SAt H (d + 1) s v := by
  obtain ⟨x, p, a, rfl, e2, e3, r⟩ := h
  exact ⟨a, e2, e3⟩
theorem steps_ok {H : Hp} {i M : Nat} {ce cw : Nat → Int} (d : Nat) : ∀ {ss : List Sch} {vs : List V}, Paired (StepR H) ss vs → (∀ s ∈ ss, OkS i M (d + 1) s) ∧ (ss.map (sz (d + 1))).sum = ss.length ∧ (ss.map (er ce (d + 1))).sum = ss.length ∧ (ss.map (wr cw (d + 1))).sum = 0
  | _, _, .nil => ⟨(fun _ h => nomatch h), rfl, rfl, rfl⟩
  | _, _, .cons h t => by
    obtain ⟨h1, h2, h3, h4⟩ := steps_ok (i := i) (M := M) (ce := ce) (cw := cw) d t
    obtain ⟨x, p, a, rfl, _, _, r1, r2⟩ := h
    refine ⟨fun s' hs' => ?_, ?_, ?_, ?_⟩
    · rcases List.mem_cons.mp hs' with rfl | hs'
      · exact ⟨r1, r2⟩
      · exact h1 s' hs'
    · rw [List.map_cons, List.sum_cons, h2, List.length_cons]
      show (1 : Int) + _ = _
      omega
    · rw [List.map_cons, List.sum_cons, h3, List.length_cons]
      show (1 : Int) + _ = _
      omega
    · rw [List.map_cons, List.sum_cons, h4]
      rfl
theorem paired_take {α β : Type} {R : α → β → Prop} : ∀ {xs : List α} {ys : List β}, Paired R xs ys → ∀ n, Paired R (xs.take n) (ys.take n)
  | _, _, .nil, n => by simp; exact .nil
  | _, _, .cons r t, 0 => .nil
  | _, _, .cons r t, n + 1 => .cons r (paired_take t n)
theorem paired_drop {α β : Type} {R : α → β → Prop} : ∀ {xs : List α} {ys : List β}, Paired R xs ys → ∀ n, Paired R (xs.drop n) (ys.drop n)
  | _, _, .nil, n => by simp; exact .nil
  | _, _, .cons r t, 0 => .cons r t
  | _, _, .cons r t, n + 1 => paired_drop t n
theorem Keep.drop {b l m : Addr} {H H1 H2 : Hp} (k1 : Keep [b, l] H H1) (k2 : Keep [b, l, m] H1 H2) (hm : H m = none) : Keep [b, l] H H2 := fun a o e n => k2 a o (k1 a o e n) fun h => by
  have ne : a ≠ m := ne_of_none e hm
  simp only [List.mem_cons, List.not_mem_nil, or_false] at h n
  rcases h with h | h | h
  · exact n (.inl h)
  · exact n (.inr h)
  · exact ne h
theorem Keep.freeN {S : List Addr} {H H' : Hp} {m : Addr} (k : Keep S H H') (hm : H' m = none) (n : m ∉ S) : H m = none := by
  cases q : H m with
  | none => rfl
  | some o =>
    have z := k m o q n
    rw [hm] at z
    cases z
theorem pick3 {x y z r : Int} (h0 : 0 ≤ r) (h1 : r < 3) : ∃ w, atI [V.int x, V.int y, V.int z] r = some (.int w) ∧ (w = x ∨ w = y ∨ w = z) := by
  have e : r = 0 ∨ r = 1 ∨ r = 2 := by omega
  rcases e with rfl | rfl | rfl
  · exact ⟨x, at0, .inl rfl⟩
  · exact ⟨y, at1, .inr (.inl rfl)⟩
  · exact ⟨z, at2, .inr (.inr rfl)⟩
theorem pick2' {x y r : Int} (h0 : 0 ≤ r) (h1 : r < 2) : ∃ w, atI [V.int x, V.int y] r = some (.int w) ∧ (w = x ∨ w = y) := by
  have e : r = 0 ∨ r = 1 := by omega
  rcases e with rfl | rfl
  · exact ⟨x, at0, .inl rfl⟩
  · exact ⟨y, at1, .inr rfl⟩
def UseR (ce cw : Nat → Int) (H : Hp) (j : Nat) (v : V) : Prop := ∃ t, v = V.ref t ∧ H t = some (.tup [.int ((j : Nat) : Int), .int (ce j), .int (cw j)])
theorem use_other {ce cw : Nat → Int} {H : Hp} {n : Nat} {x y : Int} : ∀ {js : List Nat} {uv : List V}, Paired (UseR ce cw H) js uv → (∀ j ∈ js, j ≠ n) → Paired (UseR (fun j => if j = n then x else ce j) (fun j => if j = n then y else cw j) H) js uv
  | _, _, .nil, _ => .nil
  | _, _, .cons h t, al => .cons (by
      obtain ⟨t, e1, e2⟩ := h
      exact ⟨t, e1, by simp [e2, al _ List.mem_cons_self]⟩) (use_other t fun j hj => al j (List.mem_cons_of_mem _ hj))
theorem use_new {ce cw : Nat → Int} {H : Hp} {n : Nat} {x y : Int} {p : Addr} (h : H p = some (.tup [.int ((n : Nat) : Int), .int x, .int y])) : UseR (fun j => if j = n then x else ce j) (fun j => if j = n then y else cw j) H n (.ref p) :=
  ⟨p, rfl, by simp [h]⟩
theorem Box.tup {H H' : Hp} {b l : Addr} (B : Box H b l) (k : Keep [b, l] H H') : TupK H H' := k.tup fun a ha => by
  obtain ⟨_, ⟨n, e1⟩, ns, e2⟩ := B
  rcases List.mem_cons.mp ha with rfl | ha
  · exact ⟨_, e1⟩
  · rw [List.mem_singleton.mp ha]; exact ⟨_, e2⟩
def spPaper : Sp := fun vs H Q _ => ∃ (b l L : Addr) (F : List Str), vs = [.ref b, .ref L] ∧ Box H b l ∧ L ≠ b ∧ L ≠ l ∧ H L = some (.lst (F.map V.str)) ∧ (∀ x ∈ F, IsW x) ∧ 0 < F.length ∧ F.length ≤ 8 ∧
  ∀ (v : V) (ps : List Sch) (H' : Hp), PaperAt H' ps v → PaperOk ps → Box H' b l → Keep [b, l] H H' → Q v H'
abbrev nmPaper : List Str := ["_law_box", "_law_letters_here", "_law_left", "_law_words", "_law_turn", "_law_steps", "_law_whole", "_law_many", "_law_found", "_law_uses", "_law_number", "_law_scheme_here", "_law_word"]
section
variable {P : Program} {w : World} {K : PySem.W.Frag} {mg : Str → Option Value} {base : Heap}
theorem ok_counted {i M : Nat} {ce cw : Nat → Int} (D : Def K mg "_law_counted" s_L_counted psCounted) (mi : mg "int" = none) (mt : mg "tuple" = none) (mis : mg "isinstance" = none) : ∀ d : Nat, FnOk P w K mg base CX0 d D.f D.fd psCounted (spCounted K i M ce cw d)
  | 0 => by
    have no : ∀ vs H Q E, ¬ spCounted K i M ce cw 0 vs H Q E := fun vs H Q E h => by
      obtain ⟨v, u, s, _, h, _⟩ := h
      cases h
    exact ⟨fun vs H Q E h => absurd h (no vs H Q E), fun A outer s H args us vs Q E _ _ _ _ h => absurd h (no vs H Q E)⟩
  | d + 1 => counted_turn D mi mt mis (ok_counted D mi mt mis d)
theorem ok_paper (D : Def K mg "_law_paper" s_L_paper ["_law_box", "_law_letters_here"]) (DT : Def K mg "_law_take" s_L_take ["_law_box", "_law_many"]) (DS : Def K mg "_law_scheme" s_L_scheme psScheme) (DC : Def K mg "_law_counted" s_L_counted psCounted)
    (ml : mg "len" = none) (mr : mg "range" = none) (mt : mg "tuple" = none) (mi : mg "int" = none) (mis : mg "isinstance" = none) (mli : mg "list" = none) : FnOk P w K mg base CX0 7 D.f D.fd ["_law_box", "_law_letters_here"] spPaper := by
  have GT : FnOk P w K mg base CX0 1 DT.f DT.fd ["_law_box", "_law_many"] spTake := ok_take DT
  have GS : FnOk P w K mg base CX0 6 DS.f DS.fd psScheme (fun vs H Q E => ∃ g : Gp, spScheme g.i g.M g.ce g.cw 4 vs H Q E) := fn_any fun g => ok_scheme DS DT ml mr mt 4
  have GC : FnOk P w K mg base CX0 5 DC.f DC.fd psCounted (fun vs H Q E => ∃ g : Gp, spCounted K g.i g.M g.ce g.cw 5 vs H Q E) := fn_any fun g => ok_counted DC mi mt mis 5
  have nd := sc_L_paper.nd
  refine D.ok sc_L_paper (fun vs H Q E h => ?_) (fun cdv A outer s H vs Q E hr h => ?_)
  · obtain ⟨b, l, L, F, rfl, _⟩ := h
    rfl
  obtain ⟨b, l, L, F, rfl, B, nb, nl, eL, w1, l0, l1, q⟩ := h
  have hr1 : Room 1 _ := hr.mono (by decide)
  have hr5 : Room 5 _ := hr.mono (by decide)
  refine ⟨_, pss_cons (ps_if (pt_cmpR op_eq (pcall DT GT hr1 (pa_cons (pv 0) (pa_cons pe_int pa_nil))) pe_int (nomark _))
      (pss_cons (ps_par (i := 2) (j := 3) (by rfl) nd rfl rfl (by decide) rfl rfl (pa_cons (pe_callTy (cr_listStr rfl) rfl mli (by decide +kernel) (pa_cons pe_str pa_nil)) (pa_cons (pe_lst pa_nil) pa_nil)) (by rfl))
      (pss_cons (ps_for PassesOwn.never rfl (pi_range1 rfl mr (pa_cons (pe_op op_add pe_int (pcall DT GT hr1 (pa_cons (pv 0) (pa_cons pe_int pa_nil)))) pa_nil)) (pg_name (i := 4) nd rfl (Or.inl rfl))
        (pss_one (ps_expr (pe_bm PySem.F.plainAttrs_list PySem.F.slot_list_append PySem.F.type_list_append mt_append (pv 3)
          (pa_cons (pe_bm PySem.F.plainAttrs_list PySem.F.slot_list_pop PySem.F.type_list_pop mt_popAt (pv 2) (pa_cons (pcall DT GT hr1 (pa_cons (pv 0) (pa_cons (pe_callB call_len_seq rfl ml PySem.boot_len (pa_cons (pv 2) pa_nil)) pa_nil))) pa_nil)) pa_nil)))))
      (pss_cons (ps_setLc (i := 5) (own := [("_law_word", 12)]) (g := gName 12) (tt := tYes) rfl nd rfl rfl (sw_true rfl rfl rfl (by decide +kernel)) (pi_list (pe_slice sl_list (pv 3) po_none (po_some pe_int))) (blkOk_by (N := nmPaper) (sc := defScope s_L_paper) (by decide +kernel)) (fun _ _ _ _ _ => pg_name (i := 12) nd rfl (Or.inl rfl)) (fun _ _ _ _ _ => pts_nil)
          (fun _ _ _ _ _ => pe_tup (pa_cons pe_str (pa_cons (pv 12) (pa_cons (pe_op op_add pe_int (pcall DT GT hr1 (pa_cons (pv 0) (pa_cons pe_int pa_nil)))) pa_nil)))))
      (pss_cons (ps_set (i := 6) nd rfl (Or.inl rfl) (pe_tup (pa_cons pe_str (pa_cons (pe_tup (pa_cons (pe_tup (pa_cons pe_str (pa_cons (pe_callTy call_tuple_of rfl mt (by decide +kernel) (pa_cons (pe_slice sl_list (pv 5) po_none (po_some pe_int)) pa_nil)) pa_nil)))
          (pa_cons (pe_tup (pa_cons pe_str (pa_cons (pe_callTy call_tuple_of rfl mt (by decide +kernel) (pa_cons (pe_slice sl_list (pv 5) (po_some pe_int) po_none) pa_nil)) pa_nil))) pa_nil))) pa_nil))))
      (pss_one (ps_ret (pe_tup (pa_cons (pe_ifExp (pt_cmpR op_gt (pe_callB call_len_seq rfl ml PySem.boot_len (pa_cons (pv 3) pa_nil)) pe_int (nomark _)) (pe_tup (pa_cons pe_str (pa_cons (pe_ix ix_list (pv 3) pe_int (fun _ _ => rfl)) (pa_cons (pv 6) pa_nil)))) (pv 6)) pa_nil)))))))) pss_nil)
    (pss_cons (ps_set (i := 7) nd rfl (Or.inl rfl) (pe_op op_add pe_int (pe_ix ix_list (pe_lst (pa_cons pe_int (pa_cons (pcall DT GT hr1 (pa_cons (pv 0) (pa_cons pe_int pa_nil))) (pa_cons (pcall DT GT hr1 (pa_cons (pv 0) (pa_cons pe_int pa_nil))) pa_nil)))) (pcall DT GT hr1 (pa_cons (pv 0) (pa_cons pe_int pa_nil))) (fun _ _ => rfl))))
    (pss_cons (ps_par (i := 8) (j := 9) (by rfl) nd rfl rfl (by decide) rfl rfl (pa_cons (pe_lst pa_nil) (pa_cons (pe_lst pa_nil) pa_nil)) (by rfl))
    (pss_cons (ps_for PassesOwn.never rfl (pi_range3 rfl mr (pa_cons (pe_op op_sub (pv 7) pe_int) (pa_cons (pe_un un_neg pe_int) (pa_cons (pe_un un_neg pe_int) pa_nil)))) (pg_name (i := 10) nd rfl (Or.inl rfl))
      (pss_cons (ps_set (i := 2) nd rfl (Or.inl rfl) (pe_lst (pa_cons (pe_ix ix_list (pe_lst (pa_cons pe_int (pa_cons pe_int (pa_cons pe_int pa_nil)))) (pcall DT GT hr1 (pa_cons (pv 0) (pa_cons pe_int pa_nil))) (fun _ _ => rfl))
          (pa_cons (pe_ix ix_list (pe_lst (pa_cons pe_int (pa_cons pe_int (pa_cons pe_int pa_nil)))) (pcall DT GT hr1 (pa_cons (pv 0) (pa_cons pe_int pa_nil))) (fun _ _ => rfl))
          (pa_cons (pe_ix ix_list (pe_lst (pa_cons pe_int (pa_cons pe_int pa_nil))) (pcall DT GT hr1 (pa_cons (pv 0) (pa_cons pe_int pa_nil))) (fun _ _ => rfl)) pa_nil)))))
      (pss_cons (ps_set (i := 11) nd rfl (Or.inl rfl) (pcall DS GS hr (pa_cons (pv 0) (pa_cons (pv 1) (pa_cons (pv 2) (pa_cons pe_int (pa_cons (pv 9) pa_nil)))))))
      (pss_cons (ps_set (i := 8) nd rfl (Or.inl rfl) (pe_op op_cat (pe_lst (pa_cons (pv 11) pa_nil)) (pv 8)))
      (pss_one (ps_set (i := 9) nd rfl (Or.inl rfl) (pe_op op_cat (pv 9) (pe_lst (pa_cons (pe_op op_catA (pe_tup (pa_cons (pv 10) pa_nil)) (pe_callTy call_tuple_of rfl mt (by decide +kernel) (pa_cons (pcall DC GC hr5 (pa_cons (pv 11) (pa_cons (pv 9) pa_nil))) pa_nil))) pa_nil)))))))))
    (pss_one (ps_ret (pe_callTy call_tuple_of rfl mt (by decide +kernel) (pa_cons (pv 8) pa_nil))))))), ?_⟩
  refine ⟨_, rfl, b, l, 12, rfl, by decide, by decide, B, fun r0 H1 a0 a1 B1 k1 => ?_⟩
  have nin : ∀ {x : Addr}, x ≠ b ∧ x ≠ l → x ∉ [b, l] := fun {x} h => by simp [h.1, h.2]
  refine ⟨rfl, _, rfl, ?_⟩
  refine ite2 (fun _ => ?_) (fun _ => ?_)
  · -- a paper of many words
    refine ⟨_, rfl, by decide, fun p hp => ?_⟩
    rw [letters_of]
    refine ⟨Nat.zero_le _, fun f hf => ⟨_, _, rfl, ?_⟩⟩
    have npf : p ≠ f := ne_of_none upd_same hf
    have hpf : upd (upd H1 p (.lst (wordsL.map V.str))) f (.lst []) p = some (.lst (wordsL.map V.str)) := by rw [upd_ne npf]; exact upd_same
    have k2 : Keep [b, l] H1 (upd (upd H1 p (.lst (wordsL.map V.str))) f (.lst [])) := (Keep.new hp).trans (Keep.new hf)
    have hf0 : H1 f = none := (Same.new hp).free hf
    have nfb := B1.ne_new hf0
    have npb := B1.ne_new hp
    have B2 : Box (upd (upd H1 p (.lst (wordsL.map V.str))) f (.lst [])) b l := (B1.new hp).put nfb.1 nfb.2
    refine ⟨_, rfl, b, l, 3, rfl, by decide, by decide, B2, fun r H3 b0 b1 B3 k3 => ⟨_, _, rfl, rfl, _, rfl, by omega, by omega, ?_⟩⟩
    refine for_range (lo := 0) (n := (6 + r).toNat) (fun i σ H' => ∃ (W F : List Str) (v : Option V), σ = [some (.ref b), some (.ref L), some (.ref p), some (.ref f), v, none, none, none, none, none, none, none, none] ∧ H' p = some (.lst (W.map V.str)) ∧ H' f = some (.lst (F.map V.str)) ∧
        W.length + i = 8 ∧ F.length = i ∧ (∀ x ∈ W, IsW x) ∧ (∀ x ∈ F, IsW x) ∧ Box H' b l ∧ Keep [b, l] H1 H')
      ⟨wordsL, [], none, rfl, k3 _ _ hpf (nin npb), k3 _ _ upd_same (nin nfb), rfl, rfl, fun _ h => h, (fun _ h => nomatch h), B3, k2.trans k3⟩ ?_ ?_
    · rintro i σ H' hi ⟨W, F, v, rfl, e1, e2, l1, l2, w1, w2, B', k'⟩
      have hW : 0 < W.length := by omega
      refine ⟨_, rfl, .inl ⟨rfl, _, SqL.of e2⟩, _, rfl, .inl ⟨rfl, _, SqL.of e1⟩, _, rfl, _, rfl, p, _, rfl, .inl (SqL.of e1), b, l, _, rfl, (by rw [List.length_map]; omega), (by rw [List.length_map]; omega), B', fun r H2' r0 r1' B2' k2' => ?_⟩
      rw [List.length_map] at r1'
      have hr' : r.toNat < W.length := by omega
      have e1' := k2' _ _ e1 (nin npb)
      have e2' := k2' _ _ e2 (nin nfb)
      refine ⟨p, _, r, r.toNat, .str (W[r.toNat]'hr'), rfl, rfl, e1', by omega, by omega, seq_of r0 (by rw [List.length_map]; exact r1'), get_map V.str W hr', ?_⟩
      refine ⟨f, _, _, rfl, rfl, (by rw [upd_ne npf.symm]; exact e2'), (by rw [List.length_map]; exact small1000 (by omega)), ?_⟩
      refine ⟨W.eraseIdx r.toNat, F ++ [W[r.toNat]'hr'], _, rfl, ?_, ?_, ?_, ?_, fun x hx => w1 x (mem_eraseIdx hx), fun x hx => ?_, (B2'.put npb.1 npb.2).put nfb.1 nfb.2, ((k'.trans k2').newer hp).newer hf0⟩
      · rw [upd_ne npf, upd_same, map_erase]
      · rw [upd_same, List.map_append]
        rfl
      · rw [List.length_eraseIdx_of_lt hr']
        omega
      · rw [List.length_append, l2]
        rfl
      · rcases List.mem_append.mp hx with hx | hx
        · exact w2 x hx
        · rw [List.mem_singleton.mp hx]
          exact w1 _ (List.getElem_mem hr')
    · rintro σ H4 ⟨W, F, v, rfl, e1, e2, l1, l2, w1, w2, B4, k4⟩
      have F6 : 6 ≤ F.length ∧ F.length ≤ 8 := by omega
      refine ⟨_, rfl, 7, rfl, f, _, rfl, SqL.of e2, fun q1 hq1 => ?_⟩
      have ec : cutV (F.map V.str) none (some 7) = (F.take 7).map V.str := by rw [List.map_take]; exact cut_to _ 7
      rw [ec]
      refine ⟨q1, rfl, ⟨_, SqL.of upd_same⟩, fun Dd hD => ?_⟩
      have nqD : q1 ≠ Dd := ne_of_none upd_same hD
      have B5 := B4.new (o := .lst ((F.take 7).map V.str)) hq1
      have hD4 : H4 Dd = none := (Same.new hq1).free hD
      have k5 : Keep [b, l] H1 (upd (upd H4 q1 (.lst ((F.take 7).map V.str))) Dd (.lst [])) := k4.trans ((Keep.new hq1).trans (Keep.new hD))
      have nDb := B4.ne_new hD4
      refine lc_list (K := K) (a := q1) (xs := (F.take 7).map V.str) (fun k H'' => ∃ (ss : List Sch) (vs' : List V), H'' Dd = some (.lst vs') ∧ ss.length = k ∧ Paired (StepR H'') ss vs' ∧ Box H'' b l ∧ Keep [b, l] (upd H4 q1 (.lst ((F.take 7).map V.str))) H'')
        ⟨[], [], upd_same, rfl, .nil, B5.put nDb.1 nDb.2, Keep.new hD⟩ (fun k H'' _ ⟨_, _, _, _, _, _, kk⟩ => SqL.of (kk _ _ upd_same (B4.nin hq1))) ?_ ?_
      · rintro k x H'' hk ⟨ss, vs', eD, ls, pw, B6, k6⟩
        obtain ⟨y, hy, rfl⟩ := List.mem_map.mp (List.mem_of_getElem? hk)
        have yw := w2 y (List.mem_of_mem_take hy)
        have hkl := (List.getElem?_eq_some_iff.mp hk).1
        rw [List.length_map, List.length_take] at hkl
        refine ⟨rfl, _, rfl, _, rfl, b, l, 9, rfl, by decide, by decide, B6, fun r H7 c0 c1 B7 k7 => ⟨_, _, rfl, rfl, (by show 3 ≤ sizeLine; decide), fun t ht => ?_⟩⟩
        have eD7 := k7 _ _ eD (nin nDb)
        have nDt : Dd ≠ t := ne_of_none eD7 ht
        have lv := Paired.length pw
        have t7 : TupK H'' H7 := k7.tup fun a ha => by
          obtain ⟨_, ⟨n, e1⟩, ns, e2⟩ := B6
          rcases List.mem_cons.mp ha with rfl | ha
          · exact ⟨_, e1⟩
          · rw [List.mem_singleton.mp ha]; exact ⟨_, e2⟩
        have eD8 : upd H7 t (.tup [.str "step", .str y, .int (1 + r)]) Dd = some (.lst vs') := by rw [upd_ne nDt]; exact eD7
        have t8 : TupK H7 (upd (upd H7 t (.tup [.str "step", .str y, .int (1 + r)])) Dd (.lst (vs' ++ [.ref t]))) := (TupK.new ht).trans (TupK.put eD8)
        refine ⟨vs', eD8, small1000 (by omega), ss ++ [.step y (1 + r)], vs' ++ [.ref t], upd_same, by simp [ls], paired_snoc (paired_imp pw fun s' v' h => h.keep (t7.trans t8)) ⟨y, 1 + r, t, rfl, rfl, by rw [upd_ne nDt.symm]; exact upd_same, yw, by omega, by omega⟩, ((B7.new ht).put nDb.1 nDb.2), ?_⟩
        exact ((k6.trans k7).trans (Keep.new ht)).newer (by rw [upd_ne (ne_of_none upd_same hD).symm] <;> exact hD4)
      · rintro H5 ⟨ss, vs', eD, ls, pw, B6, k6⟩
        rw [List.length_map, List.length_take] at ls
        have k4' : Keep [b, l] H4 H5 := (Keep.new hq1).trans k6
        have e2' := k4' _ _ e2 (nin nfb)
        dsimp only [gName]
        refine ⟨_, rfl, 4, rfl, Dd, _, rfl, SqL.of eD, fun s2 hs2 => ⟨s2, _, rfl, .inl ⟨SqL.of upd_same, fun t2 ht2 => ⟨sz2, fun A1 hA1 => ?_⟩⟩⟩⟩
        have eDx := Same.new (o := .tup [.str "all", .ref t2]) hA1 _ _ (Same.new (o := .tup (cutV vs' none (some 4))) ht2 _ _ (Same.new (o := .lst (cutV vs' none (some 4))) hs2 _ _ eD))
        refine ⟨_, rfl, 4, rfl, Dd, _, rfl, SqL.of eDx, fun s3 hs3 => ⟨s3, _, rfl, .inl ⟨SqL.of upd_same, fun t3 ht3 => ⟨sz2, fun A2 hA2 => ⟨sz2, fun A3 hA3 => ⟨sz2, fun A4 hA4 => ?_⟩⟩⟩⟩⟩⟩
        have c1 : cutV vs' none (some 4) = vs'.take 4 := cut_to _ 4
        have c2 : cutV vs' (some 4) none = vs'.drop 4 := cut_from _ 4
        have o4 := Same.new (o := .tup [.str "all", .ref A3]) hA4
        have o3 := (Same.new (o := .tup [.ref A1, .ref A2]) hA3).trans o4
        have o2 := (Same.new (o := .tup [.str "best", .ref t3]) hA2).trans o3
        have ot3 := (Same.new (o := .tup (cutV vs' (some 4) none)) ht3).trans o2
        have os3 := (Same.new (o := .lst (cutV vs' (some 4) none)) hs3).trans ot3
        have o1 := (Same.new (o := .tup [.str "all", .ref t2]) hA1).trans os3
        have ot2 := (Same.new (o := .tup (cutV vs' none (some 4))) ht2).trans o1
        have o5 := (Same.new (o := .lst (cutV vs' none (some 4))) hs2).trans ot2
        have f3 := o4 _ _ (upd_same (a := A3) (o := .tup [.ref A1, .ref A2]))
        have f2 := o3 _ _ (upd_same (a := A2) (o := .tup [.str "best", .ref t3]))
        have ft3 := o2 _ _ (upd_same (a := t3) (o := .tup (cutV vs' (some 4) none)))
        have f1 := os3 _ _ (upd_same (a := A1) (o := .tup [.str "all", .ref t2]))
        have ft2 := o1 _ _ (upd_same (a := t2) (o := .tup (cutV vs' none (some 4))))
        dsimp only [gName]
        have e2f := o5 _ _ e2'
        have lF : (F.map V.str).length = F.length := List.length_map _
        have ss6 : 6 ≤ ss.length ∧ ss.length ≤ 7 := by omega
        have pwA := paired_take pw 4
        have pwB := paired_drop pw 4
        have B8 : Box _ b l := B6.keep (S := []) (fun a o e _ => o5 _ _ e) (by simp) (by simp)
        have k8 : Keep [b, l] H _ := k1.trans (k4.trans (k4'.trans (fun a o e _ => o5 _ _ e)))
        -- the whole, at any depth
        have wholeAt : ∀ (d : Nat) (Hf : Hp), TupK _ Hf → SAt Hf (d + 3) (.all [.all (ss.take 4), .best (ss.drop 4)]) (.ref A4) := fun d Hf kt =>
          ⟨A4, A3, _, rfl, kt _ _ upd_same, kt _ _ f3, .cons ⟨A1, t2, _, rfl, kt _ _ f1, (show Hf t2 = some (.tup (vs'.take 4)) by rw [← c1]; exact kt _ _ ft2), paired_imp pwA fun s' v' h => ((h.keep (Same.tupK o5)).keep kt).at d⟩ (.cons ⟨A2, t3, _, rfl, kt _ _ f2, (show Hf t3 = some (.tup (vs'.drop 4)) by rw [← c2]; exact kt _ _ ft3), paired_imp pwB fun s' v' h => ((h.keep (Same.tupK o5)).keep kt).at d⟩ .nil)⟩
        have wholeOk : ∀ d, OkS 0 1 (d + 3) (.all [.all (ss.take 4), .best (ss.drop 4)]) ∧ sz (d + 3) (.all [.all (ss.take 4), .best (ss.drop 4)]) ≤ 10 ∧ er (fun _ => 0) (d + 3) (.all [.all (ss.take 4), .best (ss.drop 4)]) ≤ 7 ∧ wr (fun _ => 0) (d + 3) (.all [.all (ss.take 4), .best (ss.drop 4)]) = 0 := fun d => by
          obtain ⟨a1, a2, a3, a4⟩ := steps_ok (i := 0) (M := 1) (ce := fun _ => 0) (cw := fun _ => 0) d pwA
          obtain ⟨d1, d2, d3, d4⟩ := steps_ok (i := 0) (M := 1) (ce := fun _ => 0) (cw := fun _ => 0) d pwB
          rw [List.length_take] at a2 a3
          rw [List.length_drop] at d2 d3
          have lA : (ss.take 4).length = 4 := by rw [List.length_take]; omega
          have lB : (ss.drop 4).length = ss.length - 4 := List.length_drop
          refine ⟨⟨by simp, by simp, fun s' hs' => ?_⟩, ?_, ?_, ?_⟩
          · rcases List.mem_cons.mp hs' with rfl | hs'
            · exact ⟨by omega, by omega, a1⟩
            · rw [List.mem_singleton.mp hs']
              exact ⟨by omega, by omega, d1⟩
          · show 1 + ((1 + ((ss.take 4).map (sz (d + 1))).sum) + ((1 + ((ss.drop 4).map (sz (d + 1))).sum) + 0)) ≤ 10
            omega
          · show (((ss.take 4).map (er (fun _ => 0) (d + 1))).sum) + ((((ss.drop 4).map (er (fun _ => 0) (d + 1))).sum) + 0) ≤ 7
            omega
          · show (((ss.take 4).map (wr (fun _ => 0) (d + 1))).sum) + ((((ss.drop 4).map (wr (fun _ => 0) (d + 1))).sum) + 0) = 0
            omega
        refine ⟨_, rfl, f, _, rfl, .inl (SqL.of e2f), _, _, rfl, rfl, _, rfl, ?_⟩
        refine ite2 (fun c => ?_) (fun c => ?_)
        · have c8 : 7 < F.length := by
            have z := of_decide_eq_true c
            rw [lF] at z
            omega
          refine ⟨_, rfl, f, _, 7, .str (F[7]'c8), rfl, rfl, SqL.of e2f, at_of (j := 7) rfl (get_map V.str F c8), _, rfl, (by show 3 ≤ sizeLine; decide), fun A5 hA5 => ?_⟩
          refine ⟨(by show 1 ≤ sizeLine; decide), fun R hR => ?_⟩
          have oR := (Same.new (o := .tup [.str "seen", .str (F[7]'c8), .ref A4]) hA5).trans (Same.new (o := .tup [.ref A5]) hR)
          obtain ⟨w1', w2', w3', w4'⟩ := wholeOk 1
          refine q (.ref R) [.seen (F[7]'c8) (.all [.all (ss.take 4), .best (ss.drop 4)])] _ ⟨R, _, rfl, upd_same, .cons ⟨A5, _, rfl, Same.new hR _ _ upd_same, wholeAt 1 _ (Same.tupK oR)⟩ .nil⟩ ⟨by simp, by simp, fun _ => er (fun _ => 0) 5 (.seen (F[7]'c8) (.all [.all (ss.take 4), .best (ss.drop 4)])), fun _ => wr (fun _ => 0) 5 (.seen (F[7]'c8) (.all [.all (ss.take 4), .best (ss.drop 4)])), ?_⟩
            (B8.keep (S := []) (fun a o e _ => oR _ _ e) (by simp) (by simp)) (k8.trans (fun a o e _ => oR _ _ e))
          intro k s' hk
          cases k with
          | succ k => simp at hk
          | zero =>
            obtain rfl : _ = s' := by simpa using hk
            have o := (show OkS 0 1 5 (.seen (F[7]'c8) (.all [.all (ss.take 4), .best (ss.drop 4)])) from ⟨w2 _ (List.getElem_mem c8), w1'⟩)
            refine ⟨o, (er_congr (fun j h1 h2 => by omega) 5 _ o), (wr_congr (fun j h1 h2 => by omega) 5 _ o), ?_, ?_, ?_⟩
            · show 1 + sz (1 + 3) _ ≤ 12
              omega
            · rw [er_congr (c' := fun _ => 0) (fun j h1 h2 => by omega) 5 _ o]
              exact w3'
            · rw [wr_congr (c' := fun _ => 0) (fun j h1 h2 => by omega) 5 _ o]
              show 1 + wr (fun _ => 0) (1 + 3) _ ≤ 3
              omega
        · refine ⟨_, rfl, (by show 1 ≤ sizeLine; decide), fun R hR => ?_⟩
          have oR := (Same.new (o := .tup [.ref A4]) hR)
          obtain ⟨w1', w2', w3', w4'⟩ := wholeOk 2
          refine q (.ref R) [.all [.all (ss.take 4), .best (ss.drop 4)]] _ ⟨R, _, rfl, upd_same, .cons (wholeAt 2 _ (Same.tupK oR)) .nil⟩ ⟨by simp, by simp, fun _ => er (fun _ => 0) 5 (.all [.all (ss.take 4), .best (ss.drop 4)]), fun _ => wr (fun _ => 0) 5 (.all [.all (ss.take 4), .best (ss.drop 4)]), ?_⟩
            (B8.keep (S := []) (fun a o e _ => oR _ _ e) (by simp) (by simp)) (k8.trans (fun a o e _ => oR _ _ e))
          intro k s' hk
          cases k with
          | succ k => simp at hk
          | zero =>
            obtain rfl : _ = s' := by simpa using hk
            refine ⟨w1', (er_congr (fun j h1 h2 => by omega) 5 _ w1'), (wr_congr (fun j h1 h2 => by omega) 5 _ w1'), Int.le_trans w2' (by decide), ?_, ?_⟩
            · rw [er_congr (c' := fun _ => 0) (fun j h1 h2 => by omega) 5 _ w1']
              exact w3'
            · rw [wr_congr (c' := fun _ => 0) (fun j h1 h2 => by omega) 5 _ w1']
              exact Int.le_trans (Int.le_of_eq w4') (by decide)
  · refine ⟨_, rfl, b, l, 3, rfl, by decide, by decide, B1, fun r1 H2 b0 b1 B2 k2 => ?_⟩
    refine ⟨_, rfl, b, l, 5, rfl, by decide, by decide, B2, fun r2 H3 c0 c1 B3 k3 => ⟨(by show 3 ≤ sizeLine; decide), fun T hT => ?_⟩⟩
    refine ⟨_, rfl, b, l, 3, rfl, by decide, by decide, B3.new hT, fun r3 H4 d0 d1 B4 k4 => ?_⟩
    have eT := k4 _ _ upd_same (B3.nin hT)
    obtain ⟨mm, em, hmm⟩ := pick3 (x := 0) (y := r1) (z := r2) d0 d1
    have mm0 : 0 ≤ mm ∧ mm ≤ 4 := by omega
    refine ⟨T, _, r3, .int mm, rfl, rfl, SqL.of eT, em, _, _, rfl, rfl, ?_⟩
    have kk4 : Keep [b, l] H H4 := k1.trans (k2.trans (k3.trans ((Keep.new hT).trans k4)))
    refine ⟨Nat.zero_le _, fun f0 hf0 => ⟨Nat.zero_le _, fun u0 hu0 => ⟨_, _, rfl, ?_⟩⟩⟩
    have hu00 : H4 u0 = none := (Same.new hf0).free hu0
    have nfu : f0 ≠ u0 := ne_of_none upd_same hu0
    have B5 := (B4.new (o := .lst []) hf0).new (o := .lst []) hu0
    have kk5 : Keep [b, l] H (upd (upd H4 f0 (.lst [])) u0 (.lst [])) := kk4.trans ((Keep.new hf0).trans (Keep.new hu0))
    have hM : ∃ M : Nat, (M : Int) = 1 + mm := ⟨(1 + mm).toNat, by omega⟩
    obtain ⟨M, eM⟩ := hM
    refine ⟨_, rfl, _, _, rfl, rfl, 1, rfl, 1, rfl, 1 + mm - 1, -1, -1, (1 + mm - 1 - -1).toNat, rfl, RgC.neg (by omega) (by omega) (by decide) (by decide), ?_⟩
    have en : (1 + mm - 1 - -1).toNat = M := by omega
    rw [en]
    refine for_rangeC (lo := 1 + mm - 1) (c := -1) (n := M) (fun k σ H' => ∃ (f u : Addr) (vs : List V) (ps : List Sch) (js : List Nat) (uv : List V) (ce cw : Nat → Int) (v2 v10 v11 : Option V), σ = [some (.ref b), some (.ref L), v2, none, none, none, none, some (.int (1 + mm)), some (.ref f), some (.ref u), v10, v11, none] ∧
        H' f = some (.lst vs) ∧ H' u = some (.lst uv) ∧ (u ≠ b ∧ u ≠ l) ∧ (f ≠ b ∧ f ≠ l) ∧ Paired (SAt H' 5) ps vs ∧ ps.length = k ∧ k ≤ M ∧ TailOk ce cw M (M - k) ps ∧ Paired (UseR ce cw H') js uv ∧ (∀ j, j ∈ js ↔ M - k ≤ j ∧ j < M) ∧ js.length = k ∧ Box H' b l ∧ Keep [b, l] H H')
      ⟨f0, u0, [], [], [], [], fun _ => 0, fun _ => 0, none, none, none, rfl, by rw [upd_ne nfu]; exact upd_same, upd_same, B4.ne_new hu00, B4.ne_new hf0, .nil, rfl, Nat.zero_le _, (fun k s h => by simp at h), .nil, (fun j => ⟨(fun h => nomatch h), fun h => by omega⟩), rfl, B5, kk5⟩ ?_ ?_
    · rintro k σ H' hk ⟨f, u, vs, ps, js, uv, ce, cw, v2, v10, v11, rfl, ef, eu, nu, nf, pp, lp, kM, tl, pu, iff, lj, B', k'⟩
      refine ⟨(by show 3 ≤ sizeLine; decide), fun T1 hT1 => ⟨_, rfl, b, l, 3, rfl, by decide, by decide, B'.new hT1, fun q1 H5 _ _ B5 k5 => ?_⟩⟩
      have eT1 := k5 _ _ upd_same (B'.nin hT1)
      obtain ⟨x, ex, hx⟩ := pick3 (x := 4) (y := 8) (z := 12) (r := q1) (by assumption) (by assumption)
      refine ⟨T1, _, q1, .int x, rfl, rfl, SqL.of eT1, ex, ?_⟩
      refine ⟨(by show 3 ≤ sizeLine; decide), fun T2 hT2 => ⟨_, rfl, b, l, 3, rfl, by decide, by decide, B5.new hT2, fun q2 H6 g0 g1 B6 k6 => ?_⟩⟩
      have eT2 := k6 _ _ upd_same (B5.nin hT2)
      obtain ⟨y, ey, hy⟩ := pick3 (x := 2) (y := 4) (z := 7) (r := q2) g0 g1
      refine ⟨T2, _, q2, .int y, rfl, rfl, SqL.of eT2, ey, ?_⟩
      refine ⟨sz2, fun T3 hT3 => ⟨_, rfl, b, l, 2, rfl, by decide, by decide, B6.new hT3, fun q3 H7 h0 h1 B7 k7 => ?_⟩⟩
      have eT3 := k7 _ _ upd_same (B6.nin hT3)
      obtain ⟨z, ez, hz⟩ := pick2' (x := 1) (y := 3) (r := q3) h0 h1
      refine ⟨T3, _, q3, .int z, rfl, rfl, SqL.of eT3, ez, ?_⟩
      refine ⟨(by show 3 ≤ sizeLine; decide), fun m hm => ?_⟩
      have kk7 : Keep [b, l] H' H7 := (Keep.new hT1).trans (k5.trans ((Keep.new hT2).trans (k6.trans ((Keep.new hT3).trans k7))))
      have B8 := B7.new (o := .lst [.int x, .int y, .int z]) hm
      have kk8 : Keep [b, l] H' (upd H7 m (.lst [.int x, .int y, .int z])) := kk7.trans (Keep.new hm)
      have t8 := B'.tup kk8
      have eu8 := kk8 _ _ eu (nin nu)
      have nmb := B7.ne_new hm
      have eL7 := (k'.trans kk7) _ _ eL (nin ⟨nb, nl⟩)
      have eu7 := kk7 _ _ eu (nin nu)
      have nLm : L ≠ m := ne_of_none eL7 hm
      have num : u ≠ m := ne_of_none eu7 hm
      have pu8 : Paired (UseR ce cw (upd H7 m (.lst [.int x, .int y, .int z]))) js uv := paired_imp pu fun j v ⟨t, e1, e2⟩ => ⟨t, e1, t8 _ _ e2⟩
      have jM : js.length ≤ 5 := by omega
      have g : GenAt (M - 1 - k) M ce cw (upd H7 m (.lst [.int x, .int y, .int z])) b l L m u F x y z :=
        ⟨B8, upd_same, by rw [upd_ne nLm]; exact eL7, w1, l0, l1, ⟨js, uv, eu8, jM, fun j hj => (by have := (iff j).mp hj; omega), pu8⟩, nmb, by simp [nb, nl, nLm], by simp [nu.1, nu.2, num]⟩
      dsimp only [gName]
      refine ⟨_, rfl, _, rfl, _, rfl, _, rfl, ⟨M - 1 - k, M, ce, cw⟩, b, l, L, m, u, F, x, y, z, rfl, g, by omega, by omega, by omega, fun v s H9 x' y' z' sa so e1 e2 e3 p1 p2 p3 el B9 k9 => ?_⟩
      have g9 := g.move k9 B9 el
      have hm' : H' m = none := kk7.freeN hm (nin nmb)
      have k10 : Keep [b, l] H' H9 := Keep.drop kk8 k9 hm'
      have t10 := B'.tup k10
      have ef10 := k10 _ _ ef (nin nf)
      have eu10 := k10 _ _ eu (nin nu)
      have lv := Paired.length pp
      have lu := Paired.length pu
      dsimp only [gName]
      refine ⟨_, rfl, (by show 1 ≤ sizeLine; decide), fun X1 hX1 => ⟨_, rfl, X1, f, _, _, rfl, rfl, upd_same, Same.new hX1 _ _ ef10, szN (by simp only [List.length_cons, List.length_nil]; omega), fun f2 hf2 => ?_⟩⟩
      have o1 := (Same.new (o := .lst [v]) hX1).trans (Same.new (o := .lst ([v] ++ vs)) hf2)
      refine ⟨_, rfl, _, rfl, (by show 1 ≤ sizeLine; decide), fun t1 ht1 => ?_⟩
      have o2 := o1.trans (Same.new (o := .tup [.int (1 + mm - 1 + ((k : Nat) : Int) * -1)]) ht1)
      have eNum : 1 + mm - 1 + ((k : Nat) : Int) * -1 = ((M - 1 - k : Nat) : Int) := by omega
      refine ⟨_, rfl, _, rfl, ⟨M - 1 - k, M, ce, cw⟩, v, u, s, rfl, SAt.keep (Same.tupK o2) _ _ _ sa, so, ⟨js, uv, o2 _ _ eu10, jM, fun j h1 h2 => (iff j).mpr ⟨by have h1' : M - 1 - k < j := h1; omega, h2⟩, paired_imp pu fun j v ⟨t, e1, e2⟩ => ⟨t, e1, (Same.tupK o2) _ _ (t10 _ _ e2)⟩⟩, fun p H6 s6 ep => ?_⟩
      have o3 := o2.trans s6
      refine ⟨p, _, rfl, .inr ⟨SqT.of ep, t1, p, _, _, rfl, rfl, SqT.of (s6 _ _ upd_same), SqT.of ep, (by show 3 ≤ sizeLine; decide), (fun z => nomatch z), (fun _ z => nomatch z), fun _ _ p2 hp2 => ⟨(by show 1 ≤ sizeLine; decide), fun w1 hw1 => ?_⟩⟩⟩
      have o4 := (Same.new (o := .tup ([.int (1 + mm - 1 + ((k : Nat) : Int) * -1)] ++ [.int (er ce 5 s), .int (wr cw 5 s)])) hp2)
      have o5 := o4.trans (Same.new (o := .lst [.ref p2]) hw1)
      refine ⟨u, w1, _, _, rfl, rfl, o5 _ _ (o3 _ _ eu10), upd_same, szN (by simp only [List.length_cons, List.length_nil]; omega), fun u2 hu2 => ?_⟩
      have o6 := o5.trans (Same.new (o := .lst (uv ++ [.ref p2])) hu2)
      have oAll := o3.trans o6
      have tAll := Same.tupK oAll
      have B10 := B9.keep (S := []) (fun a o e _ => oAll _ _ e) (by simp) (by simp)
      have kAll : Keep [b, l] H' _ := k10.trans (fun a o e _ => oAll _ _ e)
      have hN : M - (k + 1) = M - 1 - k := by omega
      have hN1 : M - 1 - k + 1 = M - k := by omega
      have e1' : sz 5 s = x - x' := e1
      have e2' : er ce 5 s = y - y' := e2
      have e3' : wr cw 5 s = z - z' := e3
      have tl0 : TailOk ce cw M (M - 1 - k + 1) ps := by rw [hN1]; exact tl
      have tl' := TailOk.cons (n := M - 1 - k) (s := s) tl0 so (show M - 1 - k + 1 + ps.length ≤ M by omega) (show sz 5 s ≤ 12 by omega) (show er ce 5 s ≤ 7 by omega) (show wr cw 5 s ≤ 3 by omega)
      have f2b := B9.ne_new (hX1 : H9 X1 = none)
      refine ⟨f2, u2, [v] ++ vs, s :: ps, js ++ [M - 1 - k], uv ++ [.ref p2], _, _, _, _, _, rfl, ?_, upd_same, ?_, ?_, ?_, by simp only [List.length_cons]; omega, by omega, by rw [hN]; exact tl', ?_, fun j => ?_, by simp only [List.length_append, List.length_cons, List.length_nil]; omega, B10, k'.trans kAll⟩
      · exact (Same.new (o := .tup [.int (1 + mm - 1 + ((k : Nat) : Int) * -1)]) ht1).trans (s6.trans o6) _ _ upd_same
      · exact (B9.keep (S := []) (fun a o e _ => o3.trans o5 _ _ e) (by simp) (by simp)).ne_new hu2
      · exact (B9.new (o := .lst [v]) hX1).ne_new hf2
      · exact .cons (SAt.keep tAll _ _ _ sa) (paired_imp pp fun s' v' h => SAt.keep (t10.trans tAll) _ _ _ h)
      · have al : ∀ j ∈ js, j ≠ M - 1 - k := fun j hj => by have := (iff j).mp hj; omega
        have z := ((Same.new (o := .lst [.ref p2]) hw1).trans (Same.new (o := .lst (uv ++ [.ref p2])) hu2)) _ _ (upd_same (a := p2) (o := .tup ([.int (1 + mm - 1 + ((k : Nat) : Int) * -1)] ++ [.int (er ce 5 s), .int (wr cw 5 s)])))
        have z2 := z.trans (by rw [eNum]; rfl : some (HO.tup ([V.int (1 + mm - 1 + ((k : Nat) : Int) * -1)] ++ [V.int (er ce 5 s), V.int (wr cw 5 s)])) = some (.tup [V.int ((M - 1 - k : Nat) : Int), V.int (er ce 5 s), V.int (wr cw 5 s)]))
        exact paired_snoc (use_other (paired_imp pu fun j v ⟨t, e1, e2⟩ => ⟨t, e1, tAll _ _ (t10 _ _ e2)⟩) al) (use_new z2)
      · rw [List.mem_append, List.mem_singleton, iff j]
        omega
    · rintro σ H' ⟨f, u, vs, ps, js, uv, ce, cw, v2, v10, v11, rfl, ef, eu, nu, nf, pp, lp, kM, tl, pu, iff, lj, B', k'⟩
      refine ⟨_, rfl, f, _, rfl, .inl ⟨SqL.of ef, fun t ht => ?_⟩⟩
      refine q (.ref t) ps _ ⟨t, vs, rfl, upd_same, paired_imp pp fun s v h => SAt.keep (TupK.new ht) _ _ _ h⟩ ⟨by omega, by omega, ce, cw, ?_⟩ (B'.new ht) (k'.trans (Keep.new ht))
      rw [lp]
      rw [Nat.sub_self] at tl
      exact tl
end
end MS
end
section
set_option maxRecDepth 100000
set_option maxHeartbeats 4000000
namespace MS
open PySem L2
def shapesL : List (Str × List Str) := [("step", ["word", "points"]), ("all", ["schemes"]), ("best", ["schemes"]), ("most", ["limit", "scheme"]), ("half", ["scheme"]), ("seen", ["word", "scheme"]), ("behind", ["word", "scheme"]), ("carry", ["scheme"]), ("end", ["word", "points", "scheme"]), ("use", ["later"])]
def freeL : List Str := ["len", "list", "range", "tuple", "int", "isinstance", "any", "all", "zip", "enumerate", "str", "bool", "min", "max", "sum", "sorted", "set", "reversed"]
/-- what the program's top leaves -/
structure PTx (w : World) (K : PySem.W.Frag) (mg : Str → Option Value) : Prop where
  words : ∃ a, mg "WORDS" = some (.ref a) ∧ ∀ H, SqT K H a (wordsL.map V.str)
  right : ∃ t, mg "RIGHT" = some (.str "r" t)
  wrong : ∃ t, mg "WRONG" = some (.str "w" t)
  carried : ∃ t, mg "CARRIED" = some (.str "c" t)
  mostSteps : ∃ t, mg "MOST_STEPS" = some (.int 12 t)
  mostWithin : ∃ t, mg "MOST_WITHIN" = some (.int 4 t)
  mostInPaper : ∃ t, mg "MOST_IN_PAPER" = some (.int 5 t)
  mostInScheme : ∃ t, mg "MOST_IN_SCHEME" = some (.int 12 t)
  longest : ∃ t, mg "LONGEST_PLACE" = some (.int 4 t)
  mostE : ∃ t, mg "MOST_EARNERS" = some (.int 7 t)
  mostW : ∃ t, mg "MOST_WATCHERS" = some (.int 3 t)
  earners : ∃ a, mg "EARNERS" = some (.ref a) ∧ ∀ H, SqT K H a [.str "step", .str "end"]
  watchers : ∃ a, mg "WATCHERS" = some (.ref a) ∧ ∀ H, SqT K H a [.str "seen", .str "behind"]
  shapes : ∃ a, mg "SHAPES" = some (.ref a) ∧ (a == sysModules) = false ∧ ∀ p ∈ shapesL, ∃ t, KDct K w a p.1 (.ref t) ∧ ∀ H, SqT K H t (p.2.map V.str)
  bounds : ∃ a, mg "BOUNDS" = some (.ref a) ∧ ∃ t1 t2, KDct K w a "points" (.ref t1) ∧ (∀ H, SqT K H t1 [.int 1, .int 9]) ∧ KDct K w a "limit" (.ref t2) ∧ ∀ H, SqT K H t2 [.int 0, .int 30]
  free : ∀ x ∈ freeL, mg x = none
theorem str_len2 {z : Str} (h : z.length = 2) : z.length ≤ sizeLine := by rw [h]; decide
def spIsStep : Sp := fun vs H Q _ => ∃ p : StepT, vs = [.str (stepS p)] ∧ IsStep p ∧ ∀ H', Same H H' → Q (.bl true) H'
theorem inV_words {x : Str} (h : IsW x) : inV (.str x) (wordsL.map V.str) = true := by
  have h' : x ∈ wordsL := h
  have q : ∀ y ∈ wordsL, inV (.str y) (wordsL.map V.str) = true := by decide +kernel
  exact q x h'
theorem inV_marks {x : Str} (h : IsM x) : inV (.str x) [.str "r", .str "w", .str "c"] = true := by
  have h' : x ∈ marksL := h
  have q : ∀ y ∈ marksL, inV (.str y) [.str "r", .str "w", .str "c"] = true := by decide +kernel
  exact q x h'
section
variable {P : Program} {w : World} {K : PySem.W.Frag} {mg : Str → Option Value} {base : Heap}
theorem ok_is_step (T : PTx w K mg) (D : Def K mg "is_step" s_is_step ["thing"]) : FnOk P w K mg base CX0 1 D.f D.fd ["thing"] spIsStep := by
  obtain ⟨aW, gW, qW⟩ := T.words
  obtain ⟨tr, gr⟩ := T.right
  obtain ⟨tw, gw⟩ := T.wrong
  obtain ⟨tc, gc⟩ := T.carried
  refine D.ok sc_is_step (fun vs H Q E h => ?_) (fun cdv A outer s H vs Q E hr h => ?_)
  · obtain ⟨p, rfl, _⟩ := h
    rfl
  obtain ⟨p, rfl, hp, q⟩ := h
  refine ⟨_, pss_cons (ps_if (PW.pt (pw_or (pt_not (pt_val (pe_callB call_isi rfl (T.free "isinstance" (by decide +kernel)) (by decide +kernel) (pa_cons (pv 0) (pa_cons (pe_bltn rfl (T.free "str" (by decide +kernel)) (by decide +kernel) (v := .ty "str") rfl) pa_nil)))))
      (pw_or1 (pt_cmpR op_ne (pe_callB call_len_str rfl (T.free "len" (by decide +kernel)) PySem.boot_len (pa_cons (pv 0) pa_nil)) pe_int (nomark _))))) (pss_one ps_never) pss_nil)
    (pss_one (ps_ret (pe_and (pe_cmpR op_in_seq (pe_ix ix_str (pv 0) pe_int (fun _ _ => rfl)) (pe_glob rfl gW (v := .ref aW) rfl) (by rfl))
      (pe_one (pe_cmpR op_in_seq (pe_ix ix_str (pv 0) pe_int (fun _ _ => rfl)) (pe_tup (pa_cons (pe_glob rfl gr (v := .str "r") ⟨_, rfl⟩) (pa_cons (pe_glob rfl gw (v := .str "w") ⟨_, rfl⟩) (pa_cons (pe_glob rfl gc (v := .str "c") ⟨_, rfl⟩) pa_nil)))) (by rfl)))))), ?_⟩
  obtain ⟨c0, e0, x0⟩ := hp.at0
  obtain ⟨c1, e1, x1⟩ := hp.at1
  refine seq_if (b := false) (fun Q q => ?_) (fun z => nomatch z) (fun _ => ?_)
  · refine ⟨_, rfl, _, .ty "str", .type "str", .type "str", true, rfl, .ty _, .base (.str _), kit_ty (by decide +kernel), _, rfl, ?_⟩
    refine ⟨_, rfl, _, rfl, str_len2 hp.len, rfl, _, rfl, ?_⟩
    rw [hp.len]
    exact q
  · refine ⟨_, rfl, _, 0, c0, rfl, rfl, str_len2 hp.len, e0, ?_⟩
    rw [x0]
    refine ⟨aW, _, rfl, .inr (qW _), rfl, by decide +kernel, _, rfl, ?_⟩
    show (if inV (.str p.1) (wordsL.map V.str) = true then _ else _)
    rw [if_pos (inV_words hp.1)]
    refine ⟨_, rfl, _, 1, c1, rfl, rfl, str_len2 hp.len, e1, ?_⟩
    rw [x1]
    refine ⟨(by show 3 ≤ sizeLine; decide), fun t ht => ⟨t, _, rfl, .inr (SqT.of upd_same), rfl, rfl, ?_⟩⟩
    show Q (.bl (inV (.str p.2) [.str "r", .str "w", .str "c"])) _
    rw [inV_marks hp.2]
    exact q _ (Same.new ht)
def spCheckWork : Sp := fun vs H Q _ => ∃ (a : Addr) (ws : List StepT), vs = [.ref a] ∧ H a = some (.lst (stepsV ws)) ∧ WorkOk ws ∧ ∀ H', Same H H' → Q .non H'
theorem WorkFrom.at : ∀ {ws : List StepT} {w : Bool} {i : Nat} {p : StepT}, WorkFrom w ws → ws[i]? = some p → IsStep p ∧ (p.2 = "c" → (w || anyWrong (ws.take i)) = true)
  | [], _, _, _, _, h => by simp at h
  | q :: r, w, 0, p, h, e => by
    obtain rfl : q = p := by simpa using e
    exact ⟨h.1, fun z => by rw [h.2.1 z]; rfl⟩
  | q :: r, w, i + 1, p, h, e => by
    obtain ⟨h1, h2⟩ := WorkFrom.at (i := i) h.2.2 (by simpa using e)
    refine ⟨h1, fun z => ?_⟩
    have z2 := h2 z
    rw [Bool.or_assoc] at z2
    exact z2
theorem ok_check_work (T : PTx w K mg) (D : Def K mg "check_work" s_check_work ["work"]) (DI : Def K mg "is_step" s_is_step ["thing"]) : FnOk P w K mg base CX0 2 D.f D.fd ["work"] spCheckWork := by
  have GI : FnOk P w K mg base CX0 1 DI.f DI.fd ["thing"] spIsStep := ok_is_step T DI
  obtain ⟨tw, gw⟩ := T.wrong
  obtain ⟨tc, gc⟩ := T.carried
  obtain ⟨tm, gm⟩ := T.mostSteps
  have nd := sc_check_work.nd
  refine D.ok sc_check_work (fun vs H Q E h => ?_) (fun cdv A outer s H vs Q E hr h => ?_)
  · obtain ⟨a, ws, rfl, _⟩ := h
    rfl
  obtain ⟨a, ws, rfl, ea, hw, q⟩ := h
  refine ⟨_, pss_cons (ps_if (pt_not (pt_val (pe_callB call_isi rfl (T.free "isinstance" (by decide +kernel)) (by decide +kernel) (pa_cons (pv 0) (pa_cons (pe_bltn rfl (T.free "list" (by decide +kernel)) (by decide +kernel) (v := .ty "list") rfl) pa_nil))))) (pss_one ps_never) pss_nil)
    (pss_cons (ps_set (i := 1) nd rfl (Or.inl rfl) pe_bl)
    (pss_one (ps_for PassesOwn.never rfl (pi_enum rfl (T.free "enumerate" (by decide +kernel)) (pa_cons (pv 0) pa_nil)) (pg_tup (by rfl) (pgs_cons (pg_name (i := 2) nd rfl (Or.inl rfl)) (pgs_cons (pg_name (i := 3) nd rfl (Or.inl rfl)) pgs_nil)))
      (pss_cons (ps_if (PW.pt (pw_or (pt_cmpR op_eq (pv 2) (pe_glob rfl gm (v := .int 12) ⟨_, rfl⟩) (nomark _)) (pw_or1 (pt_not (pt_val (pcall DI GI hr (pa_cons (pv 3) pa_nil))))))) (pss_one ps_never) pss_nil)
      (pss_cons (ps_if (PW.pt (pw_and (pt_cmpR op_eq (pe_ix ix_str (pv 3) pe_int (fun _ _ => rfl)) (pe_glob rfl gc (v := .str "c") ⟨_, rfl⟩) (nomark _)) (pw_and1 (pt_not (pt_val (pv 1)))))) (pss_one ps_never) pss_nil)
      (pss_one (ps_set (i := 1) nd rfl (Or.inl rfl) (pe_or (pv 1) (pe_one (pe_cmpR op_eq (pe_ix ix_str (pv 3) pe_int (fun _ _ => rfl)) (pe_glob rfl gw (v := .str "w") ⟨_, rfl⟩) (nomark _))))))))))), ?_⟩
  refine seq_if (b := false) (fun Q q => ⟨_, rfl, _, .ty "list", .type "list", .type "list", true, rfl, .ty _, .base (.lst ea), kit_ty (by decide +kernel), _, rfl, q⟩) (fun z => nomatch z) (fun _ => ?_)
  have lws : (stepsV ws).length = ws.length := List.length_map _
  refine ⟨_, rfl, a, _, rfl, SqL.of ea, for_it (walk_enum (K := K) (a := a) (xs := stepsV ws)) (fun i σ H' => ∃ v2 v3 : Option V, σ = [some (.ref a), some (.bl (anyWrong (ws.take i))), v2, v3] ∧ Same H H')
    ⟨none, none, rfl, Same.refl _⟩ (fun i σ H' _ ⟨_, _, _, sm⟩ => SqL.of (sm _ _ ea)) ?_ ?_⟩
  · rintro i x σ H1 H2 hi ⟨v2, v3, rfl, sm⟩ ⟨T1, x1, x2, rfl, hT1, rfl, ex1, ex2⟩
    obtain rfl : V.int ((i : Nat) : Int) = x1 := Option.some.inj ex1
    rw [lws] at hi
    have ep : ws[i]? = some (ws[i]'hi) := List.getElem?_eq_getElem hi
    obtain rfl : V.str (stepS (ws[i]'hi)) = x2 := Option.some.inj ((get_map (fun p => V.str (stepS p)) ws hi).symm.trans ex2)
    obtain ⟨hp, hc⟩ := hw.1.at ep
    obtain ⟨c1, e1, y1⟩ := hp.at1
    have sm1 : Same H (upd H1 T1 (.tup [.int ((i : Nat) : Int), .str (stepS (ws[i]'hi))])) := sm.trans (Same.new hT1)
    refine ⟨T1, _, rfl, SqT.of upd_same, rfl, _, _, rfl, _, _, rfl, rfl, ?_⟩
    have hlen := hw.2
    refine ⟨_, rfl, rfl, _, rfl, ?_⟩
    have ne : decide (V.int ((i : Nat) : Int) = V.int 12) = false := decide_eq_false (fun z => by have := V.int.inj z; omega)
    rw [ne]
    refine iteF ⟨_, rfl, _, rfl, hp, fun H3 s3 => ⟨_, rfl, iteF ?_⟩⟩
    dsimp only [tNext]
    refine seq_if (b := (ws[i]'hi).2 == "c" && !anyWrong (ws.take i)) (ev_and (fun Q q => ⟨_, rfl, _, 1, c1, rfl, rfl, str_len2 hp.len, e1, rfl, _, rfl, by rw [y1, dec_str]; exact q⟩) (fun Q q => ⟨_, rfl, _, rfl, q⟩)) (fun z => ?_) (fun _ => ?_)
    · rw [Bool.and_eq_true] at z
      have z1 := hc (eq_of_beq z.1)
      rw [Bool.false_or] at z1
      rw [z1] at z
      exact absurd z.2 (by decide)
    · refine ⟨_, rfl, _, rfl, ?_⟩
      have tk : anyWrong (ws.take (i + 1)) = (anyWrong (ws.take i) || ((ws[i]'hi).2 == "w")) := by
        rw [List.take_succ_eq_append_getElem hi]
        unfold anyWrong
        rw [List.any_append]
        simp
      refine ite2 (fun z => ?_) (fun z => ?_)
      · exact ⟨_, _, by rw [tk, z]; rfl, (sm1.trans s3)⟩
      · refine ⟨_, rfl, _, 1, c1, rfl, rfl, str_len2 hp.len, e1, rfl, ?_⟩
        rw [y1]
        refine ⟨some (.int ((i : Nat) : Int)), some (.str (stepS (ws[i]'hi))), ?_, (sm1.trans s3)⟩
        rw [tk, Bool.eq_false_iff.mpr z, Bool.false_or, dec_str]
        rfl
  · rintro σ H' ⟨v2, v3, rfl, sm⟩
    exact q H' sm
end
end MS
end
section
set_option maxRecDepth 100000
set_option maxHeartbeats 4000000
namespace MS
open PySem L2
/-! ### a written dict: get -/
def tKGet2 (K : PySem.W.Frag) (w : World) (td ty tx : TE) : TE := fun σ H Q => td σ H fun x H1 => ∃ a, x = .ref a ∧ (a == sysModules) = false ∧ (∃ z0 v0, KDct K w a z0 v0) ∧ ty σ H1 fun y H2 => tx σ H2 fun d H3 => ∃ z, y = .str z ∧ ((∃ v, KDct K w a z v ∧ Q v H3) ∨ (KMiss K w a z ∧ Q d H3))
theorem pe_kget2 {X : Cx} {o e f : Expr} {apos cpos : Pos} {td ty tx : TE} (ho : PE X o td) (he : PE X e ty) (hf : PE X f tx) (m : M2 X o "get" apos e f cpos) : PE X (.Call (.Attribute o "get" apos) [e, f] [] cpos) (tKGet2 X.K X.w td ty tx) := by
  refine ⟨fun pins s σ H Q I h => ?_⟩
  refine wpAny_Call_method m.base m.few m.line PySem.F.plainAttrs_dict PySem.F.slot_dict_get PySem.F.type_dict_get (thn (ho.run pins s σ H _ I h) fun u s1 ⟨x, H1, I1, rx, a, ex, low, ⟨z0, v0, es, n, u0, hl, hk, e0, ru⟩, q1⟩ => ?_)
  subst ex
  obtain rfl : u = Value.ref a := rx
  refine ⟨(PySem.W.mapOf_K (prog := X.prog) (w := X.w) I1.kIn hl hk).typeIs, (fun b q => by
    cases q
    exact ⟨_, I1.kIn _ _ hl, rfl⟩), ?_⟩
  rw [m.trees]
  refine Calls.callWith_builtin rfl (Calls.evalArgs_plain (Calls.spliced_cons (thn (he.run pins s1 σ H1 _ I1 q1) fun iv s2 ⟨y, H2, I2, ry, q2⟩ =>
    Calls.spliced_cons (thn (hf.run pins s2 σ H2 _ I2 q2) fun fv s3 ⟨d, H3, I3, rz, z, ey, q3⟩ => Calls.spliced_nil ?_))))
  subst ey
  obtain ⟨t, rfl⟩ := ry
  have hm := PySem.W.mapOf_K (prog := X.prog) (w := X.w) I3.kIn hl hk
  refine call_meetsIn PySem.F.slot_dict_get hm.typeIs PySem.F.entry_dict_get (PySem.F.args_dict_get_3 _ _ _) (meets_dict_get_default (strKind X.prog X.w) a (strKind_is X.prog X.w z t) low fv) ⟨_, hm, ?_⟩
  rcases q3 with ⟨v, ⟨es2, n2, u2, hl2, hk2, e2, ru2⟩, q3⟩ | ⟨⟨es2, n2, hl2, hk2, low2, e2⟩, q3⟩
  · rw [hl] at hl2
    cases hl2
    rw [PySem.W.find_K hl e2]
    exact ⟨v, H3, I3.tok _, ru2, q3⟩
  · rw [hl] at hl2
    cases hl2
    rw [PySem.W.find_K hl e2]
    exact ⟨d, H3, I3.tok _, rz, q3⟩
end MS
end
section
set_option maxRecDepth 100000
set_option maxHeartbeats 4000000
namespace MS
open PySem L2
def FitsR (H : Hp) (i M : Nat) (part : V) (kind : Str) : Prop :=
  (kind = "word" ∧ ∃ x, part = .str x ∧ IsW x) ∨ (kind = "points" ∧ ∃ p : Int, part = .int p ∧ 1 ≤ p ∧ p ≤ 9) ∨ (kind = "limit" ∧ ∃ p : Int, part = .int p ∧ 0 ≤ p ∧ p ≤ 30) ∨
  (kind = "schemes" ∧ ∃ b vs, part = .ref b ∧ H b = some (.tup vs) ∧ 0 < vs.length ∧ vs.length ≤ 4) ∨ kind = "scheme" ∨ (kind = "later" ∧ ∃ j : Nat, part = .int (j : Int) ∧ i < j ∧ j < M)
def spIsNumber : Sp := fun vs H Q _ => ∃ i : Int, vs = [.int i] ∧ Q (.bl true) H
def spFits (i M : Nat) : Sp := fun vs H Q _ => ∃ (part : V) (kind : Str), vs = [part, .str kind, .int (i : Int), .int (M : Int)] ∧ FitsR H i M part kind ∧ Q (.bl true) H
section
variable {P : Program} {w : World} {K : PySem.W.Frag} {mg : Str → Option Value} {base : Heap}
theorem ok_is_number (T : PTx w K mg) (D : Def K mg "is_number" s_is_number ["thing"]) : FnOk P w K mg base CX0 1 D.f D.fd ["thing"] spIsNumber := by
  refine D.ok sc_is_number (fun vs H Q E h => ?_) (fun cdv A outer s H vs Q E hr h => ?_)
  · obtain ⟨i, rfl, _⟩ := h
    rfl
  obtain ⟨i, rfl, q⟩ := h
  refine ⟨_, pss_one (ps_ret (pe_and (pe_callB call_isi rfl (T.free "isinstance" (by decide +kernel)) (by decide +kernel) (pa_cons (pv 0) (pa_cons (pe_bltn rfl (T.free "int" (by decide +kernel)) (by decide +kernel) (v := .ty "int") rfl) pa_nil)))
    (pe_one (pe_not (pe_callB call_isi rfl (T.free "isinstance" (by decide +kernel)) (by decide +kernel) (pa_cons (pv 0) (pa_cons (pe_bltn rfl (T.free "bool" (by decide +kernel)) (by decide +kernel) (v := .ty "bool") rfl) pa_nil))))))), ?_⟩
  exact ⟨_, rfl, _, .ty "int", .type "int", .type "int", true, rfl, .ty _, .base (.int _), kit_ty (by decide +kernel), _, rfl, _, rfl, _, .ty "bool", .type "int", .type "bool", false, rfl, .ty _, .base (.int _), kit_ty (by decide +kernel), _, rfl, q⟩
theorem ok_fits {i M : Nat} (T : PTx w K mg) (D : Def K mg "fits" s_fits ["part", "kind", "number", "many"]) (DN : Def K mg "is_number" s_is_number ["thing"]) : FnOk P w K mg base CX0 2 D.f D.fd ["part", "kind", "number", "many"] (spFits i M) := by
  have GN : FnOk P w K mg base CX0 1 DN.f DN.fd ["thing"] spIsNumber := ok_is_number T DN
  obtain ⟨aW, gW, qW⟩ := T.words
  obtain ⟨tm, gm⟩ := T.mostWithin
  obtain ⟨aB, gB, t1, t2, kb1, qb1, kb2, qb2⟩ := T.bounds
  have nd := sc_fits.nd
  refine D.ok sc_fits (fun vs H Q E h => ?_) (fun cdv A outer s H vs Q E hr h => ?_)
  · obtain ⟨part, kind, rfl, _⟩ := h
    rfl
  obtain ⟨part, kind, rfl, hf, q⟩ := h
  refine ⟨_, pss_cons (ps_if (pt_cmpR op_eq (pv 1) pe_str (nomark _)) (pss_one (ps_ret (pe_cmpR op_in_seq (pv 0) (pe_glob rfl gW (v := .ref aW) rfl) (by rfl)))) pss_nil)
    (pss_cons (ps_if (pt_cmpR op_eq (pv 1) pe_str (nomark _)) (pss_one (ps_ret (pe_and (pe_callB call_isi rfl (T.free "isinstance" (by decide +kernel)) (by decide +kernel) (pa_cons (pv 0) (pa_cons (pe_bltn rfl (T.free "tuple" (by decide +kernel)) (by decide +kernel) (v := .ty "tuple") rfl) pa_nil)))
        (pe_one (pe_chain op_le op_le pe_int (pe_callB call_len_seq rfl (T.free "len" (by decide +kernel)) PySem.boot_len (pa_cons (pv 0) pa_nil)) (pe_glob rfl gm (v := .int 4) ⟨_, rfl⟩)))))) pss_nil)
    (pss_cons (ps_if (pt_cmpR op_eq (pv 1) pe_str (nomark _)) (pss_one (ps_ret pe_bl)) pss_nil)
    (pss_cons (ps_if (pt_cmpR op_eq (pv 1) pe_str (nomark _)) (pss_one (ps_ret (pe_and (pcall DN GN hr (pa_cons (pv 0) pa_nil)) (pe_one (pe_chain op_lt op_lt (pv 2) (pv 0) (pv 3)))))) pss_nil)
    (pss_cons (ps_asg (pe_ix ix_kdict (pe_glob rfl gB (v := .ref aB) rfl) (pv 1) (fun _ _ => rfl)) (pg_tup (by rfl) (pgs_cons (pg_name (i := 4) nd rfl (Or.inl rfl)) (pgs_cons (pg_name (i := 5) nd rfl (Or.inl rfl)) pgs_nil))))
    (pss_one (ps_ret (pe_and (pcall DN GN hr (pa_cons (pv 0) pa_nil)) (pe_one (pe_chain op_le op_le (pv 4) (pv 0) (pv 5)))))))))), ?_⟩
  have tst : ∀ {c : Str} {σ : St} {b : Bool}, σ[1]? = some (some (.str kind)) → (kind == c) = b → ∀ Q : Bool → Hp → Prop, Q b H → tTest (tOp rEq (tVar 1) (tC (.str c))) σ H Q := fun s1 e Q q => ⟨_, s1, rfl, _, rfl, by rw [dec_str, e]; exact q⟩
  rcases hf with ⟨rfl, x, rfl, hx⟩ | ⟨rfl, p, rfl, p1, p2⟩ | ⟨rfl, p, rfl, p1, p2⟩ | ⟨rfl, b, vs, rfl, eb, v1, v2⟩ | rfl | ⟨rfl, j, rfl, j1, j2⟩
  · refine seq_if (b := true) (tst rfl (by decide +kernel)) (fun _ => ?_) (fun z => nomatch z)
    refine ⟨_, rfl, aW, _, rfl, .inr (qW _), rfl, by decide +kernel, ?_⟩
    show Q (.bl (inV (.str x) (wordsL.map V.str))) _
    rw [inV_words hx]
    exact q
  · refine seq_if (b := false) (tst rfl (by decide +kernel)) (fun z => nomatch z) (fun _ => seq_if (b := false) (tst rfl (by decide +kernel)) (fun z => nomatch z) (fun _ => seq_if (b := false) (tst rfl (by decide +kernel)) (fun z => nomatch z) (fun _ => seq_if (b := false) (tst rfl (by decide +kernel)) (fun z => nomatch z) (fun _ => ?_))))
    refine ⟨_, rfl, aB, "points", .ref t1, rfl, rfl, kb1, t1, _, rfl, qb1 _, rfl, _, _, rfl, _, _, rfl, rfl, ?_⟩
    refine ⟨_, rfl, p, rfl, _, rfl, ?_⟩
    refine ⟨_, rfl, _, rfl, _, _, rfl, rfl, _, rfl, ?_⟩
    rw [decide_eq_true p1]
    refine iteT ⟨_, rfl, _, _, rfl, rfl, ?_⟩
    show Q (V.bl (decide _)) H
    rw [decide_eq_true p2]
    exact q
  · refine seq_if (b := false) (tst rfl (by decide +kernel)) (fun z => nomatch z) (fun _ => seq_if (b := false) (tst rfl (by decide +kernel)) (fun z => nomatch z) (fun _ => seq_if (b := false) (tst rfl (by decide +kernel)) (fun z => nomatch z) (fun _ => seq_if (b := false) (tst rfl (by decide +kernel)) (fun z => nomatch z) (fun _ => ?_))))
    refine ⟨_, rfl, aB, "limit", .ref t2, rfl, rfl, kb2, t2, _, rfl, qb2 _, rfl, _, _, rfl, _, _, rfl, rfl, ?_⟩
    refine ⟨_, rfl, p, rfl, _, rfl, ?_⟩
    refine ⟨_, rfl, _, rfl, _, _, rfl, rfl, _, rfl, ?_⟩
    rw [decide_eq_true p1]
    refine iteT ⟨_, rfl, _, _, rfl, rfl, ?_⟩
    show Q (V.bl (decide _)) H
    rw [decide_eq_true p2]
    exact q
  · refine seq_if (b := false) (tst rfl (by decide +kernel)) (fun z => nomatch z) (fun _ => seq_if (b := true) (tst rfl (by decide +kernel)) (fun _ => ?_) (fun z => nomatch z))
    refine ⟨_, rfl, _, .ty "tuple", .type "tuple", .type "tuple", true, rfl, .ty _, .base (.tup eb), kit_ty (by decide +kernel), _, rfl, ?_⟩
    refine iteT ⟨_, rfl, b, vs, rfl, .inr (SqT.of eb), _, _, rfl, rfl, _, rfl, ?_⟩
    rw [decide_eq_true (show (1 : Int) ≤ (vs.length : Int) by omega)]
    refine iteT ⟨_, _, rfl, rfl, ?_⟩
    show Q (V.bl (decide _)) H
    rw [decide_eq_true (show (vs.length : Int) ≤ 4 by omega)]
    exact q
  · refine seq_if (b := false) (tst rfl (by decide +kernel)) (fun z => nomatch z) (fun _ => seq_if (b := false) (tst rfl (by decide +kernel)) (fun z => nomatch z) (fun _ => seq_if (b := true) (tst rfl (by decide +kernel)) (fun _ => q) (fun z => nomatch z)))
  · refine seq_if (b := false) (tst rfl (by decide +kernel)) (fun z => nomatch z) (fun _ => seq_if (b := false) (tst rfl (by decide +kernel)) (fun z => nomatch z) (fun _ => seq_if (b := false) (tst rfl (by decide +kernel)) (fun z => nomatch z) (fun _ => seq_if (b := true) (tst rfl (by decide +kernel)) (fun _ => ?_) (fun z => nomatch z))))
    refine ⟨_, rfl, _, rfl, _, rfl, ?_⟩
    refine iteT ⟨_, rfl, _, rfl, _, _, rfl, rfl, _, rfl, ?_⟩
    rw [decide_eq_true (show ((i : Nat) : Int) < ((j : Nat) : Int) by omega)]
    refine iteT ⟨_, rfl, _, _, rfl, rfl, ?_⟩
    show Q (V.bl (decide _)) H
    rw [decide_eq_true (show ((j : Nat) : Int) < ((M : Nat) : Int) by omega)]
    exact q
end
end MS
end
section
set_option maxRecDepth 100000
set_option maxHeartbeats 4000000
namespace MS
open PySem L2
/-! ### what the law earns, point by point -/
/-- a point: the place of the step, the place in the paper -/
abbrev Un := Nat × List Nat
def okAt (c : Bool) (x : Str) (p : StepT) : Bool := (p.1 == x) && (p.2 == "r" || (c && p.2 == "c"))
/-- the places from st on where a step of a word counts -/
def hits (ws : List StepT) (c : Bool) (x : Str) (st : Nat) : List Nat := (List.range' st (ws.length - st)).filter fun i => match ws[i]? with
  | some p => okAt c x p
  | none => false
def lastOk (ws : List StepT) (c : Bool) (x : Str) (st : Nat) : Bool := decide (st < ws.length) && match ws.getLast? with
  | some p => okAt c x p
  | none => false
def allU {α : Type} (f : Sch → Nat → List α) : List Sch → Nat → List α
  | [], _ => []
  | s :: r, j => f s j ++ allU f r (j + 1)
def bestU {α : Type} (f : Sch → Nat → List α) : List Sch → Nat → List α → List α
  | [], _, acc => acc
  | s :: r, j, acc => bestU f r (j + 1) (if acc.length < (f s j).length then f s j else acc)
def uP (ps : List Sch) (ws : List StepT) : Nat → Sch → Nat → Bool → List Nat → List Un
  | 0, _, _, _, _ => []
  | k + 1, .step x p, st, c, wh => match hits ws c x st with
    | [] => []
    | i :: _ => List.replicate p.toNat (i, wh)
  | k + 1, .behind x s, st, c, wh => match hits ws c x st with
    | [] => []
    | i :: _ => uP ps ws k s (i + 1) c (wh ++ [0])
  | k + 1, .use n, st, c, wh => match ps[n]? with
    | none => []
    | some s => uP ps ws k s st c (wh ++ [0])
  | k + 1, .all ks, st, c, wh => allU (fun s j => uP ps ws k s st c (wh ++ [j])) ks 0
  | k + 1, .best ks, st, c, wh => bestU (fun s j => uP ps ws k s st c (wh ++ [j])) ks 0 []
  | k + 1, .fin x p s, st, c, wh => if lastOk ws c x st = true then List.replicate p.toNat (ws.length - 1, wh) else uP ps ws k s st c (wh ++ [0])
  | k + 1, .seen x s, st, c, wh => if (ws.any fun p => p.1 == x) = true then uP ps ws k s st c (wh ++ [0]) else []
  | k + 1, .most n s, st, c, wh => (uP ps ws k s st c (wh ++ [0])).take n.toNat
  | k + 1, .half s, st, c, wh => (uP ps ws k s st c (wh ++ [0])).take ((uP ps ws k s st c (wh ++ [0])).length / 2)
  | k + 1, .carry s, st, c, wh => uP ps ws k s st true (wh ++ [0])
def natV (l : List Nat) : List V := l.map fun j : Nat => V.int ((j : Nat) : Int)
def UnR (H : Hp) (u : Un) (v : V) : Prop := ∃ a b, v = V.ref a ∧ H a = some (.tup [.int ((u.1 : Nat) : Int), .ref b]) ∧ H b = some (.tup (natV u.2))
theorem UnR.keep {H H' : Hp} {u : Un} {v : V} (h : UnR H u v) (k : TupK H H') : UnR H' u v := by
  obtain ⟨a, b, e, h1, h2⟩ := h
  exact ⟨a, b, e, k _ _ h1, k _ _ h2⟩
/-- how many points at most -/
theorem take_le {α : Type} (l : List α) (n : Nat) : (l.take n).length ≤ l.length := by
  rw [List.length_take]
  exact Nat.min_le_right _ _
theorem er_nonneg {i M : Nat} {c : Nat → Int} (h : ∀ j, i < j → j < M → 0 ≤ c j) : ∀ (d : Nat) (s : Sch), OkS i M d s → 0 ≤ er c d s
  | 0, _, o => by cases o
  | _ + 1, .step _ _, _ => by show (0 : Int) ≤ 1; decide
  | d + 1, .all k, o => by
    show 0 ≤ (k.map (er c d)).sum
    have : ∀ s ∈ k, 0 ≤ er c d s := fun s hs => er_nonneg h d s (o.2.2 s hs)
    clear o
    induction k with
    | nil => exact Int.le_refl _
    | cons a r ih =>
      rw [List.map_cons, List.sum_cons]
      have := ih fun s hs => this s (List.mem_cons_of_mem _ hs)
      have := ‹∀ s ∈ a :: r, 0 ≤ er c d s› a List.mem_cons_self
      omega
  | d + 1, .best k, o => by
    show 0 ≤ (k.map (er c d)).sum
    have : ∀ s ∈ k, 0 ≤ er c d s := fun s hs => er_nonneg h d s (o.2.2 s hs)
    clear o
    induction k with
    | nil => exact Int.le_refl _
    | cons a r ih =>
      rw [List.map_cons, List.sum_cons]
      have := ih fun s hs => this s (List.mem_cons_of_mem _ hs)
      have := ‹∀ s ∈ a :: r, 0 ≤ er c d s› a List.mem_cons_self
      omega
  | d + 1, .most _ s, o => er_nonneg h d s o.2
  | d + 1, .half s, o => er_nonneg h d s o
  | d + 1, .seen _ s, o => er_nonneg h d s o.2
  | d + 1, .behind _ s, o => er_nonneg h d s o.2
  | d + 1, .carry s, o => er_nonneg h d s o
  | d + 1, .fin _ _ s, o => by
    have := er_nonneg h d s o.2
    show 0 ≤ 1 + er c d s
    omega
  | _ + 1, .use n, o => h n o.1 o.2
theorem allU_len {α : Type} {f : Sch → Nat → List α} {g : Sch → Int} : ∀ (ks : List Sch) (j : Nat), (∀ s ∈ ks, ∀ j, ((f s j).length : Int) ≤ 9 * g s) → ((allU f ks j).length : Int) ≤ 9 * (ks.map g).sum
  | [], _, _ => by show (0 : Int) ≤ 9 * 0; decide
  | s :: r, j, h => by
    show (((f s j) ++ allU f r (j + 1)).length : Int) ≤ _
    rw [List.map_cons, List.sum_cons, List.length_append]
    have := h s List.mem_cons_self j
    have := allU_len r (j + 1) fun s hs => h s (List.mem_cons_of_mem _ hs)
    omega
theorem bestU_len {α : Type} {f : Sch → Nat → List α} {g : Sch → Int} : ∀ (ks : List Sch) (j : Nat) (acc : List α), (∀ s ∈ ks, ∀ j, ((f s j).length : Int) ≤ 9 * g s) → (∀ s ∈ ks, 0 ≤ g s) → ∀ B : Int, ((acc.length : Int) ≤ 9 * B) → 0 ≤ B → ((bestU f ks j acc).length : Int) ≤ 9 * (B + (ks.map g).sum)
  | [], _, acc, _, _, B, h, hB => by
    show (acc.length : Int) ≤ 9 * (B + 0)
    omega
  | s :: r, j, acc, h, h0, B, hb, hB => by
    show ((bestU f r (j + 1) (if acc.length < (f s j).length then f s j else acc)).length : Int) ≤ _
    rw [List.map_cons, List.sum_cons]
    have a1 := h s List.mem_cons_self j
    have a0 := h0 s List.mem_cons_self
    have := bestU_len r (j + 1) (if acc.length < (f s j).length then f s j else acc) (fun s hs => h s (List.mem_cons_of_mem _ hs)) (fun s hs => h0 s (List.mem_cons_of_mem _ hs)) (B + g s) (by
      split
      · omega
      · omega) (by omega)
    omega
theorem uP_len {ps : List Sch} {ws : List StepT} {ce : Nat → Int} {M : Nat} (hp : ∀ (j : Nat) (s : Sch), ps[j]? = some s → OkS j M 5 s ∧ ce j = er ce 5 s) (h0 : ∀ j, j < M → 0 ≤ ce j) :
    ∀ (k : Nat) (i d : Nat) (s : Sch) (st : Nat) (c : Bool) (wh : List Nat), OkS i M d s → ((uP ps ws k s st c wh).length : Int) ≤ 9 * er ce d s
  | 0, i, d, s, st, c, wh, o => by
    have := er_nonneg (c := ce) (fun j _ hj => h0 j hj) d s o
    show (0 : Int) ≤ _
    omega
  | k + 1, i, 0, s, st, c, wh, o => by cases o
  | k + 1, i, d + 1, .step x p, st, c, wh, o => by
    show ((match hits ws c x st with
      | [] => []
      | i :: _ => List.replicate p.toNat (i, wh)).length : Int) ≤ 9 * 1
    have := o.2.2
    split
    · simp
    · rw [List.length_replicate]
      omega
  | k + 1, i, d + 1, .behind x s, st, c, wh, o => by
    show ((match hits ws c x st with
      | [] => []
      | i :: _ => uP ps ws k s (i + 1) c (wh ++ [0])).length : Int) ≤ 9 * er ce d s
    have := er_nonneg (c := ce) (fun j _ hj => h0 j hj) d s o.2
    split
    · show (0 : Int) ≤ _
      omega
    · exact uP_len hp h0 k i d s _ c _ o.2
  | k + 1, i, d + 1, .use n, st, c, wh, o => by
    show ((match ps[n]? with
      | none => []
      | some s => uP ps ws k s st c (wh ++ [0])).length : Int) ≤ 9 * ce n
    have := h0 n o.2
    split
    · show (0 : Int) ≤ _
      omega
    · rename_i s e
      obtain ⟨o', e'⟩ := hp n s e
      rw [e']
      exact uP_len hp h0 k n 5 s st c _ o'
  | k + 1, i, d + 1, .all ks, st, c, wh, o => allU_len ks 0 fun s hs j => uP_len hp h0 k i d s st c _ (o.2.2 s hs)
  | k + 1, i, d + 1, .best ks, st, c, wh, o => by
    have := bestU_len (f := fun s j => uP ps ws k s st c (wh ++ [j])) (g := er ce d) ks 0 [] (fun s hs j => uP_len hp h0 k i d s st c _ (o.2.2 s hs)) (fun s hs => er_nonneg (c := ce) (fun j _ hj => h0 j hj) d s (o.2.2 s hs)) 0 (by simp) (Int.le_refl _)
    rw [Int.zero_add] at this
    exact this
  | k + 1, i, d + 1, .fin x p s, st, c, wh, o => by
    show ((if lastOk ws c x st = true then List.replicate p.toNat (ws.length - 1, wh) else uP ps ws k s st c (wh ++ [0])).length : Int) ≤ 9 * (1 + er ce d s)
    have := er_nonneg (c := ce) (fun j _ hj => h0 j hj) d s o.2
    have := o.1.2.2
    have := uP_len (ws := ws) hp h0 k i d s st c (wh ++ [0]) o.2
    split
    · rw [List.length_replicate]
      omega
    · omega
  | k + 1, i, d + 1, .seen x s, st, c, wh, o => by
    show ((if (ws.any fun p => p.1 == x) = true then uP ps ws k s st c (wh ++ [0]) else []).length : Int) ≤ 9 * er ce d s
    have := er_nonneg (c := ce) (fun j _ hj => h0 j hj) d s o.2
    split
    · exact uP_len hp h0 k i d s st c _ o.2
    · show (0 : Int) ≤ _
      omega
  | k + 1, i, d + 1, .most n s, st, c, wh, o => by
    have := uP_len (ws := ws) hp h0 k i d s st c (wh ++ [0]) o.2
    have := take_le (uP ps ws k s st c (wh ++ [0])) n.toNat
    show (((uP ps ws k s st c (wh ++ [0])).take n.toNat).length : Int) ≤ 9 * er ce d s
    omega
  | k + 1, i, d + 1, .half s, st, c, wh, o => by
    have := uP_len (ws := ws) hp h0 k i d s st c (wh ++ [0]) o
    have := take_le (uP ps ws k s st c (wh ++ [0])) ((uP ps ws k s st c (wh ++ [0])).length / 2)
    show (((uP ps ws k s st c (wh ++ [0])).take _).length : Int) ≤ 9 * er ce d s
    omega
  | k + 1, i, d + 1, .carry s, st, c, wh, o => uP_len hp h0 k i d s st true (wh ++ [0]) o
end MS
end
section
set_option maxRecDepth 100000
set_option maxHeartbeats 4000000
namespace MS
open PySem L2
abbrev nmUnits : List Str := ["_law_paper_here", "_law_scheme_here", "_law_work_here", "_law_look", "_law_is_carried", "_law_where", "_law_word", "_law_signs", "_law_some", "_law_later", "_law_found", "_law_k", "_law_place", "_law_step_here"]
abbrev psUnits : List Str := ["_law_paper_here", "_law_scheme_here", "_law_work_here", "_law_look", "_law_is_carried", "_law_where"]
/-- the paper, the work, the places looked at -/
structure UCtx (H : Hp) (ps : List Sch) (ws : List StepT) (pa wa la : Addr) (st : Nat) : Prop where
  paper : ∃ pv, H pa = some (.tup pv) ∧ Paired (SAt H 5) ps pv
  work : H wa = some (.lst (stepsV ws))
  look : H la = some (.lst (natV (List.range' st (ws.length - st))))
theorem UCtx.keep {H H' : Hp} {ps : List Sch} {ws : List StepT} {pa wa la : Addr} {st : Nat} (h : UCtx H ps ws pa wa la st) (k : Same H H') : UCtx H' ps ws pa wa la st := by
  obtain ⟨⟨pv, e, p⟩, h2, h3⟩ := h
  exact ⟨⟨pv, k _ _ e, paired_imp p fun s v => SAt.keep (Same.tupK k) _ _ _⟩, k _ _ h2, k _ _ h3⟩
def spUnits (ps : List Sch) (ws : List StepT) (ce : Nat → Int) (M k : Nat) : Sp := fun vs H Q _ => ∃ (pa wa la wr : Addr) (v : V) (c : Bool) (s : Sch) (i d st : Nat) (wh : List Nat), vs = [.ref pa, v, .ref wa, .ref la, .bl c, .ref wr] ∧
  UCtx H ps ws pa wa la st ∧ st ≤ ws.length ∧ SAt H d s v ∧ OkS i M d s ∧ er ce d s ≤ 7 ∧ (M - i) * 5 + d ≤ k ∧ wh.length + k ≤ 100 ∧ H wr = some (.tup (natV wh)) ∧
  ∀ (r : Addr) (uv : List V) (H' : Hp), Same H H' → H r = none → H' r = some (.lst uv) → Paired (UnR H') (uP ps ws k s st c wh) uv → Q (.ref r) H'
theorem strl2 {z : Str} (h : z.length = 2) : z.length ≤ sizeLine := by rw [h]; decide
/-- a test that may make new things -/
theorem seq_new {tc : TT} {t r : TS} {D : Ends} {σ : St} {H : Hp} {b : Bool} (h : ∀ Q : Bool → Hp → Prop, (∀ H', Same H H' → Q b H') → tc σ H Q) (k1 : b = true → ∀ H', Same H H' → t { D with nx := r D } σ H') (k2 : b = false → ∀ H', Same H H' → r D σ H') : tSeq (tIfS tc t tNext) r D σ H := h _ fun H' s => by
  cases b with
  | true => exact iteT (k1 rfl H' s)
  | false => exact iteF (k2 rfl H' s)
theorem in_two {K : PySem.W.Frag} {σ : St} {H : Hp} {i : Nat} {nm x y : Str} {b : Bool} (s : σ[i]? = some (some (.str nm))) (e : inV (.str nm) [.str x, .str y] = b) : ∀ Q : Bool → Hp → Prop, (∀ H', Same H H' → Q b H') → tTest (tOp (rIn K false) (tVar i) (tTup (tCons (tC (.str x)) (tCons (tC (.str y)) tNil)))) σ H Q := fun Q q =>
  ⟨_, s, sz2, fun t ht => ⟨t, _, rfl, .inr (SqT.of upd_same), rfl, rfl, _, rfl, by
    show Q (inV (.str nm) [.str x, .str y]) _
    rw [e]
    exact q _ (Same.new ht)⟩⟩
theorem is_word {σ : St} {H : Hp} {i : Nat} {nm x : Str} {b : Bool} (s : σ[i]? = some (some (.str nm))) (e : (nm == x) = b) : ∀ Q : Bool → Hp → Prop, Q b H → tTest (tOp rEq (tVar i) (tC (.str x))) σ H Q := fun Q q =>
  ⟨_, s, rfl, _, rfl, by rw [dec_str, e]; exact q⟩
def sgL (c : Bool) : List V := cutV [.str "r", .str "c"] none (some (1 + if c then 1 else 0))
theorem sg_in {c : Bool} {m : Str} (h : IsM m) : inV (.str m) (sgL c) = (m == "r" || (c && m == "c")) := by
  have h' : m ∈ marksL := h
  have q : ∀ c : Bool, ∀ y ∈ marksL, inV (.str y) (sgL c) = (y == "r" || (c && y == "c")) := by decide +kernel
  exact q c m h'
theorem sg_flat (c : Bool) : (sgL c).all flatV = true := by cases c <;> rfl
theorem SAt.tag {H : Hp} {d : Nat} {s : Sch} {v : V} (h : SAt H d s v) : ∃ a nm rest, v = V.ref a ∧ H a = some (.tup (.str nm :: rest)) := by
  cases d with
  | zero => cases h
  | succ d =>
    cases s with
    | step x p => obtain ⟨a, e, h⟩ := h; exact ⟨a, _, _, e, h⟩
    | all k => obtain ⟨a, b, vs, e, h, _⟩ := h; exact ⟨a, _, _, e, h⟩
    | best k => obtain ⟨a, b, vs, e, h, _⟩ := h; exact ⟨a, _, _, e, h⟩
    | most n s => obtain ⟨a, u, e, h, _⟩ := h; exact ⟨a, _, _, e, h⟩
    | half s => obtain ⟨a, u, e, h, _⟩ := h; exact ⟨a, _, _, e, h⟩
    | seen x s => obtain ⟨a, u, e, h, _⟩ := h; exact ⟨a, _, _, e, h⟩
    | behind x s => obtain ⟨a, u, e, h, _⟩ := h; exact ⟨a, _, _, e, h⟩
    | carry s => obtain ⟨a, u, e, h, _⟩ := h; exact ⟨a, _, _, e, h⟩
    | fin x p s => obtain ⟨a, u, e, h, _⟩ := h; exact ⟨a, _, _, e, h⟩
    | use n => obtain ⟨a, e, h⟩ := h; exact ⟨a, _, _, e, h⟩
/-- what has one scheme within, but no `behind` -/
structure OneR (H : Hp) (i M d : Nat) (sc : Sch) (nm : Str) (rest : List V) : Prop where
  nb : inV (.str nm) [.str "step", .str "behind"] = false
  nu : (nm == "use") = false
  na : inV (.str nm) [.str "all", .str "best"] = false
  nm5 : nm = "most" ∨ nm = "half" ∨ nm = "seen" ∨ nm = "carry" ∨ nm = "end"
  kid : ∃ u s', atI (.str nm :: rest) (-1) = some u ∧ SAt H d s' u ∧ OkS i M d s' ∧ (nm = "end" → ∃ x p, sc = .fin x p s' ∧ rest = [.str x, .int p, u] ∧ IsW x ∧ 1 ≤ p ∧ p ≤ 9) ∧ (nm = "seen" → ∃ x, sc = .seen x s' ∧ rest = [.str x, u] ∧ IsW x) ∧
    (nm = "most" → ∃ n, sc = .most n s' ∧ rest = [.int n, u] ∧ 0 ≤ n) ∧ (nm = "half" → sc = .half s' ∧ rest = [u]) ∧ (nm = "carry" → sc = .carry s' ∧ rest = [u]) ∧ ∃ x1, atI (.str nm :: rest) 1 = some x1
inductive SKind (H : Hp) (i M d : Nat) : Sch → Str → List V → Prop
  | step {x : Str} {p : Int} (hx : IsW x) (h1 : 1 ≤ p) (h2 : p ≤ 9) : SKind H i M d (.step x p) "step" [.str x, .int p]
  | behind {x : Str} {s : Sch} {u : V} (hx : IsW x) (hs : SAt H d s u) (ho : OkS i M d s) : SKind H i M d (.behind x s) "behind" [.str x, u]
  | use {n : Nat} (h1 : i < n) (h2 : n < M) : SKind H i M d (.use n) "use" [.int ((n : Nat) : Int)]
  | all {ks : List Sch} {b : Addr} {vs : List V} (eb : H b = some (.tup vs)) (hk : Paired (SAt H d) ks vs) (ho : ∀ s ∈ ks, OkS i M d s) (hl : ks.length ≤ 4) : SKind H i M d (.all ks) "all" [.ref b]
  | best {ks : List Sch} {b : Addr} {vs : List V} (eb : H b = some (.tup vs)) (hk : Paired (SAt H d) ks vs) (ho : ∀ s ∈ ks, OkS i M d s) (hl : ks.length ≤ 4) : SKind H i M d (.best ks) "best" [.ref b]
  | one {sc : Sch} {nm : Str} {rest : List V} (h : OneR H i M d sc nm rest) : SKind H i M d sc nm rest
theorem SAt.kind {H : Hp} {i M d : Nat} {sc : Sch} {a : Addr} {nm : Str} {rest : List V} (h : SAt H (d + 1) sc (.ref a)) (o : OkS i M (d + 1) sc) (ea : H a = some (.tup (.str nm :: rest))) : SKind H i M d sc nm rest := by
  have inj : ∀ {a' : Addr} {nm' : Str} {rest' : List V}, (V.ref a = V.ref a') → H a' = some (.tup (.str nm' :: rest')) → nm' = nm ∧ rest' = rest := fun e h => by
    cases e
    rw [ea] at h
    cases h
    exact ⟨rfl, rfl⟩
  cases sc with
  | step x p =>
    obtain ⟨a', e, h⟩ := h
    obtain ⟨rfl, rfl⟩ := inj e h
    exact .step o.1 o.2.1 o.2.2
  | all k =>
    obtain ⟨a', b, vs, e, h, eb, hk⟩ := h
    obtain ⟨rfl, rfl⟩ := inj e h
    exact .all eb hk o.2.2 o.2.1
  | best k =>
    obtain ⟨a', b, vs, e, h, eb, hk⟩ := h
    obtain ⟨rfl, rfl⟩ := inj e h
    exact .best eb hk o.2.2 o.2.1
  | most n s =>
    obtain ⟨a', u, e, h, hs⟩ := h
    obtain ⟨rfl, rfl⟩ := inj e h
    exact .one ⟨by decide +kernel, by decide +kernel, by decide +kernel, .inl rfl, u, s, rfl, hs, o.2, (fun z => absurd z (by decide +kernel)), (fun z => absurd z (by decide +kernel)), fun _ => ⟨n, rfl, rfl, o.1.1⟩, (fun z => absurd z (by decide +kernel)), (fun z => absurd z (by decide +kernel)), _, at1⟩
  | half s =>
    obtain ⟨a', u, e, h, hs⟩ := h
    obtain ⟨rfl, rfl⟩ := inj e h
    exact .one ⟨by decide +kernel, by decide +kernel, by decide +kernel, .inr (.inl rfl), u, s, rfl, hs, o, (fun z => absurd z (by decide +kernel)), (fun z => absurd z (by decide +kernel)), (fun z => absurd z (by decide +kernel)), fun _ => ⟨rfl, rfl⟩, (fun z => absurd z (by decide +kernel)), _, at1⟩
  | seen x s =>
    obtain ⟨a', u, e, h, hs⟩ := h
    obtain ⟨rfl, rfl⟩ := inj e h
    exact .one ⟨by decide +kernel, by decide +kernel, by decide +kernel, .inr (.inr (.inl rfl)), u, s, rfl, hs, o.2, (fun z => absurd z (by decide +kernel)), (fun _ => ⟨x, rfl, rfl, o.1⟩), (fun z => absurd z (by decide +kernel)), (fun z => absurd z (by decide +kernel)), (fun z => absurd z (by decide +kernel)), _, at1⟩
  | behind x s =>
    obtain ⟨a', u, e, h, hs⟩ := h
    obtain ⟨rfl, rfl⟩ := inj e h
    exact .behind o.1 hs o.2
  | carry s =>
    obtain ⟨a', u, e, h, hs⟩ := h
    obtain ⟨rfl, rfl⟩ := inj e h
    exact .one ⟨by decide +kernel, by decide +kernel, by decide +kernel, .inr (.inr (.inr (.inl rfl))), u, s, rfl, hs, o, (fun z => absurd z (by decide +kernel)), (fun z => absurd z (by decide +kernel)), (fun z => absurd z (by decide +kernel)), (fun z => absurd z (by decide +kernel)), fun _ => ⟨rfl, rfl⟩, _, at1⟩
  | fin x p s =>
    obtain ⟨a', u, e, h, hs⟩ := h
    obtain ⟨rfl, rfl⟩ := inj e h
    exact .one ⟨by decide +kernel, by decide +kernel, by decide +kernel, .inr (.inr (.inr (.inr rfl))), u, s, rfl, hs, o.2, (fun _ => ⟨x, p, rfl, rfl, o.1.1, o.1.2.1, o.1.2.2⟩), (fun z => absurd z (by decide +kernel)), (fun z => absurd z (by decide +kernel)), (fun z => absurd z (by decide +kernel)), (fun z => absurd z (by decide +kernel)), _, at1⟩
  | use n =>
    obtain ⟨a', e, h⟩ := h
    obtain ⟨rfl, rfl⟩ := inj e h
    exact .use o.1 o.2
theorem natV_len (l : List Nat) : (natV l).length = l.length := List.length_map _
theorem natV_snoc (l : List Nat) (j : Nat) : natV l ++ [V.int ((j : Nat) : Int)] = natV (l ++ [j]) := by
  unfold natV
  rw [List.map_append]
  rfl
theorem range_after {st n i : Nat} (h1 : st ≤ i) (h2 : i < n) : (List.range' st (n - st)).filter (fun q => decide (i < q)) = List.range' (i + 1) (n - (i + 1)) := by
  have e : List.range' st (n - st) = List.range' st (i + 1 - st) ++ List.range' (i + 1) (n - (i + 1)) := by
    have z := List.range'_append (s := st) (m := i + 1 - st) (n := n - (i + 1)) (step := 1)
    rw [Nat.one_mul, show st + (i + 1 - st) = i + 1 by omega, show i + 1 - st + (n - (i + 1)) = n - st by omega] at z
    exact z.symm
  have e1 : (List.range' st (i + 1 - st)).filter (fun q => decide (i < q)) = [] := List.filter_eq_nil_iff.mpr fun q hq => by
    have := (List.mem_range'_1.mp hq).2
    simp
    omega
  have e2 : (List.range' (i + 1) (n - (i + 1))).filter (fun q => decide (i < q)) = List.range' (i + 1) (n - (i + 1)) := List.filter_eq_self.mpr fun q hq => by
    have := (List.mem_range'_1.mp hq).1
    simp
    omega
  rw [e, List.filter_append, e1, e2, List.nil_append]
theorem hits_in {ws : List StepT} {c : Bool} {x : Str} {st i : Nat} {r : List Nat} (h : hits ws c x st = i :: r) : st ≤ i ∧ i < ws.length := by
  have m : i ∈ hits ws c x st := by rw [h]; exact List.mem_cons_self
  have z := List.mem_range'_1.mp (List.mem_filter.mp m).1
  omega
theorem flat_rep {α : Type} (x : α) : ∀ n : Nat, (List.replicate n [x]).flatten = List.replicate n x
  | 0 => rfl
  | n + 1 => by
    show [x] ++ (List.replicate n [x]).flatten = x :: List.replicate n x
    rw [flat_rep x n]
    rfl
theorem paired_rep {α β : Type} {R : α → β → Prop} {x : α} {y : β} (h : R x y) : ∀ n : Nat, Paired R (List.replicate n x) (List.replicate n y)
  | 0 => .nil
  | n + 1 => .cons h (paired_rep h n)
theorem natV_ints (l : List Nat) : natV l = (l.map fun j : Nat => ((j : Nat) : Int)).map V.int := by
  unfold natV
  rw [List.map_map]
  rfl
theorem ints_nil (ns : List Int) : PyData.eqv (.list (ns.map PyData.int)) (.list []) = ns.isEmpty := by
  cases ns with
  | nil => rfl
  | cons a r => rfl
theorem cat_where {K : PySem.W.Frag} {σ : St} {H : Hp} {wr : Addr} {wh : List Nat} {j : Nat} {te : TE} {Q : VK} (s5 : σ[5]? = some (some (.ref wr))) (ewr : H wr = some (.tup (natV wh))) (hl : wh.length ≤ 200) (ht : ∀ Q : VK, Q (.int ((j : Nat) : Int)) H → te σ H Q)
    (q : ∀ (wr' : Addr) (H' : Hp), Same H H' → H' wr' = some (.tup (natV (wh ++ [j]))) → Q (.ref wr') H') : tOp (rCatA K) (tVar 5) (tTup (tCons te tNil)) σ H Q := by
  refine ⟨_, s5, ht _ ⟨(by show 1 ≤ sizeLine; decide), fun t htn => ⟨wr, t, natV wh, [.int ((j : Nat) : Int)], rfl, rfl, SqT.of (Same.new htn _ _ ewr), SqT.of upd_same, szN (by rw [natV_len]; show wh.length + 1 ≤ 1000; omega), (fun z => ?_), (fun _ z => nomatch z), fun z _ p hp => ?_⟩⟩⟩
  · have z' : wh = [] := List.map_eq_nil_iff.mp z
    subst z'
    exact q t _ (Same.new htn) upd_same
  · exact q p _ ((Same.new htn).trans (Same.new hp)) (by rw [upd_same, natV_snoc])
theorem allU_snoc {α : Type} (f : Sch → Nat → List α) : ∀ (l : List Sch) (s : Sch) (j : Nat), allU f (l ++ [s]) j = allU f l j ++ f s (j + l.length)
  | [], s, j => by
    show f s j ++ [] = [] ++ f s (j + 0)
    rw [List.append_nil]
    rfl
  | a :: l, s, j => by
    show f a j ++ allU f (l ++ [s]) (j + 1) = (f a j ++ allU f l (j + 1)) ++ f s (j + (l.length + 1))
    rw [allU_snoc f l s (j + 1), List.append_assoc, show j + 1 + l.length = j + (l.length + 1) by omega]
theorem bestU_snoc {α : Type} (f : Sch → Nat → List α) : ∀ (l : List Sch) (s : Sch) (j : Nat) (acc : List α), bestU f (l ++ [s]) j acc = if (bestU f l j acc).length < (f s (j + l.length)).length then f s (j + l.length) else bestU f l j acc
  | [], s, j, acc => rfl
  | a :: l, s, j, acc => by
    show bestU f (l ++ [s]) (j + 1) _ = if (bestU f l (j + 1) _).length < (f s (j + (l.length + 1))).length then f s (j + (l.length + 1)) else bestU f l (j + 1) _
    rw [bestU_snoc f l s (j + 1), show j + 1 + l.length = j + (l.length + 1) by omega]
theorem le_sum {l : List Int} (h : ∀ x ∈ l, 0 ≤ x) : ∀ x ∈ l, x ≤ l.sum := by
  induction l with
  | nil => intro x hx; cases hx
  | cons a r ih =>
    intro x hx
    have nn : ∀ {r : List Int}, (∀ x ∈ r, 0 ≤ x) → 0 ≤ r.sum := by
      intro r
      induction r with
      | nil => intro _; exact Int.le_refl _
      | cons b t ih2 =>
        intro h2
        have := ih2 fun x hx => h2 x (List.mem_cons_of_mem _ hx)
        have := h2 b List.mem_cons_self
        rw [List.sum_cons]
        omega
    have n1 := nn fun x hx => h x (List.mem_cons_of_mem _ hx)
    rw [List.sum_cons]
    rcases List.mem_cons.mp hx with rfl | hx
    · omega
    · have := ih (fun x hx => h x (List.mem_cons_of_mem _ hx)) x hx
      have := h a List.mem_cons_self
      omega
theorem ev_and_new {t u : TT} {σ : St} {H : Hp} {b c : Bool} (h1 : ∀ Q : Bool → Hp → Prop, (∀ H', Same H H' → Q b H') → t σ H Q) (h2 : b = true → ∀ H', Same H H' → ∀ Q : Bool → Hp → Prop, (∀ H'', Same H' H'' → Q c H'') → u σ H' Q) :
    ∀ Q : Bool → Hp → Prop, (∀ H', Same H H' → Q (b && c) H') → tAnd t u σ H Q := fun Q q => h1 _ fun H' s => by
  cases b with
  | true => exact iteT (h2 rfl H' s _ fun H'' s'' => q H'' (s.trans s''))
  | false => exact iteF (q H' s)
theorem seq_to {C : Prop} {tc : TT} {t r : TS} {D : Ends} {σ : St} {H : Hp} {b : Bool} (h : ∀ Q : Bool → Hp → Prop, (∀ H', Same H H' → Q b H') → tc σ H Q) (k1 : b = true → ∀ H', Same H H' → (C → ∀ H'', Same H H'' → r D σ H'') → t { D with nx := r D } σ H') (k2 : b = false → C)
    (rest : C → ∀ H', Same H H' → r D σ H') : tSeq (tIfS tc t tNext) r D σ H := seq_new h (fun e H' s => k1 e H' s rest) (fun e H' s => rest (k2 e) H' s)
theorem to_new {t : TT} {σ : St} {H H0 : Hp} {b : Bool} (s : Same H0 H) (h : ∀ Q : Bool → Hp → Prop, Q b H → t σ H Q) : ∀ Q : Bool → Hp → Prop, (∀ H', Same H0 H' → Q b H') → t σ H Q := fun Q q => h Q (q H s)
theorem range_last {st n : Nat} (h : st < n) : List.range' st (n - st) = List.range' st (n - st - 1) ++ [n - 1] := by
  have e : n - st = (n - st - 1) + 1 := by omega
  have z := List.range'_concat (s := st) (n := n - st - 1) (step := 1)
  rw [← e, Nat.one_mul, show st + (n - st - 1) = n - 1 by omega] at z
  exact z
theorem paired_app {α β : Type} {R : α → β → Prop} {as cs : List α} {bs ds : List β} (h : Paired R as bs) (g : Paired R cs ds) : Paired R (as ++ cs) (bs ++ ds) := by
  induction h with
  | nil => exact g
  | cons r _ ih => exact .cons r ih
theorem in_words (x : Str) (ws : List StepT) : inV (.str x) (ws.map fun p : StepT => V.str p.1) = ws.any fun p => p.1 == x := by
  unfold inV
  rw [List.any_map]
  rfl
theorem or_carry {σ : St} {H : Hp} {c : Bool} {nm : Str} {Q : VK} (s4 : σ[4]? = some (some (.bl c))) (s6 : σ[6]? = some (some (.str nm))) (q : Q (.bl (c || nm == "carry")) H) : tOrV (tVar 4) (tOp rEq (tVar 6) (tC (.str "carry"))) σ H Q :=
  ⟨_, s4, c, rfl, by
    cases c with
    | true => exact iteT q
    | false => exact iteF ⟨_, s6, rfl, by rw [dec_str]; exact q⟩⟩
theorem look_last {st n : Nat} (h : st < n) : atI (natV (List.range' st (n - st))) (-1) = some (V.int ((n - 1 : Nat) : Int)) := by
  rw [range_last h, ← natV_snoc]
  exact atI_last _ _
theorem last_get {ws : List StepT} (h : 0 < ws.length) : ws.getLast? = some (ws[ws.length - 1]'(by omega)) := by
  rw [List.getLast?_eq_getElem?, List.getElem?_eq_getElem (by omega)]
theorem steps_last {ws : List StepT} (h : 0 < ws.length) : atI (stepsV ws) (-1) = some (V.str (stepS (ws[ws.length - 1]'(by omega)))) := by
  have hl : (stepsV ws).length = ws.length := List.length_map _
  unfold atI ixN
  rw [hl, if_neg (by decide), if_pos (by omega), show ((-1 : Int) + (ws.length : Int)).toNat = ws.length - 1 by omega]
  exact get_map (fun p => V.str (stepS p)) ws (by omega)
def seenW : Sch → Str
  | .seen x _ => x
  | _ => ""
theorem get_most {x y : V} : valV (mergeK [] [((.inr "most" : Key), x), (.inr "half", y)]) (.inr "most") = some x := by
  have h1 : ((.inr "most" : Key) = .inr "half") = False := by simp; decide +kernel
  have h2 : ((.inr "half" : Key) = .inr "most") = False := by simp; decide +kernel
  simp [mergeK, putK, valV, h1, h2]
theorem get_half {x y : V} : valV (mergeK [] [((.inr "most" : Key), x), (.inr "half", y)]) (.inr "half") = some y := by
  have h1 : ((.inr "most" : Key) = .inr "half") = False := by simp; decide +kernel
  have h2 : ((.inr "half" : Key) = .inr "most") = False := by simp; decide +kernel
  simp [mergeK, putK, valV, h1, h2]
theorem get_none {x y : V} {nm : Str} (n1 : ("most" : Str) ≠ nm) (n2 : ("half" : Str) ≠ nm) : valV (mergeK [] [((.inr "most" : Key), x), (.inr "half", y)]) (.inr nm) = none := by
  have h1 : ((.inr "most" : Key) = .inr "half") = False := by simp; decide +kernel
  have h3 : ((.inr "most" : Key) = .inr nm) = False := by simpa using n1
  have h4 : ((.inr "half" : Key) = .inr nm) = False := by simpa using n2
  simp [mergeK, putK, valV, h1, h3, h4]
section
variable {P : Program} {w : World} {K : PySem.W.Frag} {mg : Str → Option Value} {base : Heap}
end
end MS
end
section
set_option maxRecDepth 100000
set_option maxHeartbeats 4000000
namespace MS
open PySem L2
theorem rg_nat (n : Nat) : rgV 0 (n : Int) = natV (List.range' 0 n) := by
  unfold rgV natV
  rw [show ((n : Int) - 0).toNat = n by omega, List.range_eq_range']
  refine List.map_congr_left fun i _ => ?_
  rw [Int.zero_add]
theorem PaperOk.facts {ps : List Sch} (h : PaperOk ps) : ∃ ce : Nat → Int, (∀ (j : Nat) (s : Sch), ps[j]? = some s → OkS j ps.length 5 s ∧ ce j = er ce 5 s) ∧ (∀ j, j < ps.length → 0 ≤ ce j) ∧ ∀ j, j < ps.length → ce j ≤ 7 := by
  obtain ⟨_, _, ce, cw, t⟩ := h
  have hp : ∀ (j : Nat) (s : Sch), ps[j]? = some s → OkS j ps.length 5 s ∧ ce j = er ce 5 s := fun j s e => by
    obtain ⟨q1, q2, _⟩ := t j s e
    rw [Nat.zero_add] at q1 q2
    exact ⟨q1, q2⟩
  have h0 : ∀ n j, ps.length - j ≤ n → j < ps.length → 0 ≤ ce j := by
    intro n
    induction n with
    | zero => intro j a b; omega
    | succ n ih =>
      intro j a b
      obtain ⟨o, e⟩ := hp j _ (List.getElem?_eq_getElem b)
      rw [e]
      exact er_nonneg (fun j' h1 h2 => ih j' (by omega) h2) 5 _ o
  refine ⟨ce, hp, fun j hj => h0 _ j (Nat.le_refl _) hj, fun j hj => ?_⟩
  obtain ⟨_, q2, _, _, q5, _⟩ := t j _ (List.getElem?_eq_getElem hj)
  rw [Nat.zero_add] at q2
  rw [q2]
  exact q5
/-- a paper, a work -/
structure PWAt (H : Hp) (ps : List Sch) (ws : List StepT) (pa wa : Addr) : Prop where
  paper : ∃ pv, H pa = some (.tup pv) ∧ Paired (SAt H 5) ps pv
  work : H wa = some (.lst (stepsV ws))
theorem PWAt.keep {H H' : Hp} {ps : List Sch} {ws : List StepT} {pa wa : Addr} (h : PWAt H ps ws pa wa) (k : Same H H') : PWAt H' ps ws pa wa := by
  obtain ⟨⟨pv, e, p⟩, h2⟩ := h
  exact ⟨⟨pv, k _ _ e, paired_imp p fun s v => SAt.keep (Same.tupK k) _ _ _⟩, k _ _ h2⟩
/-- all that is earned, point by point -/
def uAll (ps : List Sch) (ws : List StepT) : List Un := match ps with
  | [] => []
  | s :: _ => uP ps ws 30 s 0 false []
/-- the rows of points -/
abbrev Row := Nat × Nat × List Nat
def addU (acc : List Row) (u : Un) : List Row := match acc.getLast? with
  | some (_, n, wh) => if wh = u.2 then acc.dropLast ++ [(u.1, n + 1, u.2)] else acc ++ [(u.1, 1, u.2)]
  | none => [(u.1, 1, u.2)]
def eP (us : List Un) : List Row := us.foldl addU []
def RowR (H : Hp) (u : Row) (v : V) : Prop := ∃ a b, v = V.ref a ∧ H a = some (.tup [.int ((u.1 : Nat) : Int), .int ((u.2.1 : Nat) : Int), .ref b]) ∧ H b = some (.tup (natV u.2.2))
theorem RowR.keep {H H' : Hp} {u : Row} {v : V} (h : RowR H u v) (k : TupK H H') : RowR H' u v := by
  obtain ⟨a, b, e, h1, h2⟩ := h
  exact ⟨a, b, e, k _ _ h1, k _ _ h2⟩
def spMarks (ps : List Sch) (ws : List StepT) : Sp := fun vs H Q _ => ∃ pa wa, vs = [.ref pa, .ref wa] ∧ PWAt H ps ws pa wa ∧ ∀ H', Same H H' → Q (.int (((uAll ps ws).length : Nat) : Int)) H'
def spEarned (ps : List Sch) (ws : List StepT) : Sp := fun vs H Q _ => ∃ pa wa, vs = [.ref pa, .ref wa] ∧ PWAt H ps ws pa wa ∧ ∀ (f : Addr) (rv : List V) (H' : Hp), Same H H' → H f = none → H' f = some (.lst rv) → Paired (RowR H') (eP (uAll ps ws)) rv → Q (.ref f) H'
theorem one_new {tc : TT} {t u : TS} {D : Ends} {σ : St} {H : Hp} {b : Bool} (h : ∀ Q : Bool → Hp → Prop, (∀ H', Same H H' → Q b H') → tc σ H Q) (k1 : b = true → ∀ H', Same H H' → t D σ H') (k2 : b = false → ∀ H', Same H H' → u D σ H') : tIfS tc t u D σ H := h _ fun H' s => by
  cases b with
  | true => exact iteT (k1 rfl H' s)
  | false => exact iteF (k2 rfl H' s)
theorem list_nil (ds : List PyData) : PyData.eqv (.list ds) (.list []) = ds.isEmpty := by
  cases ds with
  | nil => simp only [PyData.eqv, PyData.eqvAll]; rfl
  | cons a r => simp only [PyData.eqv, PyData.eqvAll]; rfl
def natD (l : List Nat) : List PyData := l.map fun j : Nat => PyData.int ((j : Nat) : Int)
theorem natD_eqvAll : ∀ l m : List Nat, PyData.eqvAll (natD l) (natD m) = decide (l = m)
  | [], [] => by show PyData.eqvAll [] [] = _; simp only [PyData.eqvAll]; rfl
  | [], b :: m => by show PyData.eqvAll [] (_ :: _) = _; simp only [PyData.eqvAll]; rfl
  | a :: l, [] => by show PyData.eqvAll (_ :: _) [] = _; simp only [PyData.eqvAll]; rfl
  | a :: l, b :: m => by
    have ih := natD_eqvAll l m
    show PyData.eqvAll (PyData.int ((a : Nat) : Int) :: natD l) (PyData.int ((b : Nat) : Int) :: natD m) = _
    simp only [PyData.eqvAll, PyData.eqv, ih]
    by_cases h1 : a = b
    · subst h1
      by_cases h2 : l = m
      · subst h2; simp
      · simp [h2]
    · have : ((a : Nat) : Int) ≠ ((b : Nat) : Int) := by omega
      simp [h1, this]
theorem natD_eqv (l m : List Nat) : PyData.eqv (.tuple (natD l)) (.tuple (natD m)) = decide (l = m) := by
  simp only [PyData.eqv]
  exact natD_eqvAll l m
theorem natD_sh (n : Nat) (l : List Nat) : ShAll n (natD l) := ShAll.of fun d h => by
  obtain ⟨i, _, rfl⟩ := List.mem_map.mp h
  exact .int _
theorem natD_dp {K : PySem.W.Frag} {H : Hp} : ∀ l : List Nat, DpAll K H (natV l) (natD l)
  | [] => .nil
  | n :: r => .cons (.int _) (natD_dp r)
def rowD (r : Row) : PyData := .tuple [.int ((r.1 : Nat) : Int), .int ((r.2.1 : Nat) : Int), .tuple (natD r.2.2)]
theorem rowD_sh (r : Row) : ShN 2 (rowD r) := .tup (.cons (.int _) (.cons (.int _) (.cons (.tup (natD_sh 0 _)) .nil)))
theorem rows_sh (rs : List Row) : ShN 3 (.list (rs.map rowD)) := .lst (ShAll.of fun d h => by
  obtain ⟨r, _, rfl⟩ := List.mem_map.mp h
  exact rowD_sh r)
theorem rows_dp {K : PySem.W.Frag} {H : Hp} : ∀ {rs : List Row} {rv : List V}, Paired (RowR H) rs rv → DpAll K H rv (rs.map rowD)
  | _, _, .nil => .nil
  | _, _, .cons h t => by
    obtain ⟨a, b, rfl, h1, h2⟩ := h
    exact .cons (.tup (SqT.of h1) (.cons (.int _) (.cons (.int _) (.cons (.tup (SqT.of h2) (natD_dp _)) .nil)))) (rows_dp t)
theorem paired_snoc_inv {α β : Type} {R : α → β → Prop} : ∀ {xs : List α} {x : α} {ys : List β}, Paired R (xs ++ [x]) ys → ∃ ys' y, ys = ys' ++ [y] ∧ Paired R xs ys' ∧ R x y
  | [], x, _, .cons h .nil => ⟨[], _, rfl, .nil, h⟩
  | a :: xs, x, _, .cons h t => by
    obtain ⟨ys', y, e, h1, h2⟩ := paired_snoc_inv t
    exact ⟨_ :: ys', y, by rw [e]; rfl, .cons h h1, h2⟩
theorem last_set (xs : List V) (x y : V) : (xs ++ [x]).set xs.length y = xs ++ [y] := by
  rw [List.set_append_right _ _ (Nat.le_refl _), Nat.sub_self]
  rfl
theorem ixN_last {n : Nat} : ixN (n + 1) (-1) = some n := by
  unfold ixN
  rw [if_neg (by decide), if_pos (by omega)]
  congr 1
  omega
theorem addU_len (acc : List Row) (u : Un) : (addU acc u).length ≤ acc.length + 1 := by
  unfold addU
  split
  · split
    · rw [List.length_append, List.length_dropLast, List.length_singleton]
      omega
    · simp
  · simp
def sameW (acc : List Row) (u : Un) : Bool := match acc.getLast? with
  | some r => decide (r.2.2 = u.2)
  | none => false
theorem sameW_snoc (ini : List Row) (r : Row) (u : Un) : sameW (ini ++ [r]) u = decide (r.2.2 = u.2) := by
  unfold sameW
  rw [show (ini ++ [r]).getLast? = some r by simp]
theorem addU_same (ini : List Row) (r : Row) (u : Un) (h : r.2.2 = u.2) : addU (ini ++ [r]) u = ini ++ [(u.1, r.2.1 + 1, u.2)] := by
  unfold addU
  rw [show (ini ++ [r]).getLast? = some r by simp]
  obtain ⟨a, b, c⟩ := r
  show (if c = u.2 then _ else _) = _
  rw [if_pos h]
  simp
theorem addU_else (acc : List Row) (u : Un) (h : ((!acc.isEmpty) && sameW acc u) = false) : addU acc u = acc ++ [(u.1, 1, u.2)] := by
  rcases List.eq_nil_or_concat acc with rfl | ⟨ini, r, rfl⟩
  · rfl
  · rw [List.concat_eq_append] at h ⊢
    rw [sameW_snoc] at h
    have h2 : r.2.2 ≠ u.2 := fun z => by
      rw [z, decide_eq_true rfl, Bool.and_true] at h
      cases ini <;> cases h
    unfold addU
    rw [show (ini ++ [r]).getLast? = some r by simp]
    obtain ⟨a, b, c⟩ := r
    show (if c = u.2 then _ else _) = _
    rw [if_neg h2]
section
variable {P : Program} {w : World} {K : PySem.W.Frag} {mg : Str → Option Value} {base : Heap}
end
end MS
end
section
set_option maxRecDepth 100000
set_option maxHeartbeats 4000000
namespace MS
open PySem L2
/-! ### the words of a scheme -/
def wP (ps : List Sch) : Nat → Sch → List Str
  | 0, _ => []
  | _ + 1, .step x _ => [x]
  | k + 1, .seen x s => x :: wP ps k s
  | k + 1, .behind x s => x :: wP ps k s
  | k + 1, .fin x _ s => x :: wP ps k s
  | k + 1, .most _ s => wP ps k s
  | k + 1, .half s => wP ps k s
  | k + 1, .carry s => wP ps k s
  | k + 1, .all ks => (ks.map (wP ps k)).flatten
  | k + 1, .best ks => (ks.map (wP ps k)).flatten
  | k + 1, .use n => match ps[n]? with
    | none => []
    | some s => wP ps k s
theorem wr_nonneg {i M : Nat} {c : Nat → Int} (h : ∀ j, i < j → j < M → 0 ≤ c j) : ∀ (d : Nat) (s : Sch), OkS i M d s → 0 ≤ wr c d s
  | 0, _, o => by cases o
  | _ + 1, .step _ _, _ => by show (0 : Int) ≤ 0; decide
  | d + 1, .all k, o => by
    show 0 ≤ (k.map (wr c d)).sum
    have : ∀ s ∈ k, 0 ≤ wr c d s := fun s hs => wr_nonneg h d s (o.2.2 s hs)
    clear o
    induction k with
    | nil => exact Int.le_refl _
    | cons a r ih =>
      rw [List.map_cons, List.sum_cons]
      have := ih fun s hs => this s (List.mem_cons_of_mem _ hs)
      have := ‹∀ s ∈ a :: r, 0 ≤ wr c d s› a List.mem_cons_self
      omega
  | d + 1, .best k, o => by
    show 0 ≤ (k.map (wr c d)).sum
    have : ∀ s ∈ k, 0 ≤ wr c d s := fun s hs => wr_nonneg h d s (o.2.2 s hs)
    clear o
    induction k with
    | nil => exact Int.le_refl _
    | cons a r ih =>
      rw [List.map_cons, List.sum_cons]
      have := ih fun s hs => this s (List.mem_cons_of_mem _ hs)
      have := ‹∀ s ∈ a :: r, 0 ≤ wr c d s› a List.mem_cons_self
      omega
  | d + 1, .most _ s, o => wr_nonneg h d s o.2
  | d + 1, .half s, o => wr_nonneg h d s o
  | d + 1, .seen _ s, o => by
    have := wr_nonneg h d s o.2
    show 0 ≤ 1 + wr c d s
    omega
  | d + 1, .behind _ s, o => by
    have := wr_nonneg h d s o.2
    show 0 ≤ 1 + wr c d s
    omega
  | d + 1, .carry s, o => wr_nonneg h d s o
  | d + 1, .fin _ _ s, o => wr_nonneg h d s o.2
  | _ + 1, .use n, o => h n o.1 o.2
/-- its words, the schemes within -/
structure WV (H : Hp) (i M d : Nat) (ps : List Sch) (k : Nat) (sc : Sch) (nm : Str) (rest : List V) (pre : List Str) (ks : List Sch) (kv : List V) : Prop where
  nu : (nm == "use") = false
  eq : wP ps (k + 1) sc = pre ++ (ks.map (wP ps k)).flatten
  pl : pre.length ≤ 1
  kl : ks.length ≤ 4
  ok : ∀ s ∈ ks, OkS i M d s
  at_ : Paired (SAt H d) ks kv
  w1 : inV (.str nm) [.str "step", .str "seen", .str "behind", .str "end"] = true → ∃ x, pre = [x] ∧ atI (.str nm :: rest) 1 = some (.str x)
  w0 : inV (.str nm) [.str "step", .str "seen", .str "behind", .str "end"] = false → pre = []
  k2 : inV (.str nm) [.str "all", .str "best"] = true → ∃ b, atI (.str nm :: rest) 1 = some (.ref b) ∧ H b = some (.tup kv)
  k1 : inV (.str nm) [.str "all", .str "best"] = false → nm ≠ "step" → ∃ u, atI (.str nm :: rest) (-1) = some u ∧ kv = [u]
  k0 : nm = "step" → kv = []
theorem SKind.words {H : Hp} {i M d : Nat} {ps : List Sch} {k : Nat} {sc : Sch} {nm : Str} {rest : List V} (h : SKind H i M d sc nm rest) : (∃ n : Nat, rest = [.int ((n : Nat) : Int)] ∧ sc = .use n ∧ nm = "use" ∧ i < n ∧ n < M) ∨ ∃ pre ks kv, WV H i M d ps k sc nm rest pre ks kv := by
  cases h with
  | @step x p hx _ _ => exact .inr ⟨[x], [], [], by decide +kernel, rfl, by simp, by simp, (fun s h => nomatch h), .nil, fun _ => ⟨x, rfl, at1⟩, (fun z => absurd z (by decide +kernel)), (fun z => absurd z (by decide +kernel)), fun _ z => absurd rfl z, fun _ => rfl⟩
  | @behind x s u hx hs ho => exact .inr ⟨[x], [s], [u], by decide +kernel, by show x :: wP ps k s = [x] ++ (wP ps k s ++ []); rw [List.append_nil]; rfl, by simp, by simp, (fun s' h' => by rw [List.mem_singleton.mp h']; exact ho), .cons hs .nil, fun _ => ⟨x, rfl, at1⟩, (fun z => absurd z (by decide +kernel)), (fun z => absurd z (by decide +kernel)), fun _ _ => ⟨u, rfl, rfl⟩, (fun z => absurd z (by decide +kernel))⟩
  | use h1 h2 => exact .inl ⟨_, rfl, rfl, rfl, h1, h2⟩
  | @all ks b vs eb hk ho hl => exact .inr ⟨[], ks, vs, by decide +kernel, rfl, by simp, hl, ho, hk, (fun z => absurd z (by decide +kernel)), fun _ => rfl, fun _ => ⟨b, at1, eb⟩, (fun z => absurd z (by decide +kernel)), (fun z => absurd z (by decide +kernel))⟩
  | @best ks b vs eb hk ho hl => exact .inr ⟨[], ks, vs, by decide +kernel, rfl, by simp, hl, ho, hk, (fun z => absurd z (by decide +kernel)), fun _ => rfl, fun _ => ⟨b, at1, eb⟩, (fun z => absurd z (by decide +kernel)), (fun z => absurd z (by decide +kernel))⟩
  | one h =>
    obtain ⟨u, s', hlast, hs', ho', c5, c6, cm, chh, cc, x1, ex1⟩ := h.kid
    have nst : nm ≠ "step" := fun e => by
      have := h.nb
      rw [e] at this
      exact absurd this (by decide +kernel)
    have a1 : ∀ s ∈ [s'], OkS i M d s := fun s h' => by rw [List.mem_singleton.mp h']; exact ho'
    rcases h.nm5 with e | e | e | e | e
    · obtain ⟨n, hsc, hre, _⟩ := cm e
      exact .inr ⟨[], [s'], [u], h.nu, by rw [hsc]; show wP ps k s' = [] ++ (wP ps k s' ++ []); rw [List.append_nil]; rfl, by simp, by simp, a1, .cons hs' .nil, (fun z => by rw [e] at z; exact absurd z (by decide +kernel)), fun _ => rfl, (fun z => by rw [h.na] at z; cases z), fun _ _ => ⟨u, hlast, rfl⟩, fun z => absurd z nst⟩
    · obtain ⟨hsc, hre⟩ := chh e
      exact .inr ⟨[], [s'], [u], h.nu, by rw [hsc]; show wP ps k s' = [] ++ (wP ps k s' ++ []); rw [List.append_nil]; rfl, by simp, by simp, a1, .cons hs' .nil, (fun z => by rw [e] at z; exact absurd z (by decide +kernel)), fun _ => rfl, (fun z => by rw [h.na] at z; cases z), fun _ _ => ⟨u, hlast, rfl⟩, fun z => absurd z nst⟩
    · obtain ⟨x, hsc, hre, hx⟩ := c6 e
      exact .inr ⟨[x], [s'], [u], h.nu, by rw [hsc]; show x :: wP ps k s' = [x] ++ (wP ps k s' ++ []); rw [List.append_nil]; rfl, by simp, by simp, a1, .cons hs' .nil, fun _ => ⟨x, rfl, by rw [hre]; exact at1⟩, (fun z => by rw [e] at z; exact absurd z (by decide +kernel)), (fun z => by rw [h.na] at z; cases z), fun _ _ => ⟨u, hlast, rfl⟩, fun z => absurd z nst⟩
    · obtain ⟨hsc, hre⟩ := cc e
      exact .inr ⟨[], [s'], [u], h.nu, by rw [hsc]; show wP ps k s' = [] ++ (wP ps k s' ++ []); rw [List.append_nil]; rfl, by simp, by simp, a1, .cons hs' .nil, (fun z => by rw [e] at z; exact absurd z (by decide +kernel)), fun _ => rfl, (fun z => by rw [h.na] at z; cases z), fun _ _ => ⟨u, hlast, rfl⟩, fun z => absurd z nst⟩
    · obtain ⟨x, p, hsc, hre, hx, _⟩ := c5 e
      exact .inr ⟨[x], [s'], [u], h.nu, by rw [hsc]; show x :: wP ps k s' = [x] ++ (wP ps k s' ++ []); rw [List.append_nil]; rfl, by simp, by simp, a1, .cons hs' .nil, fun _ => ⟨x, rfl, by rw [hre]; exact at1⟩, (fun z => by rw [e] at z; exact absurd z (by decide +kernel)), (fun z => by rw [h.na] at z; cases z), fun _ _ => ⟨u, hlast, rfl⟩, fun z => absurd z nst⟩
theorem flat_len {g : Sch → Int} {f : Sch → List Str} : ∀ (ks : List Sch), (∀ s ∈ ks, ((f s).length : Int) ≤ g s) → (((ks.map f).flatten).length : Int) ≤ (ks.map g).sum
  | [], _ => Int.le_refl _
  | s :: r, h => by
    rw [List.map_cons, List.flatten_cons, List.length_append, List.map_cons, List.sum_cons]
    have := h s List.mem_cons_self
    have := flat_len r fun s hs => h s (List.mem_cons_of_mem _ hs)
    omega
theorem sum_two {g h : Sch → Int} : ∀ (ks : List Sch), (ks.map fun s => g s + h s).sum = (ks.map g).sum + (ks.map h).sum
  | [] => rfl
  | s :: r => by
    rw [List.map_cons, List.sum_cons, List.map_cons, List.sum_cons, List.map_cons, List.sum_cons, sum_two r]
    omega
theorem wP_len {ps : List Sch} {ce cw : Nat → Int} {M : Nat} (hp : ∀ (j : Nat) (s : Sch), ps[j]? = some s → OkS j M 5 s ∧ ce j = er ce 5 s ∧ cw j = wr cw 5 s) (h0 : ∀ j, j < M → 0 ≤ ce j) (h1 : ∀ j, j < M → 0 ≤ cw j) :
    ∀ (k : Nat) (i d : Nat) (s : Sch), OkS i M d s → ((wP ps k s).length : Int) ≤ er ce d s + wr cw d s
  | 0, i, d, s, o => by
    have := er_nonneg (c := ce) (fun j _ hj => h0 j hj) d s o
    have := wr_nonneg (c := cw) (fun j _ hj => h1 j hj) d s o
    show (0 : Int) ≤ _
    omega
  | k + 1, i, 0, s, o => by cases o
  | k + 1, i, d + 1, .step x p, o => by show (1 : Int) ≤ 1 + 0; decide
  | k + 1, i, d + 1, .behind x s, o => by
    have := wP_len hp h0 h1 k i d s o.2
    show (((x :: wP ps k s).length : Nat) : Int) ≤ er ce d s + (1 + wr cw d s)
    rw [List.length_cons]
    omega
  | k + 1, i, d + 1, .seen x s, o => by
    have := wP_len hp h0 h1 k i d s o.2
    show (((x :: wP ps k s).length : Nat) : Int) ≤ er ce d s + (1 + wr cw d s)
    rw [List.length_cons]
    omega
  | k + 1, i, d + 1, .fin x p s, o => by
    have := wP_len hp h0 h1 k i d s o.2
    show (((x :: wP ps k s).length : Nat) : Int) ≤ (1 + er ce d s) + wr cw d s
    rw [List.length_cons]
    omega
  | k + 1, i, d + 1, .use n, o => by
    show ((match ps[n]? with
      | none => []
      | some s => wP ps k s).length : Int) ≤ ce n + cw n
    have := h0 n o.2
    have := h1 n o.2
    split
    · show (0 : Int) ≤ _
      omega
    · rename_i s e
      obtain ⟨o', e1, e2⟩ := hp n s e
      rw [e1, e2]
      exact wP_len hp h0 h1 k n 5 s o'
  | k + 1, i, d + 1, .all ks, o => by
    have := flat_len (f := wP ps k) (g := fun s => er ce d s + wr cw d s) ks fun s hs => wP_len hp h0 h1 k i d s (o.2.2 s hs)
    rw [sum_two] at this
    exact this
  | k + 1, i, d + 1, .best ks, o => by
    have := flat_len (f := wP ps k) (g := fun s => er ce d s + wr cw d s) ks fun s hs => wP_len hp h0 h1 k i d s (o.2.2 s hs)
    rw [sum_two] at this
    exact this
  | k + 1, i, d + 1, .most n s, o => wP_len hp h0 h1 k i d s o.2
  | k + 1, i, d + 1, .half s, o => wP_len hp h0 h1 k i d s o
  | k + 1, i, d + 1, .carry s, o => wP_len hp h0 h1 k i d s o
def spWords (ps : List Sch) (M k : Nat) : Sp := fun vs H Q _ => ∃ (pa : Addr) (v : V) (s : Sch) (i d : Nat), vs = [.ref pa, v] ∧ (∃ pv, H pa = some (.tup pv) ∧ Paired (SAt H 5) ps pv) ∧ SAt H d s v ∧ OkS i M d s ∧ (M - i) * 5 + d ≤ k ∧ (wP ps k s).length ≤ 100 ∧
  ∀ (f : Addr) (H' : Hp), Same H H' → H f = none → H' f = some (.lst ((wP ps k s).map V.str)) → Q (.ref f) H'
abbrev psWords : List Str := ["_law_paper_here", "_law_scheme_here"]
theorem flat_split {f : Sch → List Str} : ∀ (ks : List Sch) (j : Nat) (s : Sch), ks[j]? = some s → (((ks.take j).map f).flatten).length + (f s).length ≤ ((ks.map f).flatten).length
  | [], _, _, h => by simp at h
  | a :: r, 0, s, h => by
    obtain rfl : a = s := by simpa using h
    rw [List.map_cons, List.flatten_cons, List.length_append]
    show 0 + _ ≤ _
    omega
  | a :: r, j + 1, s, h => by
    have ih := flat_split (f := f) r j s (by simpa using h)
    rw [List.take_succ_cons, List.map_cons, List.flatten_cons, List.length_append, List.map_cons, List.flatten_cons, List.length_append]
    omega
theorem found_if {σ : St} {H1 : Hp} {Q : VK} {b : Bool} {ta : TA} {pre : List V} (h1 : b = true → ∀ R : List V → Hp → Prop, R pre H1 → ta σ H1 R) (h2 : b = false → pre = []) (lp : pre.length ≤ 1000) (c : ∀ f, H1 f = none → Q (.ref f) (upd H1 f (.lst pre))) : if b = true then tLst ta σ H1 Q else tLst tNil σ H1 Q := by
  cases b with
  | true => exact iteT (h1 rfl _ ⟨szN lp, c⟩)
  | false =>
    have e := h2 rfl
    subst e
    exact iteF ⟨Nat.zero_le _, c⟩
theorem kids_if {σ : St} {H1 : Hp} {Q : VK} {b : Bool} {t1 t2 : TE} {kv : List V} (h1 : b = true → ∀ R : VK, (∀ l, H1 l = none → R (.ref l) (upd H1 l (.lst kv))) → t1 σ H1 R) (h2 : b = false → ∀ R : VK, (∀ l, H1 l = none → R (.ref l) (upd H1 l (.lst kv))) → t2 σ H1 R)
    (c : ∀ l, H1 l = none → Q (.ref l) (upd H1 l (.lst kv))) : if b = true then t1 σ H1 Q else t2 σ H1 Q := by
  cases b with
  | true => exact iteT (h1 rfl _ c)
  | false => exact iteF (h2 rfl _ c)
section
variable {P : Program} {w : World} {K : PySem.W.Frag} {mg : Str → Option Value} {base : Heap}
end
section
variable {P : Program} {w : World} {K : PySem.W.Frag} {mg : Str → Option Value} {base : Heap}
end
/-- the words of a paper that can be are few -/
theorem wAll_len {ps : List Sch} (h : PaperOk ps) {s : Sch} {j : Nat} (e : ps[j]? = some s) (k : Nat) : (wP ps k s).length ≤ 10 := by
  obtain ⟨_, _, ce, cw, t⟩ := h
  have hp : ∀ (j : Nat) (s : Sch), ps[j]? = some s → OkS j ps.length 5 s ∧ ce j = er ce 5 s ∧ cw j = wr cw 5 s := fun j s e => by
    obtain ⟨q1, q2, q3, _⟩ := t j s e
    rw [Nat.zero_add] at q1 q2 q3
    exact ⟨q1, q2, q3⟩
  have h0 : ∀ n j, ps.length - j ≤ n → j < ps.length → 0 ≤ ce j ∧ 0 ≤ cw j := by
    intro n
    induction n with
    | zero => intro j a b; omega
    | succ n ih =>
      intro j a b
      obtain ⟨o, e1, e2⟩ := hp j _ (List.getElem?_eq_getElem b)
      rw [e1, e2]
      exact ⟨er_nonneg (fun j' h1 h2 => (ih j' (by omega) h2).1) 5 _ o, wr_nonneg (fun j' h1 h2 => (ih j' (by omega) h2).2) 5 _ o⟩
  obtain ⟨_, _, _, _, q5, q6⟩ := t j s e
  have := wP_len hp (fun j hj => (h0 _ j (Nat.le_refl _) hj).1) (fun j hj => (h0 _ j (Nat.le_refl _) hj).2) k j 5 s (hp j s e).1
  omega
end MS
end
section
set_option maxRecDepth 100000
set_option maxHeartbeats 4000000
namespace MS
open PySem L2
/-! ### rows and points: the same told twice -/
def pts (rs : List Row) : Nat := (rs.map fun r => r.2.1).sum
def expand (rs : List Row) : List Un := rs.flatMap fun r => List.replicate r.2.1 (r.1, r.2.2)
/-- the first so many points of rows -/
def firstP : List Row → Nat → List Row
  | [], _ => []
  | (i, n, wh) :: r, left => if left = 0 then [] else (i, min n left, wh) :: firstP r (left - min n left)
def bestR (f : Sch → Nat → List Row) : List Sch → Nat → List Row → List Row
  | [], _, acc => acc
  | s :: r, j, acc => bestR f r (j + 1) (if pts acc < pts (f s j) then f s j else acc)
def rP (ps : List Sch) (ws : List StepT) : Nat → Sch → Nat → Bool → List Nat → List Row
  | 0, _, _, _, _ => []
  | k + 1, .step x p, st, c, wh => match hits ws c x st with
    | [] => []
    | i :: _ => [(i, p.toNat, wh)]
  | k + 1, .behind x s, st, c, wh => match hits ws c x st with
    | [] => []
    | i :: _ => rP ps ws k s (i + 1) c (wh ++ [0])
  | k + 1, .use n, st, c, wh => match ps[n]? with
    | none => []
    | some s => rP ps ws k s st c (wh ++ [0])
  | k + 1, .all ks, st, c, wh => allU (fun s j => rP ps ws k s st c (wh ++ [j])) ks 0
  | k + 1, .best ks, st, c, wh => bestR (fun s j => rP ps ws k s st c (wh ++ [j])) ks 0 []
  | k + 1, .fin x p s, st, c, wh => if lastOk ws c x st = true then [(ws.length - 1, p.toNat, wh)] else rP ps ws k s st c (wh ++ [0])
  | k + 1, .seen x s, st, c, wh => if (ws.any fun p => p.1 == x) = true then rP ps ws k s st c (wh ++ [0]) else []
  | k + 1, .most n s, st, c, wh => firstP (rP ps ws k s st c (wh ++ [0])) n.toNat
  | k + 1, .half s, st, c, wh => firstP (rP ps ws k s st c (wh ++ [0])) (pts (rP ps ws k s st c (wh ++ [0])) / 2)
  | k + 1, .carry s, st, c, wh => rP ps ws k s st true (wh ++ [0])
theorem pts_zero : pts [] = 0 := rfl
theorem pts_cons (r : Row) (rs : List Row) : pts (r :: rs) = r.2.1 + pts rs := by
  unfold pts
  rw [List.map_cons, List.sum_cons]
theorem expand_cons (r : Row) (rs : List Row) : expand (r :: rs) = List.replicate r.2.1 (r.1, r.2.2) ++ expand rs := by
  unfold expand
  rw [List.flatMap_cons]
theorem expand_app (as bs : List Row) : expand (as ++ bs) = expand as ++ expand bs := by
  unfold expand
  rw [List.flatMap_append]
theorem expand_len : ∀ rs : List Row, (expand rs).length = pts rs
  | [] => rfl
  | r :: rs => by rw [expand_cons, List.length_append, List.length_replicate, expand_len rs, pts_cons]
theorem expand_first : ∀ (rs : List Row) (n : Nat), expand (firstP rs n) = (expand rs).take n
  | [], n => by
    show [] = List.take n []
    rw [List.take_nil]
  | (i, m, wh) :: r, n => by
    unfold firstP
    by_cases h : n = 0
    · rw [if_pos h, h, List.take_zero]
      rfl
    · rw [if_neg h, expand_cons, expand_cons, expand_first r, List.take_append, List.length_replicate, List.take_replicate]
      show List.replicate (min m n) _ ++ _ = List.replicate (min n m) _ ++ _
      rw [Nat.min_comm m n, show n - min n m = n - m by omega]
theorem expand_all {f : Sch → Nat → List Row} {g : Sch → Nat → List Un} : ∀ (ks : List Sch) (j : Nat), (∀ s ∈ ks, ∀ j, g s j = expand (f s j)) → allU g ks j = expand (allU f ks j)
  | [], _, _ => rfl
  | s :: r, j, h => by
    show g s j ++ allU g r (j + 1) = expand (f s j ++ allU f r (j + 1))
    rw [expand_app, h s List.mem_cons_self j, expand_all r (j + 1) fun s hs => h s (List.mem_cons_of_mem _ hs)]
theorem expand_best {f : Sch → Nat → List Row} {g : Sch → Nat → List Un} : ∀ (ks : List Sch) (j : Nat) (acc : List Row), (∀ s ∈ ks, ∀ j, g s j = expand (f s j)) → bestU g ks j (expand acc) = expand (bestR f ks j acc)
  | [], _, _, _ => rfl
  | s :: r, j, acc, h => by
    show bestU g r (j + 1) (if (expand acc).length < (g s j).length then g s j else expand acc) = expand (bestR f r (j + 1) (if pts acc < pts (f s j) then f s j else acc))
    rw [h s List.mem_cons_self j, expand_len, expand_len, ← expand_best r (j + 1) _ fun s hs => h s (List.mem_cons_of_mem _ hs)]
    split <;> rfl
/-- the points are those of the rows -/
theorem uP_expand {ps : List Sch} {ws : List StepT} : ∀ (k : Nat) (s : Sch) (st : Nat) (c : Bool) (wh : List Nat), uP ps ws k s st c wh = expand (rP ps ws k s st c wh)
  | 0, _, _, _, _ => rfl
  | k + 1, .step x p, st, c, wh => by
    unfold uP rP
    cases hits ws c x st with
    | nil => rfl
    | cons i r => show List.replicate _ _ = expand [_]; rw [expand_cons]; show _ = List.replicate _ _ ++ []; rw [List.append_nil]
  | k + 1, .behind x s, st, c, wh => by
    unfold uP rP
    cases hits ws c x st with
    | nil => rfl
    | cons i r => exact uP_expand k s _ c _
  | k + 1, .use n, st, c, wh => by
    unfold uP rP
    cases ps[n]? with
    | none => rfl
    | some s => exact uP_expand k s st c _
  | k + 1, .all ks, st, c, wh => expand_all ks 0 fun s _ j => uP_expand k s st c _
  | k + 1, .best ks, st, c, wh => expand_best ks 0 [] fun s _ j => uP_expand k s st c _
  | k + 1, .fin x p s, st, c, wh => by
    unfold uP rP
    split
    · rw [expand_cons]
      show _ = List.replicate _ _ ++ []
      rw [List.append_nil]
    · exact uP_expand k s st c _
  | k + 1, .seen x s, st, c, wh => by
    unfold uP rP
    split
    · exact uP_expand k s st c _
    · rfl
  | k + 1, .most n s, st, c, wh => by
    unfold uP rP
    rw [uP_expand k s st c _, expand_first]
  | k + 1, .half s, st, c, wh => by
    unfold uP rP
    rw [uP_expand k s st c _, expand_first, expand_len]
  | k + 1, .carry s, st, c, wh => uP_expand k s st true _
/-- rows that can stand side by side: each has points, no two one place -/
def Good (wh : List Nat) (rs : List Row) : Prop := (∀ r ∈ rs, 0 < r.2.1 ∧ wh <+: r.2.2) ∧ (rs.map fun r => r.2.2).Nodup
theorem Good.nil (wh : List Nat) : Good wh [] := ⟨(fun _ h => nomatch h), List.nodup_nil⟩
theorem Good.one {i n : Nat} (wh : List Nat) (h : 0 < n) : Good wh [(i, n, wh)] := ⟨fun r hr => by rw [List.mem_singleton.mp hr]; exact ⟨h, List.prefix_refl _⟩, by simp⟩
theorem Good.up {wh : List Nat} {j : Nat} {rs : List Row} (h : Good (wh ++ [j]) rs) : Good wh rs := ⟨fun r hr => ⟨(h.1 r hr).1, (List.prefix_append _ _).trans (h.1 r hr).2⟩, h.2⟩
theorem first_mem : ∀ (rs : List Row) (n : Nat) (r : Row), r ∈ firstP rs n → (∀ r ∈ rs, 0 < r.2.1) → 0 < r.2.1 ∧ ∃ r' ∈ rs, r'.2.2 = r.2.2
  | [], _, _, h, _ => by cases h
  | (i, m, w) :: t, n, r, h, hp => by
    unfold firstP at h
    by_cases hn : n = 0
    · rw [if_pos hn] at h
      cases h
    · rw [if_neg hn] at h
      rcases List.mem_cons.mp h with rfl | h
      · have : 0 < m := hp _ List.mem_cons_self
        exact ⟨by show 0 < min m n; omega, _, List.mem_cons_self, rfl⟩
      · obtain ⟨h1, r', h2, h3⟩ := first_mem t _ r h fun r hr => hp r (List.mem_cons_of_mem _ hr)
        exact ⟨h1, r', List.mem_cons_of_mem _ h2, h3⟩
theorem first_sub : ∀ (rs : List Row) (n : Nat), ((firstP rs n).map fun r => r.2.2).Sublist (rs.map fun r => r.2.2)
  | [], _ => List.Sublist.slnil
  | (i, m, w) :: t, n => by
    unfold firstP
    split
    · exact List.nil_sublist _
    · exact (first_sub t _).cons_cons _
theorem Good.first {wh : List Nat} {rs : List Row} (h : Good wh rs) (n : Nat) : Good wh (firstP rs n) := ⟨fun r hr => by
  obtain ⟨h1, r', h2, h3⟩ := first_mem rs n r hr fun r hr => (h.1 r hr).1
  exact ⟨h1, by rw [← h3]; exact (h.1 r' h2).2⟩, h.2.sublist (first_sub rs n)⟩
theorem pre_eq {wh t : List Nat} {i j : Nat} (h1 : wh ++ [i] <+: t) (h2 : wh ++ [j] <+: t) : i = j := by
  have h := List.prefix_of_prefix_length_le h1 h2 (by simp)
  obtain ⟨u, hu⟩ := h
  rw [List.append_assoc] at hu
  have := List.append_cancel_left hu
  simp at this
  exact this.1
theorem good_all {wh : List Nat} {f : Sch → Nat → List Row} : ∀ (ks : List Sch) (j : Nat), (∀ s ∈ ks, ∀ j, Good (wh ++ [j]) (f s j)) → (∀ r ∈ allU f ks j, 0 < r.2.1 ∧ ∃ j', j ≤ j' ∧ wh ++ [j'] <+: r.2.2) ∧ ((allU f ks j).map fun r => r.2.2).Nodup
  | [], _, _ => ⟨(fun _ h => nomatch h), List.nodup_nil⟩
  | s :: t, j, h => by
    obtain ⟨a1, a2⟩ := good_all t (j + 1) fun s hs => h s (List.mem_cons_of_mem _ hs)
    have g := h s List.mem_cons_self j
    show (∀ r ∈ f s j ++ allU f t (j + 1), _) ∧ ((f s j ++ allU f t (j + 1)).map fun r => r.2.2).Nodup
    refine ⟨fun r hr => ?_, ?_⟩
    · rcases List.mem_append.mp hr with hr | hr
      · exact ⟨(g.1 r hr).1, j, Nat.le_refl _, (g.1 r hr).2⟩
      · obtain ⟨p, j', h1, h2⟩ := a1 r hr
        exact ⟨p, j', by omega, h2⟩
    · rw [List.map_append]
      refine List.nodup_append.mpr ⟨g.2, a2, fun x hx y hy e => ?_⟩
      obtain ⟨r1, m1, rfl⟩ := List.mem_map.mp hx
      obtain ⟨r2, m2, e2⟩ := List.mem_map.mp hy
      obtain ⟨_, j', h1, h2⟩ := a1 r2 m2
      have p1 := (g.1 r1 m1).2
      rw [e, ← e2] at p1
      have := pre_eq p1 h2
      omega
theorem good_best {wh : List Nat} {f : Sch → Nat → List Row} : ∀ (ks : List Sch) (j : Nat) (acc : List Row), (∀ s ∈ ks, ∀ j, Good (wh ++ [j]) (f s j)) → Good wh acc → Good wh (bestR f ks j acc)
  | [], _, _, _, g => g
  | s :: t, j, acc, h, g => good_best t (j + 1) _ (fun s hs => h s (List.mem_cons_of_mem _ hs)) (by
    split
    · exact (h s List.mem_cons_self j).up
    · exact g)
theorem rP_good {ps : List Sch} {ws : List StepT} {M : Nat} (hp : ∀ (j : Nat) (s : Sch), ps[j]? = some s → OkS j M 5 s) : ∀ (k : Nat) (i d : Nat) (s : Sch) (st : Nat) (c : Bool) (wh : List Nat), OkS i M d s → Good wh (rP ps ws k s st c wh)
  | 0, _, _, _, _, _, _, _ => Good.nil _
  | k + 1, i, 0, s, st, c, wh, o => by cases o
  | k + 1, i, d + 1, .step x p, st, c, wh, o => by
    unfold rP
    have := o.2.1
    split
    · exact Good.nil _
    · exact Good.one _ (by omega)
  | k + 1, i, d + 1, .behind x s, st, c, wh, o => by
    unfold rP
    split
    · exact Good.nil _
    · exact (rP_good hp k i d s _ c _ o.2).up
  | k + 1, i, d + 1, .use n, st, c, wh, o => by
    unfold rP
    split
    · exact Good.nil _
    · rename_i s e
      exact (rP_good hp k n 5 s st c _ (hp n s e)).up
  | k + 1, i, d + 1, .all ks, st, c, wh, o => by
    obtain ⟨a1, a2⟩ := good_all (wh := wh) (f := fun s j => rP ps ws k s st c (wh ++ [j])) ks 0 fun s hs j => rP_good hp k i d s st c _ (o.2.2 s hs)
    exact ⟨fun r hr => by
      obtain ⟨p, j', _, h2⟩ := a1 r hr
      exact ⟨p, (List.prefix_append _ _).trans h2⟩, a2⟩
  | k + 1, i, d + 1, .best ks, st, c, wh, o => good_best ks 0 [] (fun s hs j => rP_good hp k i d s st c _ (o.2.2 s hs)) (Good.nil _)
  | k + 1, i, d + 1, .fin x p s, st, c, wh, o => by
    unfold rP
    have := o.1.2.1
    split
    · exact Good.one _ (by omega)
    · exact (rP_good hp k i d s st c _ o.2).up
  | k + 1, i, d + 1, .seen x s, st, c, wh, o => by
    unfold rP
    split
    · exact (rP_good hp k i d s st c _ o.2).up
    · exact Good.nil _
  | k + 1, i, d + 1, .most n s, st, c, wh, o => ((rP_good hp k i d s st c _ o.2).up).first _
  | k + 1, i, d + 1, .half s, st, c, wh, o => ((rP_good hp k i d s st c _ o).up).first _
  | k + 1, i, d + 1, .carry s, st, c, wh, o => (rP_good hp k i d s st true _ o).up
theorem add_more (acc : List Row) (i : Nat) (w : List Nat) : ∀ (n m : Nat), (List.replicate n ((i, w) : Un)).foldl addU (acc ++ [(i, m, w)]) = acc ++ [(i, m + n, w)]
  | 0, m => rfl
  | n + 1, m => by
    show (List.replicate n ((i, w) : Un)).foldl addU (addU (acc ++ [(i, m, w)]) (i, w)) = _
    rw [addU_same acc (i, m, w) (i, w) rfl]
    show (List.replicate n ((i, w) : Un)).foldl addU (acc ++ [(i, m + 1, w)]) = _
    rw [add_more acc i w n (m + 1), show m + 1 + n = m + (n + 1) by omega]
theorem add_rows : ∀ (rs acc : List Row), (∀ r ∈ rs, 0 < r.2.1) → ((acc ++ rs).map fun r => r.2.2).Nodup → (expand rs).foldl addU acc = acc ++ rs
  | [], acc, _, _ => by rw [List.append_nil]; rfl
  | (i, n, w) :: t, acc, hp, hn => by
    have n0 : 0 < n := hp _ List.mem_cons_self
    obtain ⟨m, rfl⟩ : ∃ m, n = m + 1 := ⟨n - 1, by omega⟩
    have hnw : w ∉ acc.map fun r => r.2.2 := fun z => by
      rw [List.map_append] at hn
      exact (List.nodup_append.mp hn).2.2 w z w List.mem_cons_self rfl
    have he : addU acc (i, w) = acc ++ [(i, 1, w)] := addU_else acc (i, w) (by
      have : sameW acc (i, w) = false := by
        unfold sameW
        cases hl : acc.getLast? with
        | none => rfl
        | some r =>
          refine decide_eq_false fun e => hnw ?_
          rw [← show r.2.2 = w from e]
          exact List.mem_map_of_mem (List.mem_of_getLast? hl)
      rw [this, Bool.and_false])
    rw [expand_cons, List.foldl_append]
    show (expand t).foldl addU ((List.replicate m ((i, w) : Un)).foldl addU (addU acc (i, w))) = _
    rw [he, add_more, add_rows t _ (fun r hr => hp r (List.mem_cons_of_mem _ hr)) (by
      rw [show acc ++ [(i, 1 + m, w)] ++ t = acc ++ ((i, 1 + m, w) :: t) by simp]
      rw [List.map_append] at hn ⊢
      exact hn)]
    rw [show 1 + m = m + 1 by omega]
    simp
theorem eP_expand {wh : List Nat} {rs : List Row} (h : Good wh rs) : eP (expand rs) = rs := by
  have := add_rows rs [] (fun r hr => (h.1 r hr).1) (by simpa using h.2)
  simpa [eP] using this
/-- all rows that a work earns -/
def rAll (ps : List Sch) (ws : List StepT) : List Row := match ps with
  | [] => []
  | s :: _ => rP ps ws 30 s 0 false []
theorem eP_all {ps : List Sch} {ws : List StepT} (h : PaperOk ps) : eP (uAll ps ws) = rAll ps ws := by
  obtain ⟨ce, hp, _, _⟩ := h.facts
  cases ps with
  | nil => rfl
  | cons s r =>
    show eP (uP (s :: r) ws 30 s 0 false []) = rP (s :: r) ws 30 s 0 false []
    rw [uP_expand]
    exact eP_expand (rP_good (fun j s e => (hp j s e).1) 30 0 5 s 0 false [] (hp 0 s rfl).1)
theorem uAll_len {ps : List Sch} {ws : List StepT} : (uAll ps ws).length = pts (rAll ps ws) := by
  cases ps with
  | nil => rfl
  | cons s r =>
    show (uP (s :: r) ws 30 s 0 false []).length = pts (rP (s :: r) ws 30 s 0 false [])
    rw [uP_expand, expand_len]
end MS
end
section
set_option maxRecDepth 100000
set_option maxHeartbeats 4000000
namespace MS
open PySem L2
/-- the word that a scheme names itself -/
def wordOf : Sch → Str
  | .step x _ => x
  | .seen x _ => x
  | .behind x _ => x
  | .fin x _ _ => x
  | _ => ""
/-- the schemes within -/
def kidsOf : Sch → List Sch
  | .step _ _ => []
  | .all k => k
  | .best k => k
  | .most _ s => [s]
  | .half s => [s]
  | .seen _ s => [s]
  | .behind _ s => [s]
  | .carry s => [s]
  | .fin _ _ s => [s]
  | .use _ => []
structure Shp (H : Hp) (i M d : Nat) (sc : Sch) (nm : Str) (rest : List V) (kinds : List Str) (kv : List V) : Prop where
  mem : (nm, kinds) ∈ shapesL
  fit : Paired (FitsR H i M) rest kinds
  ok : ∀ s ∈ kidsOf sc, OkS i M d s
  at_ : Paired (SAt H d) (kidsOf sc) kv
  w1 : ∃ k0 kr, kinds = k0 :: kr ∧ ((k0 = "word" ∧ atI (.str nm :: rest) 1 = some (.str (wordOf sc))) ∨ (k0 ≠ "word" ∧ wordOf sc = ""))
  k1 : ∃ kl, atI (kinds.map V.str) (-1) = some (.str kl) ∧ ((kl = "schemes" ∧ ∃ b, atI (.str nm :: rest) (-1) = some (.ref b) ∧ H b = some (.tup kv)) ∨ (kl = "scheme" ∧ ∃ u, atI (.str nm :: rest) (-1) = some u ∧ kv = [u]) ∨ (kl ≠ "schemes" ∧ kl ≠ "scheme" ∧ kv = []))
theorem SAt.shape {H : Hp} {i M d : Nat} {sc : Sch} {a : Addr} {nm : Str} {rest : List V} (h : SAt H (d + 1) sc (.ref a)) (o : OkS i M (d + 1) sc) (ea : H a = some (.tup (.str nm :: rest))) : ∃ kinds kv, Shp H i M d sc nm rest kinds kv := by
  have inj : ∀ {a' : Addr} {nm' : Str} {rest' : List V}, (V.ref a = V.ref a') → H a' = some (.tup (.str nm' :: rest')) → nm' = nm ∧ rest' = rest := fun e h => by
    cases e
    rw [ea] at h
    cases h
    exact ⟨rfl, rfl⟩
  have fw : ∀ {x : Str}, IsW x → FitsR H i M (.str x) "word" := fun hx => .inl ⟨rfl, _, rfl, hx⟩
  have fp : ∀ {p : Int}, 1 ≤ p → p ≤ 9 → FitsR H i M (.int p) "points" := fun h1 h2 => .inr (.inl ⟨rfl, _, rfl, h1, h2⟩)
  have fs : ∀ {u : V}, FitsR H i M u "scheme" := .inr (.inr (.inr (.inr (.inl rfl))))
  have one : ∀ {s : Sch}, OkS i M d s → ∀ s' ∈ [s], OkS i M d s' := fun o s' h' => by rw [List.mem_singleton.mp h']; exact o
  cases sc with
  | step x p =>
    obtain ⟨a', e, h⟩ := h
    obtain ⟨rfl, rfl⟩ := inj e h
    exact ⟨["word", "points"], [], by decide +kernel, .cons (fw o.1) (.cons (fp o.2.1 o.2.2) .nil), (fun _ h => nomatch h), .nil, ⟨_, _, rfl, .inl ⟨rfl, at1⟩⟩, ⟨"points", rfl, .inr (.inr ⟨by decide +kernel, by decide +kernel, rfl⟩)⟩⟩
  | all k =>
    obtain ⟨a', b, vs, e, h, eb, hk⟩ := h
    obtain ⟨rfl, rfl⟩ := inj e h
    have := Paired.length hk
    have h1 := o.1
    have h2 := o.2.1
    exact ⟨["schemes"], vs, by decide +kernel, .cons (.inr (.inr (.inr (.inl ⟨rfl, b, vs, rfl, eb, by omega, by omega⟩)))) .nil, o.2.2, hk, ⟨_, _, rfl, .inr ⟨by decide +kernel, rfl⟩⟩, ⟨"schemes", rfl, .inl ⟨rfl, b, rfl, eb⟩⟩⟩
  | best k =>
    obtain ⟨a', b, vs, e, h, eb, hk⟩ := h
    obtain ⟨rfl, rfl⟩ := inj e h
    have := Paired.length hk
    have h1 := o.1
    have h2 := o.2.1
    exact ⟨["schemes"], vs, by decide +kernel, .cons (.inr (.inr (.inr (.inl ⟨rfl, b, vs, rfl, eb, by omega, by omega⟩)))) .nil, o.2.2, hk, ⟨_, _, rfl, .inr ⟨by decide +kernel, rfl⟩⟩, ⟨"schemes", rfl, .inl ⟨rfl, b, rfl, eb⟩⟩⟩
  | most n s =>
    obtain ⟨a', u, e, h, hs⟩ := h
    obtain ⟨rfl, rfl⟩ := inj e h
    exact ⟨["limit", "scheme"], [u], by decide +kernel, .cons (.inr (.inr (.inl ⟨rfl, n, rfl, o.1.1, o.1.2⟩))) (.cons fs .nil), one o.2, .cons hs .nil, ⟨_, _, rfl, .inr ⟨by decide +kernel, rfl⟩⟩, ⟨"scheme", rfl, .inr (.inl ⟨rfl, u, rfl, rfl⟩)⟩⟩
  | half s =>
    obtain ⟨a', u, e, h, hs⟩ := h
    obtain ⟨rfl, rfl⟩ := inj e h
    exact ⟨["scheme"], [u], by decide +kernel, .cons fs .nil, one o, .cons hs .nil, ⟨_, _, rfl, .inr ⟨by decide +kernel, rfl⟩⟩, ⟨"scheme", rfl, .inr (.inl ⟨rfl, u, rfl, rfl⟩)⟩⟩
  | seen x s =>
    obtain ⟨a', u, e, h, hs⟩ := h
    obtain ⟨rfl, rfl⟩ := inj e h
    exact ⟨["word", "scheme"], [u], by decide +kernel, .cons (fw o.1) (.cons fs .nil), one o.2, .cons hs .nil, ⟨_, _, rfl, .inl ⟨rfl, at1⟩⟩, ⟨"scheme", rfl, .inr (.inl ⟨rfl, u, rfl, rfl⟩)⟩⟩
  | behind x s =>
    obtain ⟨a', u, e, h, hs⟩ := h
    obtain ⟨rfl, rfl⟩ := inj e h
    exact ⟨["word", "scheme"], [u], by decide +kernel, .cons (fw o.1) (.cons fs .nil), one o.2, .cons hs .nil, ⟨_, _, rfl, .inl ⟨rfl, at1⟩⟩, ⟨"scheme", rfl, .inr (.inl ⟨rfl, u, rfl, rfl⟩)⟩⟩
  | carry s =>
    obtain ⟨a', u, e, h, hs⟩ := h
    obtain ⟨rfl, rfl⟩ := inj e h
    exact ⟨["scheme"], [u], by decide +kernel, .cons fs .nil, one o, .cons hs .nil, ⟨_, _, rfl, .inr ⟨by decide +kernel, rfl⟩⟩, ⟨"scheme", rfl, .inr (.inl ⟨rfl, u, rfl, rfl⟩)⟩⟩
  | fin x p s =>
    obtain ⟨a', u, e, h, hs⟩ := h
    obtain ⟨rfl, rfl⟩ := inj e h
    exact ⟨["word", "points", "scheme"], [u], by decide +kernel, .cons (fw o.1.1) (.cons (fp o.1.2.1 o.1.2.2) (.cons fs .nil)), one o.2, .cons hs .nil, ⟨_, _, rfl, .inl ⟨rfl, at1⟩⟩, ⟨"scheme", rfl, .inr (.inl ⟨rfl, u, rfl, rfl⟩)⟩⟩
  | use n =>
    obtain ⟨a', e, h⟩ := h
    obtain ⟨rfl, rfl⟩ := inj e h
    exact ⟨["later"], [], by decide +kernel, .cons (.inr (.inr (.inr (.inr (.inr ⟨rfl, n, rfl, o.1, o.2⟩))))) .nil, (fun _ h => nomatch h), .nil, ⟨_, _, rfl, .inr ⟨by decide +kernel, rfl⟩⟩, ⟨"later", rfl, .inr (.inr ⟨by decide +kernel, by decide +kernel, rfl⟩)⟩⟩
def spWordIn : Sp := fun vs H Q _ => ∃ (v : V) (sc : Sch) (i M d : Nat), vs = [v] ∧ SAt H (d + 1) sc v ∧ OkS i M (d + 1) sc ∧ Q (.str (wordOf sc)) H
def spWithin : Sp := fun vs H Q _ => ∃ (v : V) (sc : Sch) (i M d : Nat), vs = [v] ∧ SAt H (d + 1) sc v ∧ OkS i M (d + 1) sc ∧ ∀ (f : Addr) (kv : List V), H f = none → Paired (SAt H d) (kidsOf sc) kv → Q (.ref f) (upd H f (.lst kv))
section
variable {P : Program} {w : World} {K : PySem.W.Frag} {mg : Str → Option Value} {base : Heap}
theorem ok_within (T : PTx w K mg) (D : Def K mg "within" s_within ["scheme"]) : FnOk P w K mg base CX0 1 D.f D.fd ["scheme"] spWithin := by
  obtain ⟨aS, gS, low, hS⟩ := T.shapes
  have nd := sc_within.nd
  refine D.ok sc_within (fun vs H Q E h => ?_) (fun cdv A outer s H vs Q E hr h => ?_)
  · obtain ⟨v, sc, i, M, d, rfl, _⟩ := h
    rfl
  obtain ⟨v, sc, i, M, d, rfl, hs, ho, q⟩ := h
  refine ⟨_, pss_cons (ps_set (i := 1) nd rfl (Or.inl rfl) (pe_ix ix_tup (pe_ix ix_kdict (pe_glob rfl gS (v := .ref aS) rfl) (pe_ix ix_tup (pv 0) pe_int (fun _ _ => rfl)) (fun _ _ => rfl)) (pe_un un_neg pe_int) (fun _ _ => rfl)))
    (pss_cons (ps_if (pt_cmpR op_eq (pv 1) pe_str (nomark _)) (pss_one (ps_ret (pe_callTy call_list_of rfl (T.free "list" (by decide +kernel)) (by decide +kernel) (pa_cons (pe_ix ix_tup (pv 0) (pe_un un_neg pe_int) (fun _ _ => rfl)) pa_nil)))) pss_nil)
    (pss_one (ps_ret (pe_ifExp (pt_cmpR op_eq (pv 1) pe_str (nomark _)) (pe_lst (pa_cons (pe_ix ix_tup (pv 0) (pe_un un_neg pe_int) (fun _ _ => rfl)) pa_nil)) (pe_lst pa_nil))))), ?_⟩
  obtain ⟨a, nm, rest, rfl, ea⟩ := hs.tag
  obtain ⟨kinds, kv, S⟩ := hs.shape ho ea
  obtain ⟨t, kd, qt⟩ := hS _ S.mem
  obtain ⟨kl, hl, hk⟩ := S.k1
  refine ⟨_, rfl, a, _, 0, .str nm, rfl, rfl, SqT.of ea, at0, aS, nm, .ref t, rfl, rfl, kd, 1, rfl, t, _, -1, .str kl, rfl, rfl, qt _, hl, ?_⟩
  have S_at := S.at_
  rcases hk with ⟨e, b, e1, eb⟩ | ⟨e, u, e1, ek⟩ | ⟨n1, n2, ek⟩
  · refine seq_if (b := true) (is_word rfl (by rw [e]; decide +kernel)) (fun _ => ?_) (fun z => nomatch z)
    exact ⟨_, rfl, 1, rfl, a, _, -1, .ref b, rfl, rfl, SqT.of ea, e1, b, kv, rfl, .inr (SqT.of eb), fun l hl' => q l kv hl' S_at⟩
  · refine seq_if (b := false) (is_word rfl (by rw [e]; decide +kernel)) (fun z => nomatch z) (fun _ => ?_)
    refine is_word (b := true) rfl (by rw [e]; decide +kernel) _ (iteT ?_)
    exact ⟨_, rfl, 1, rfl, a, _, -1, u, rfl, rfl, SqT.of ea, e1, szN (by show 1 ≤ 1000; decide), fun l hl' => q l _ hl' (by rw [← ek]; exact S_at)⟩
  · refine seq_if (b := false) (is_word rfl (beq_eq_false_iff_ne.mpr n1)) (fun z => nomatch z) (fun _ => ?_)
    refine is_word (b := false) rfl (beq_eq_false_iff_ne.mpr n2) _ (iteF ?_)
    exact ⟨Nat.zero_le _, fun l hl' => q l _ hl' (by rw [← ek]; exact S_at)⟩
end
end MS
end
section
set_option maxRecDepth 100000
set_option maxHeartbeats 4000000
namespace MS
open PySem L2
/-! ### rows in the program -/
theorem pts_sum : ∀ rs : List Row, (rs.map fun r => ((r.2.1 : Nat) : Int)).sum = ((pts rs : Nat) : Int)
  | [] => rfl
  | r :: t => by
    rw [List.map_cons, List.sum_cons, pts_sum t, pts_cons]
    omega
def spPoints : Sp := fun vs H Q _ => ∃ (a : Addr) (rs : List Row) (rv : List V), vs = [.ref a] ∧ H a = some (.lst rv) ∧ Paired (RowR H) rs rv ∧ rs.length ≤ 1000 ∧ ∀ H', Same H H' → Q (.int ((pts rs : Nat) : Int)) H'
def spFirst : Sp := fun vs H Q _ => ∃ (a : Addr) (n : Nat) (rs : List Row) (rv : List V), vs = [.ref a, .int ((n : Nat) : Int)] ∧ H a = some (.lst rv) ∧ Paired (RowR H) rs rv ∧ rs.length ≤ 1000 ∧
  ∀ (f : Addr) (rv' : List V) (H' : Hp), Same H H' → H f = none → H' f = some (.lst rv') → Paired (RowR H') (firstP rs n) rv' → Q (.ref f) H'
theorem first_step (r : Row) (t : List Row) (left : Nat) : firstP (r :: t) left = if left = 0 then [] else (r.1, min r.2.1 left, r.2.2) :: firstP t (left - min r.2.1 left) := rfl
theorem first_zero (rs : List Row) : firstP rs 0 = [] := by
  cases rs with
  | nil => rfl
  | cons r t => rw [first_step, if_pos rfl]
theorem Same.newer {H H1 : Hp} {p : Addr} {o : HO} (k : Same H H1) (h : H p = none) : Same H (upd H1 p o) := fun b u q => by
  rw [upd_ne (ne_of_none q h)]
  exact k b u q
section
variable {P : Program} {w : World} {K : PySem.W.Frag} {mg : Str → Option Value} {base : Heap}
end
end MS
end
section
set_option maxRecDepth 100000
set_option maxHeartbeats 4000000
namespace MS
open PySem L2
theorem word_ne {x : Str} (h : IsW x) : x.length ≠ 0 := by rw [h.len]; decide
theorem wP_shape {ps : List Sch} {k i M d : Nat} {sc : Sch} (o : OkS i M (d + 1) sc) (nu : ∀ n, sc ≠ .use n) : wP ps (k + 1) sc = (if (wordOf sc).length ≠ 0 then [wordOf sc] else []) ++ ((kidsOf sc).map (wP ps k)).flatten := by
  have one : ∀ s, ([s].map (wP ps k)).flatten = wP ps k s := fun s => by
    show wP ps k s ++ [] = _
    rw [List.append_nil]
  have z0 : ¬ (Str.length "" ≠ 0) := by decide
  cases sc with
  | step x p => rw [if_pos (show (wordOf (Sch.step x p)).length ≠ 0 from word_ne o.1)]; rfl
  | all ks => rw [if_neg (show ¬ (wordOf (Sch.all ks)).length ≠ 0 from z0)]; rfl
  | best ks => rw [if_neg (show ¬ (wordOf (Sch.best ks)).length ≠ 0 from z0)]; rfl
  | most n s => rw [if_neg (show ¬ (wordOf (Sch.most n s)).length ≠ 0 from z0)]; exact (one s).symm
  | half s => rw [if_neg (show ¬ (wordOf (Sch.half s)).length ≠ 0 from z0)]; exact (one s).symm
  | seen x s => rw [if_pos (show (wordOf (Sch.seen x s)).length ≠ 0 from word_ne o.1)]; show x :: wP ps k s = x :: ([s].map (wP ps k)).flatten; rw [one]
  | behind x s => rw [if_pos (show (wordOf (Sch.behind x s)).length ≠ 0 from word_ne o.1)]; show x :: wP ps k s = x :: ([s].map (wP ps k)).flatten; rw [one]
  | carry s => rw [if_neg (show ¬ (wordOf (Sch.carry s)).length ≠ 0 from z0)]; exact (one s).symm
  | fin x p s => rw [if_pos (show (wordOf (Sch.fin x p s)).length ≠ 0 from word_ne o.1.1)]; show x :: wP ps k s = x :: ([s].map (wP ps k)).flatten; rw [one]
  | use n => exact absurd rfl (nu n)
theorem wordOf_len {i M d : Nat} {sc : Sch} (o : OkS i M (d + 1) sc) : (wordOf sc).length ≤ 1 := by
  cases sc with
  | step x p => exact Nat.le_of_eq (IsW.len o.1)
  | seen x s => exact Nat.le_of_eq (IsW.len o.1)
  | behind x s => exact Nat.le_of_eq (IsW.len o.1)
  | fin x p s => exact Nat.le_of_eq (IsW.len o.1.1)
  | all ks => show Str.length "" ≤ 1; decide
  | best ks => show Str.length "" ≤ 1; decide
  | most n s => show Str.length "" ≤ 1; decide
  | half s => show Str.length "" ≤ 1; decide
  | carry s => show Str.length "" ≤ 1; decide
  | use n => show Str.length "" ≤ 1; decide

theorem paired_impM {α β : Type} {R T : α → β → Prop} : ∀ {xs : List α} {ys : List β}, Paired R xs ys → (∀ x ∈ xs, ∀ y, R x y → T x y) → Paired T xs ys
  | _, _, .nil, _ => .nil
  | _, _, .cons r t, h => .cons (h _ List.mem_cons_self _ r) (paired_impM t fun x hx => h x (List.mem_cons_of_mem _ hx))
/-- the schemes within, of a use the used one -/
def partsOf (ps : List Sch) : Sch → List Sch
  | .use n => (ps[n]?).toList
  | s => kidsOf s
theorem parts_kids {ps : List Sch} {sc : Sch} (nu : ∀ n, sc ≠ .use n) : partsOf ps sc = kidsOf sc := by
  cases sc with
  | use n => exact absurd rfl (nu n)
  | _ => rfl
theorem wP_parts {ps : List Sch} {k i M d : Nat} {sc : Sch} (o : OkS i M (d + 1) sc) : wP ps (k + 1) sc = (if (wordOf sc).length ≠ 0 then [wordOf sc] else []) ++ ((partsOf ps sc).map (wP ps k)).flatten := by
  by_cases h : ∃ n, sc = .use n
  · obtain ⟨n, rfl⟩ := h
    have z0 : ¬ (Str.length "" ≠ 0) := by decide
    rw [if_neg (show ¬ (wordOf (Sch.use n)).length ≠ 0 from z0)]
    show (match ps[n]? with
      | none => []
      | some s => wP ps k s) = [] ++ (((ps[n]?).toList).map (wP ps k)).flatten
    cases ps[n]? with
    | none => rfl
    | some s => show wP ps k s = wP ps k s ++ []; rw [List.append_nil]
  · have nu : ∀ n, sc ≠ .use n := fun n e => h ⟨n, e⟩
    rw [parts_kids nu]
    exact wP_shape o nu
def PartR (H : Hp) (M k : Nat) (s : Sch) (v : V) : Prop := ∃ i d, SAt H d s v ∧ OkS i M d s ∧ (M - i) * 5 + d ≤ k
def spParts (ps : List Sch) (M k : Nat) : Sp := fun vs H Q _ => ∃ (pa : Addr) (v : V) (s : Sch) (i d : Nat), vs = [.ref pa, v] ∧ (∃ pv, H pa = some (.tup pv) ∧ Paired (SAt H 5) ps pv) ∧ SAt H (d + 1) s v ∧ OkS i M (d + 1) s ∧ (M - i) * 5 + (d + 1) ≤ k + 1 ∧
  ∀ (f : Addr) (kv : List V), H f = none → Paired (PartR H M k) (partsOf ps s) kv → (partsOf ps s).length ≤ 4 → Q (.ref f) (upd H f (.lst kv))
section
variable {P : Program} {w : World} {K : PySem.W.Frag} {mg : Str → Option Value} {base : Heap}
theorem kids_few {i M d : Nat} {sc : Sch} (o : OkS i M (d + 1) sc) : (kidsOf sc).length ≤ 4 := by
  cases sc with
  | all k => exact o.2.1
  | best k => exact o.2.1
  | _ => first | (show 0 ≤ 4; decide) | (show 1 ≤ 4; decide)
theorem PartR.keep {H H' : Hp} {M k : Nat} {s : Sch} {v : V} (h : PartR H M k s v) (t : TupK H H') : PartR H' M k s v := by
  obtain ⟨i, d, h1, h2, h3⟩ := h
  exact ⟨i, d, SAt.keep t _ _ _ h1, h2, h3⟩
end
end MS
end
section
set_option maxRecDepth 100000
set_option maxHeartbeats 4000000
namespace MS
open PySem L2
theorem walk_zipT {K : PySem.W.Frag} {a b : Addr} {xs ys : List V} {n : Nat} (hn : n = min xs.length ys.length) : Walk (RZ.ItzT K a b) n (fun H => SqT K H a xs ∧ SqT K H b ys) (YPair (fun i => xs[i]?) (fun i => ys[i]?)) := by
  subst hn
  refine ⟨fun i _ hi q => ?_, fun _ q => ⟨xs, ys, q.1, q.2, by omega⟩, fun i H v H' _ q y => ?_⟩
  · have h1 : i < xs.length := by omega
    have h2 : i < ys.length := by omega
    exact ⟨xs, ys, xs[i], ys[i], q.1, q.2, by simp [h1], by simp [h2]⟩
  · obtain ⟨T, x, z, h1, h2, h3, h4, h5⟩ := y
    exact ⟨T, x, z, h1, h2, h3, h4 xs q.1, h5 ys q.2⟩
def spCanBe (i M : Nat) : Sp := fun vs H Q _ => ∃ (v : V) (sc : Sch) (d : Nat), vs = [v, .int ((i : Nat) : Int), .int ((M : Nat) : Int)] ∧ SAt H (d + 1) sc v ∧ OkS i M (d + 1) sc ∧ ∀ H', Same H H' → Q (.bl true) H'
abbrev nmCanBe : List Str := ["thing", "number", "many", "shape", "part", "kind"]
abbrev psFits : List Str := ["part", "kind", "number", "many"]
theorem FitsR.keep {H H' : Hp} {i M : Nat} {v : V} {z : Str} (h : FitsR H i M v z) (k : Same H H') : FitsR H' i M v z := by
  rcases h with h | h | h | ⟨e, b, vs, e1, e2, h1, h2⟩ | h | h
  · exact .inl h
  · exact .inr (.inl h)
  · exact .inr (.inr (.inl h))
  · exact .inr (.inr (.inr (.inl ⟨e, b, vs, e1, k _ _ e2, h1, h2⟩)))
  · exact .inr (.inr (.inr (.inr (.inl h))))
  · exact .inr (.inr (.inr (.inr (.inr h))))
theorem not_whole {n : Nat} (h : 0 < n) : ¬ (HT.sIx n 0 (some 1) = 0 ∧ HT.sIx n n none = n) := fun ⟨h1, _⟩ => by
  have e := HT.sIx_nat n 0 1
  have h2 : HT.sIx n 0 (some ((1 : Nat) : Int)) = 0 := h1
  rw [e] at h2
  omega
section
variable {P : Program} {w : World} {K : PySem.W.Frag} {mg : Str → Option Value} {base : Heap}
theorem ok_can_be {i M : Nat} (T : PTx w K mg) (D : Def K mg "can_be" s_can_be ["thing", "number", "many"]) (DF : Def K mg "fits" s_fits psFits) (DN : Def K mg "is_number" s_is_number ["thing"]) : FnOk P w K mg base CX0 3 D.f D.fd ["thing", "number", "many"] (spCanBe i M) := by
  have GF : FnOk P w K mg base CX0 2 DF.f DF.fd psFits (spFits i M) := ok_fits T DF DN
  obtain ⟨aS, gS, low, hS⟩ := T.shapes
  have nd := sc_can_be.nd
  refine D.ok sc_can_be (fun vs H Q E h => ?_) (fun cdv A outer s H vs Q E hr h => ?_)
  · obtain ⟨v, sc, d, rfl, _⟩ := h
    rfl
  obtain ⟨v, sc, d, rfl, hs, ho, q⟩ := h
  refine ⟨_, pss_cons (ps_if (PW.pt (pw_or (pt_not (pt_val (pe_callB call_isi rfl (T.free "isinstance" (by decide +kernel)) (by decide +kernel) (pa_cons (pv 0) (pa_cons (pe_bltn rfl (T.free "tuple" (by decide +kernel)) (by decide +kernel) (v := .ty "tuple") rfl) pa_nil)))))
      (pw_or (pt_not (pt_truth (pv 0) (by intro _; rfl))) (pw_or1 (pt_not (pt_val (pe_callB call_isi rfl (T.free "isinstance" (by decide +kernel)) (by decide +kernel) (pa_cons (pe_ix ix_tup (pv 0) pe_int (fun _ _ => rfl)) (pa_cons (pe_bltn rfl (T.free "str" (by decide +kernel)) (by decide +kernel) (v := .ty "str") rfl) pa_nil))))))))) (pss_one (ps_ret pe_bl)) pss_nil)
    (pss_cons (ps_set (i := 3) nd rfl (Or.inl rfl) (pe_kget2 (pe_glob rfl gS (v := .ref aS) rfl) (pe_ix ix_tup (pv 0) pe_int (fun _ _ => rfl)) pe_non ⟨rfl, rfl, rfl, rfl⟩))
    (pss_cons (ps_if (PW.pt (pw_or (pt_cmpR op_isN (pv 3) pe_non (nomark _)) (pw_or1 (pt_cmpR op_ne (pe_callB call_len_seq rfl (T.free "len" (by decide +kernel)) PySem.boot_len (pa_cons (pv 0) pa_nil)) (pe_op op_add (pe_callB call_len_seq rfl (T.free "len" (by decide +kernel)) PySem.boot_len (pa_cons (pv 3) pa_nil)) pe_int) (nomark _))))) (pss_one (ps_ret pe_bl)) pss_nil)
    (pss_one (ps_ret (pe_callB (cr_all rfl) rfl (T.free "all" (by decide +kernel)) (by decide +kernel) (pa_cons
      (pe_lc (own := [("part", 4), ("kind", 5)]) (g := gTup K 2 (gCons (gName 4) (gCons (gName 5) gNil))) (tt := tYes) rfl nd (RZ.pi_zipA rfl (T.free "zip" (by decide +kernel)) (pa_cons (pe_slice sl_tupA (pv 0) (po_some pe_int) po_none) (pa_cons (pv 3) pa_nil))) (blkOk_by (N := nmCanBe) (sc := defScope s_can_be) (by decide +kernel))
        (fun _ _ _ _ _ => pg_tup rfl (pgs_cons (pg_name (i := 4) nd rfl (Or.inl rfl)) (pgs_cons (pg_name (i := 5) nd rfl (Or.inl rfl)) pgs_nil))) (fun _ _ _ _ _ => pts_nil)
        (fun _ _ _ _ _ => pcall DF GF hr (pa_cons (pv 4) (pa_cons (pv 5) (pa_cons (pv 1) (pa_cons (pv 2) pa_nil)))))) pa_nil)))))), ?_⟩
  obtain ⟨a, nm, rest, rfl, ea⟩ := hs.tag
  obtain ⟨kinds, kv, S⟩ := hs.shape ho ea
  obtain ⟨t, kd, qt⟩ := hS _ S.mem
  have lrk := Paired.length S.fit
  have lk3 : kinds.length ≤ 3 := by
    have z : ∀ p ∈ shapesL, p.2.length ≤ 3 := by decide +kernel
    exact z _ S.mem
  refine seq_if (b := false || (false || false)) (ev_or (b := false) (c := false || false) (fun Q q => ⟨_, rfl, _, .ty "tuple", .type "tuple", .type "tuple", true, rfl, .ty _, .base (.tup ea), kit_ty (by decide +kernel), _, rfl, q⟩)
    (ev_or (b := false) (c := false) (fun Q q => ⟨_, rfl, true, .inr (.inl ⟨_, SqT.of ea, rfl⟩), q⟩) (fun Q q => ⟨_, rfl, a, _, 0, .str nm, rfl, rfl, SqT.of ea, at0, _, .ty "str", .type "str", .type "str", true, rfl, .ty _, .base (.str nm), kit_ty (by decide +kernel), _, rfl, q⟩))) (fun z => nomatch z) (fun _ => ?_)
  refine ⟨aS, rfl, low, ⟨_, _, kd⟩, _, rfl, a, _, 0, .str nm, rfl, rfl, SqT.of ea, at0, nm, rfl, .inl ⟨_, kd, ?_⟩⟩
  dsimp only [gName]
  refine seq_if (b := false || false) (ev_or (b := false) (c := false) (fun Q q => ⟨_, rfl, rfl, _, rfl, by rw [decide_eq_false (fun z => nomatch z)]; exact q⟩)
    (fun Q q => ⟨_, rfl, a, _, rfl, .inr (SqT.of ea), _, rfl, t, _, rfl, .inr (qt _), _, _, rfl, rfl, rfl, _, rfl, (by
      have e : V.int (((V.str nm :: rest).length : Nat) : Int) = V.int (((kinds.map V.str).length : Nat) + 1 : Int) := by
        rw [List.length_cons, List.length_map, lrk]
        rfl
      rw [decide_eq_true e]
      exact q)⟩)) (fun z => nomatch z) (fun _ => ?_)
  refine ⟨_, rfl, 1, rfl, a, _, rfl, SqT.of ea, fun z => absurd z (not_whole (Nat.succ_pos _)), fun _ p hp => ?_⟩
  have s1 : Same H (upd H p (.tup (cutV (V.str nm :: rest) (some 1) none))) := Same.new hp
  have ec : cutV (V.str nm :: rest) (some 1) none = rest := cut_from (V.str nm :: rest) 1
  rw [ec] at s1 ⊢
  refine ⟨_, rfl, p, t, rest, kinds.map V.str, rfl, .inr ⟨SqT.of upd_same, qt _, fun Dd hD => ?_⟩⟩
  have s2 := s1.trans (Same.new (o := .lst []) hD)
  have ep : upd H p (.tup rest) p = some (.tup rest) := upd_same
  refine lc_it (walk_zipT (K := K) (a := p) (b := t) (xs := rest) (ys := kinds.map V.str) (n := rest.length) (by rw [List.length_map]; omega)) (fun j H'' => H'' Dd = some (.lst ((List.replicate j true).map V.bl)) ∧ Same (upd H p (.tup rest)) H'') ⟨upd_same, Same.new hD⟩ (fun j H'' _ ⟨_, s3⟩ => ⟨SqT.of (s3 _ _ ep), qt _⟩) ?_ ?_
  · rintro j x H2 H3 hj ⟨eD, s3⟩ ⟨T1, x1, x2, rfl, hT1, rfl, ex1, ex2⟩
    obtain ⟨k', ek', rfl⟩ : ∃ k', kinds[j]? = some k' ∧ x2 = V.str k' := by
      have ex2 : (kinds.map V.str)[j]? = some x2 := ex2
      rw [List.getElem?_map] at ex2
      cases e : kinds[j]? with
      | none => rw [e] at ex2; cases ex2
      | some k' => rw [e] at ex2; exact ⟨k', rfl, (Option.some.inj ex2).symm⟩
    obtain ⟨x', ex', hf⟩ := paired_get' S.fit ek'
    have ex1 : rest[j]? = some x1 := ex1
    rw [ex1] at ex'
    cases ex'
    have s4 := (s1.trans s3).trans (Same.new (o := .tup [x1, .str k']) hT1)
    refine ⟨T1, _, rfl, SqT.of upd_same, rfl, _, _, rfl, _, _, rfl, rfl, rfl, _, rfl, _, rfl, _, rfl, _, rfl, x1, k', rfl, hf.keep s4, _, Same.new hT1 _ _ eD, ?_, ?_, ?_⟩
    · rw [List.length_map, List.length_replicate]
      exact small1000 (by omega)
    · rw [upd_same, List.replicate_succ']
      rw [List.map_append]
      rfl
    · exact fun b o e => by
        rw [upd_ne (ne_of_none e hD)]
        exact (s3.trans (Same.new hT1)) b o e
  · rintro H'' ⟨eD, s3⟩
    refine ⟨Dd, _, rfl, SqL.of eD, ?_⟩
    rw [show (List.replicate rest.length true).all id = true by rw [List.all_replicate]; simp]
    exact q _ (s1.trans s3)
end
end MS
end
section
set_option maxRecDepth 100000
set_option maxHeartbeats 4000000
namespace MS
open PySem L2
theorem cat_at {K : PySem.W.Frag} {σ : St} {H : Hp} {wr : Addr} {wh : List Nat} {j i : Nat} {te : TE} {Q : VK} (s5 : σ[i]? = some (some (.ref wr))) (ewr : H wr = some (.tup (natV wh))) (hl : wh.length ≤ 200) (ht : ∀ Q : VK, Q (.int ((j : Nat) : Int)) H → te σ H Q)
    (q : ∀ (wr' : Addr) (H' : Hp), Same H H' → H' wr' = some (.tup (natV (wh ++ [j]))) → Q (.ref wr') H') : tOp (rCatA K) (tVar i) (tTup (tCons te tNil)) σ H Q := by
  refine ⟨_, s5, ht _ ⟨(by show 1 ≤ sizeLine; decide), fun t htn => ⟨wr, t, natV wh, [.int ((j : Nat) : Int)], rfl, rfl, SqT.of (Same.new htn _ _ ewr), SqT.of upd_same, szN (by rw [natV_len]; show wh.length + 1 ≤ 1000; omega), (fun z => ?_), (fun _ z => nomatch z), fun z _ p hp => ?_⟩⟩⟩
  · have z' : wh = [] := List.map_eq_nil_iff.mp z
    subst z'
    exact q t _ (Same.new htn) upd_same
  · exact q p _ ((Same.new htn).trans (Same.new hp)) (by rw [upd_same, natV_snoc])
/-- a place and what stands there -/
def PlR (H : Hp) (x : List Nat × V) (v : V) : Prop := ∃ b q, v = V.ref b ∧ H b = some (.tup [.ref q, x.2]) ∧ H q = some (.tup (natV x.1))
theorem PlR.keep {H H' : Hp} {x : List Nat × V} {v : V} (h : PlR H x v) (k : TupK H H') : PlR H' x v := by
  obtain ⟨b, q, e, h1, h2⟩ := h
  exact ⟨b, q, e, k _ _ h1, k _ _ h2⟩
def placedL (wh : List Nat) (xs : List V) : List (List Nat × V) := xs.zipIdx.map fun p => (wh ++ [p.2], p.1)
def spPlaced : Sp := fun vs H Q _ => ∃ (l pl : Addr) (xs : List V) (wh : List Nat), vs = [.ref l, .ref pl] ∧ H l = some (.lst xs) ∧ H pl = some (.tup (natV wh)) ∧ xs.length ≤ 100 ∧ wh.length ≤ 100 ∧
  ∀ (f : Addr) (pv : List V) (H' : Hp), Same H H' → H f = none → H' f = some (.lst pv) → Paired (PlR H') (placedL wh xs) pv → Q (.ref f) H'
section
variable {P : Program} {w : World} {K : PySem.W.Frag} {mg : Str → Option Value} {base : Heap}
theorem ok_placed (T : PTx w K mg) (D : Def K mg "placed" s_placed ["schemes", "place"]) : FnOk P w K mg base CX0 1 D.f D.fd ["schemes", "place"] spPlaced := by
  have nd := sc_placed.nd
  refine D.ok sc_placed (fun vs H Q E h => ?_) (fun cdv A outer s H vs Q E hr h => ?_)
  · obtain ⟨l, pl, xs, wh, rfl, _⟩ := h
    rfl
  obtain ⟨l, pl, xs, wh, rfl, el, epl, lx, lw, q⟩ := h
  refine ⟨_, pss_one (ps_ret (pe_lc (own := [("at", 2), ("scheme", 3)]) (g := gTup K 2 (gCons (gName 2) (gCons (gName 3) gNil))) (tt := tYes) rfl nd (pi_enum rfl (T.free "enumerate" (by decide +kernel)) (pa_cons (pv 0) pa_nil)) (blkOk_by (N := ["schemes", "place", "at", "scheme"]) (sc := defScope s_placed) (by decide +kernel))
      (fun _ _ _ _ _ => pg_tup rfl (pgs_cons (pg_name (i := 2) nd rfl (Or.inl rfl)) (pgs_cons (pg_name (i := 3) nd rfl (Or.inl rfl)) pgs_nil))) (fun _ _ _ _ _ => pts_nil)
      (fun _ _ _ _ _ => pe_tup (pa_cons (pe_op (r := rCatA K) op_catA (pv 1) (pe_tup (pa_cons (pv 2) pa_nil))) (pa_cons (pv 3) pa_nil))))), ?_⟩
  refine ⟨_, rfl, l, _, rfl, SqL.of el, fun Dd hD => ?_⟩
  have nlD : l ≠ Dd := ne_of_none el hD
  refine lc_it (walk_enum (K := K) (a := l) (xs := xs)) (fun j H'' => ∃ pv, H'' Dd = some (.lst pv) ∧ Paired (PlR H'') (placedL wh (xs.take j)) pv ∧ Same H H'') ⟨[], upd_same, .nil, Same.new hD⟩ (fun j H'' _ ⟨_, _, _, s3⟩ => SqL.of (s3 _ _ el)) ?_ ?_
  · rintro j x H2 H3 hj ⟨pv0, eD, pp, s3⟩ ⟨T1, x1, x2, rfl, hT1, rfl, ex1, ex2⟩
    obtain rfl : V.int ((j : Nat) : Int) = x1 := Option.some.inj ex1
    have ex2 : xs[j]? = some x2 := ex2
    have s4 := s3.trans (Same.new (o := .tup [.int ((j : Nat) : Int), x2]) hT1)
    refine ⟨T1, _, rfl, SqT.of upd_same, rfl, _, _, rfl, _, _, rfl, rfl, rfl, ?_⟩
    refine cat_at (i := 1) (j := j) rfl (s4 _ _ epl) (by omega) (fun Q q => ⟨_, rfl, q⟩) (fun wr' H5 s5 ew => ?_)
    refine ⟨_, rfl, sz2, fun p hp => ?_⟩
    have s6 := (Same.new (o := .tup [.int ((j : Nat) : Int), x2]) hT1).trans (s5.trans (Same.new (o := .tup [.ref wr', x2]) hp))
    have eD6 := s6 _ _ eD
    have lpv := Paired.length pp
    have tk : TupK H2 (upd (upd H5 p (.tup [.ref wr', x2])) Dd (.lst (pv0 ++ [.ref p]))) := (Same.tupK s6).trans (TupK.put eD6)
    have npD : p ≠ Dd := fun e => by rw [e] at eD6; rw [upd_same] at eD6; cases eD6
    refine ⟨_, eD6, ?_, _, upd_same, ?_, ?_⟩
    · have : (placedL wh (xs.take j)).length ≤ 100 := by
        unfold placedL
        rw [List.length_map, List.length_zipIdx, List.length_take]
        omega
      exact small1000 (by omega)
    · have e : placedL wh (xs.take (j + 1)) = placedL wh (xs.take j) ++ [(wh ++ [j], x2)] := by
        have hjl := (List.getElem?_eq_some_iff.mp ex2).1
        unfold placedL
        rw [List.take_succ, ex2]
        simp [List.zipIdx_append, List.length_take, Nat.min_eq_left (Nat.le_of_lt hjl)]
      rw [e]
      refine paired_app (paired_imp pp fun _ _ h => PlR.keep h tk) (.cons ⟨p, wr', rfl, by rw [upd_ne npD, upd_same], ?_⟩ .nil)
      exact TupK.put eD6 _ _ (Same.new hp _ _ ew)
    · intro b o e
      rw [upd_ne (ne_of_none e hD)]
      exact (s3.trans s6) b o e
  · rintro H'' ⟨pv0, eD, pp, s3⟩
    rw [List.take_length] at pp
    exact q Dd pv0 H'' s3 hD eD pp
end
/-- the one row of a step, or none -/
def spRowAt : Sp := fun vs H Q _ => ∃ (o : Option Nat) (p : Nat) (wr : Addr) (wh : List Nat), vs = [(match o with | some i => V.int ((i : Nat) : Int) | none => V.non), .int ((p : Nat) : Int), .ref wr] ∧ H wr = some (.tup (natV wh)) ∧
  ∀ (f : Addr) (rv : List V) (H' : Hp), Same H H' → H f = none → H' f = some (.lst rv) → Paired (RowR H') (match o with | some i => [(i, p, wh)] | none => []) rv → Q (.ref f) H'
section
variable {P : Program} {w : World} {K : PySem.W.Frag} {mg : Str → Option Value} {base : Heap}
end
end MS
end
section
set_option maxRecDepth 100000
set_option maxHeartbeats 4000000
namespace MS
open PySem L2
/-! ### all schemes in one -/
def pre : Nat → Sch → List Sch
  | 0, _ => []
  | d + 1, s => s :: ((kidsOf s).map (pre d)).flatten
theorem pre_succ (d : Nat) (s : Sch) : pre (d + 1) s = s :: ((kidsOf s).map (pre d)).flatten := rfl
theorem ok_kids {i M d : Nat} {s : Sch} (o : OkS i M (d + 1) s) : ∀ x ∈ kidsOf s, OkS i M d x := by
  cases s with
  | step w p => exact fun _ h => nomatch h
  | all k => exact o.2.2
  | best k => exact o.2.2
  | most n s => intro x h; rw [List.mem_singleton.mp h]; exact o.2
  | half s => intro x h; rw [List.mem_singleton.mp h]; exact o
  | seen w s => intro x h; rw [List.mem_singleton.mp h]; exact o.2
  | behind w s => intro x h; rw [List.mem_singleton.mp h]; exact o.2
  | carry s => intro x h; rw [List.mem_singleton.mp h]; exact o
  | fin w p s => intro x h; rw [List.mem_singleton.mp h]; exact o.2
  | use n => exact fun _ h => nomatch h
theorem sz_kids (d : Nat) (s : Sch) : sz (d + 1) s = 1 + ((kidsOf s).map (sz d)).sum := by
  cases s <;> simp [sz, kidsOf]
/-- what a scheme is itself -/
def ownE (c : Nat → Int) : Sch → Int
  | .step _ _ => 1
  | .fin _ _ _ => 1
  | .use n => c n
  | _ => 0
def ownW (c : Nat → Int) : Sch → Int
  | .seen _ _ => 1
  | .behind _ _ => 1
  | .use n => c n
  | _ => 0
theorem er_kids (c : Nat → Int) (d : Nat) (s : Sch) : er c (d + 1) s = ownE c s + ((kidsOf s).map (er c d)).sum := by
  cases s <;> simp [er, ownE, kidsOf]
theorem wr_kids (c : Nat → Int) (d : Nat) (s : Sch) : wr c (d + 1) s = ownW c s + ((kidsOf s).map (wr c d)).sum := by
  cases s <;> simp [wr, ownW, kidsOf]
theorem flat_lenEq {f : Sch → List Sch} {g : Sch → Int} : ∀ ks : List Sch, (∀ s ∈ ks, ((f s).length : Int) = g s) → (((ks.map f).flatten).length : Int) = (ks.map g).sum
  | [], _ => rfl
  | s :: r, h => by
    rw [List.map_cons, List.flatten_cons, List.length_append, List.map_cons, List.sum_cons]
    have := h s List.mem_cons_self
    have := flat_lenEq r fun s hs => h s (List.mem_cons_of_mem _ hs)
    omega
theorem flat_sumEq {f : Sch → List Sch} {o g : Sch → Int} : ∀ ks : List Sch, (∀ s ∈ ks, ((f s).map o).sum = g s) → (((ks.map f).flatten).map o).sum = (ks.map g).sum
  | [], _ => rfl
  | s :: r, h => by
    rw [List.map_cons, List.flatten_cons, List.map_append, List.sum_append, List.map_cons, List.sum_cons, h s List.mem_cons_self, flat_sumEq r fun s hs => h s (List.mem_cons_of_mem _ hs)]
theorem pre_len {i M : Nat} : ∀ (d : Nat) (s : Sch), OkS i M d s → ((pre d s).length : Int) = sz d s
  | 0, _, o => by cases o
  | d + 1, s, o => by
    rw [pre_succ, List.length_cons, sz_kids]
    have := flat_lenEq (f := pre d) (g := sz d) (kidsOf s) fun x hx => pre_len d x (ok_kids o x hx)
    omega
theorem pre_er {i M : Nat} (c : Nat → Int) : ∀ (d : Nat) (s : Sch), OkS i M d s → ((pre d s).map (ownE c)).sum = er c d s
  | 0, _, o => by cases o
  | d + 1, s, o => by
    rw [pre_succ, List.map_cons, List.sum_cons, er_kids, flat_sumEq (f := pre d) (g := er c d) (kidsOf s) fun x hx => pre_er c d x (ok_kids o x hx)]
theorem pre_wr {i M : Nat} (c : Nat → Int) : ∀ (d : Nat) (s : Sch), OkS i M d s → ((pre d s).map (ownW c)).sum = wr c d s
  | 0, _, o => by cases o
  | d + 1, s, o => by
    rw [pre_succ, List.map_cons, List.sum_cons, wr_kids, flat_sumEq (f := pre d) (g := wr c d) (kidsOf s) fun x hx => pre_wr c d x (ok_kids o x hx)]
/-- a scheme that was found -/
def FoundR (H : Hp) (i M : Nat) (s : Sch) (v : V) : Prop := ∃ d, SAt H (d + 1) s v ∧ OkS i M (d + 1) s
theorem FoundR.keep {H H' : Hp} {i M : Nat} {s : Sch} {v : V} (h : FoundR H i M s v) (k : TupK H H') : FoundR H' i M s v := by
  obtain ⟨d, h1, h2⟩ := h
  exact ⟨d, SAt.keep k _ _ _ h1, h2⟩
/-- a scheme that waits, behind its place -/
def WaitR (H : Hp) (i M : Nat) (x : List Nat × Sch) (v : V) : Prop := ∃ b q u, v = V.ref b ∧ H b = some (.tup [.ref q, u]) ∧ H q = some (.tup (natV x.1)) ∧ x.1.length ≤ 4 ∧ SAt H (5 - x.1.length) x.2 u ∧ OkS i M (5 - x.1.length) x.2
theorem WaitR.keep {H H' : Hp} {i M : Nat} {x : List Nat × Sch} {v : V} (h : WaitR H i M x v) (k : TupK H H') : WaitR H' i M x v := by
  obtain ⟨b, q, u, e, h1, h2, h3, h4, h5⟩ := h
  exact ⟨b, q, u, e, k _ _ h1, k _ _ h2, h3, SAt.keep k _ _ _ h4, h5⟩
def restOf (L : List (List Nat × Sch)) : List Sch := (L.map fun p => pre (5 - p.1.length) p.2).flatten
def waitsOf (wh : List Nat) (n : Nat) (ks : List Sch) : List (List Nat × Sch) := (ks.zipIdx n).map fun p => (wh ++ [p.2], p.1)
theorem rest_waits {wh : List Nat} {d : Nat} (hd : 5 - (wh.length + 1) = d) : ∀ (ks : List Sch) (n : Nat), restOf (waitsOf wh n ks) = (ks.map (pre d)).flatten
  | [], _ => rfl
  | s :: r, n => by
    have ih := rest_waits hd r (n + 1)
    unfold restOf waitsOf at ih ⊢
    rw [List.zipIdx_cons, List.map_cons, List.map_cons, List.flatten_cons, ih, List.map_cons, List.flatten_cons]
    show pre (5 - (wh ++ [n]).length) s ++ _ = _
    rw [List.length_append, List.length_singleton, hd]
theorem rest_app (a b : List (List Nat × Sch)) : restOf (a ++ b) = restOf a ++ restOf b := by
  unfold restOf
  rw [List.map_append, List.flatten_append]
theorem waits_at {H : Hp} {i M d : Nat} {wh : List Nat} (hd : 5 - (wh.length + 1) = d) : ∀ {ks : List Sch} {kv : List V} (n : Nat), Paired (SAt H d) ks kv → (∀ s ∈ ks, OkS i M d s) → ∀ {pv : List V}, Paired (PlR H) ((kv.zipIdx n).map fun p => (wh ++ [p.2], p.1)) pv → Paired (WaitR H i M) (waitsOf wh n ks) pv
  | _, _, n, .nil, _, _, .nil => .nil
  | s :: ks, v :: kv, n, .cons h t, ok, pv, hp => by
    rw [List.zipIdx_cons, List.map_cons] at hp
    cases hp with
    | @cons _ p0 _ pr h0 hr =>
      obtain ⟨b, q, e, h1, h2⟩ := h0
      have o := ok s List.mem_cons_self
      have hd0 : d ≠ 0 := fun z => by rw [z] at o; cases o
      have el : (wh ++ [n]).length = wh.length + 1 := by rw [List.length_append, List.length_singleton]
      show Paired (WaitR H i M) ((wh ++ [n], s) :: waitsOf wh (n + 1) ks) _
      refine .cons ⟨b, q, v, e, h1, h2, ?_, ?_, ?_⟩ (waits_at hd (n + 1) t (fun s hs => ok s (List.mem_cons_of_mem _ hs)) hr)
      · show (wh ++ [n]).length ≤ 4
        rw [el]
        omega
      · show SAt H (5 - (wh ++ [n]).length) s v
        rw [el, hd]
        exact h
      · show OkS i M (5 - (wh ++ [n]).length) s
        rw [el, hd]
        exact o
def SIn (K : PySem.W.Frag) (M i : Nat) (s : Sch) (pa f : Addr) (H : Hp) (m : Nat) (σ : St) (H' : Hp) : Prop :=
  ∃ (wl : Addr) (done : List Sch) (L : List (List Nat × Sch)) (fv wv : List V) (v4 v5 : Option V), σ = [some (.ref pa), some (.int ((i : Nat) : Int)), some (.ref f), some (.ref wl), v4, v5] ∧ H' f = some (.lst fv) ∧ H' wl = some (.lst wv) ∧
    Paired (FoundR H' i M) done fv ∧ Paired (WaitR H' i M) L wv ∧ done ++ restOf L = pre 5 s ∧ L.length ≤ 1000 ∧ m = (restOf L).length ∧ Same H H'
def spSchemesIn (ps : List Sch) (i : Nat) : Sp := fun vs H Q _ => ∃ (pa : Addr) (pv : List V) (s : Sch), vs = [.ref pa, .int ((i : Nat) : Int)] ∧ H pa = some (.tup pv) ∧ Paired (SAt H 5) ps pv ∧ ps[i]? = some s ∧ OkS i ps.length 5 s ∧ sz 5 s ≤ 12 ∧
  ∀ (f : Addr) (fv : List V) (H' : Hp), Same H H' → H f = none → H' f = some (.lst fv) → Paired (FoundR H' i ps.length) (pre 5 s) fv → Q (.ref f) H'
theorem paired_get2 {α β : Type} {R : α → β → Prop} : ∀ {xs : List α} {ys : List β}, Paired R xs ys → ∀ {k : Nat} {x : α}, xs[k]? = some x → ∃ y, ys[k]? = some y ∧ R x y
  | _, _, .nil, _, _, h => by simp at h
  | _, _, .cons r t, 0, _, h => by
    simp at h
    subst h
    exact ⟨_, rfl, r⟩
  | _, _, .cons _ t, k + 1, x, h => by
    obtain ⟨y, e, r⟩ := paired_get2 t (k := k) (x := x) (by simpa using h)
    exact ⟨y, by simpa using e, r⟩
theorem rest_len_le : ∀ {H : Hp} {i M : Nat} {L : List (List Nat × Sch)} {wv : List V}, Paired (WaitR H i M) L wv → L.length ≤ (restOf L).length
  | _, _, _, _, _, .nil => Nat.le_refl _
  | H, i, M, x :: L, _, .cons h t => by
    have ih := rest_len_le t
    obtain ⟨b, q, u, e, h1, h2, h3, h4, h5⟩ := h
    obtain ⟨d, hd⟩ : ∃ d, 5 - x.1.length = d + 1 := ⟨4 - x.1.length, by omega⟩
    show (x :: L).length ≤ (restOf ([x] ++ L)).length
    rw [rest_app, List.length_append, List.length_cons]
    have : 1 ≤ (restOf [x]).length := by
      show 1 ≤ ((pre (5 - x.1.length) x.2) ++ []).length
      rw [hd, pre_succ, List.append_nil, List.length_cons]
      omega
    omega
section
variable {P : Program} {w : World} {K : PySem.W.Frag} {mg : Str → Option Value} {base : Heap}
theorem ok_schemes_in {ps : List Sch} {i : Nat} (T : PTx w K mg) (D : Def K mg "schemes_in" s_schemes_in ["paper", "number"]) (DB : Def K mg "can_be" s_can_be ["thing", "number", "many"]) (DF : Def K mg "fits" s_fits psFits) (DN : Def K mg "is_number" s_is_number ["thing"])
    (DI : Def K mg "within" s_within ["scheme"]) (DP : Def K mg "placed" s_placed ["schemes", "place"]) : FnOk P w K mg base CX0 4 D.f D.fd ["paper", "number"] (spSchemesIn ps i) := by
  have GB : FnOk P w K mg base CX0 3 DB.f DB.fd ["thing", "number", "many"] (spCanBe i ps.length) := ok_can_be T DB DF DN
  have GI : FnOk P w K mg base CX0 1 DI.f DI.fd ["scheme"] spWithin := ok_within T DI
  have GP : FnOk P w K mg base CX0 1 DP.f DP.fd ["schemes", "place"] spPlaced := ok_placed T DP
  obtain ⟨tS, gS⟩ := T.mostInScheme
  obtain ⟨tL, gL⟩ := T.longest
  have nd := sc_schemes_in.nd
  refine D.ok sc_schemes_in (fun vs H Q E h => ?_) (fun cdv A outer s H vs Q E hr h => ?_)
  · obtain ⟨pa, pv, s, rfl, _⟩ := h
    rfl
  obtain ⟨pa, pv0, sc, rfl, epv, pp, es, ho, hz, q⟩ := h
  have hr1 : Room 1 _ := hr.mono (by decide)
  refine ⟨_, pss_cons (ps_set (i := 2) nd rfl (Or.inl rfl) (pe_lst pa_nil))
    (pss_cons (ps_set (i := 3) nd rfl (Or.inl rfl) (pe_lst (pa_cons (pe_tup (pa_cons (pe_tup pa_nil) (pa_cons (pe_ix ix_tup (pv 0) (pv 1) (fun _ _ => rfl)) pa_nil))) pa_nil)))
    (pss_cons (ps_while PassesOwn.never (pt_truth (pv 3) (by intro _; rfl))
      (pss_cons (ps_asg (pe_ix ix_list (pv 3) pe_int (fun _ _ => rfl)) (pg_tup (by rfl) (pgs_cons (pg_name (i := 4) nd rfl (Or.inl rfl)) (pgs_cons (pg_name (i := 5) nd rfl (Or.inl rfl)) pgs_nil))))
      (pss_cons (ps_if (PW.pt (pw_or (pt_cmpR op_eq (pe_callB call_len_seq rfl (T.free "len" (by decide +kernel)) PySem.boot_len (pa_cons (pv 2) pa_nil)) (pe_glob rfl gS (v := .int 12) ⟨_, rfl⟩) (nomark _)) (pw_or1 (pt_cmpR op_gt (pe_callB call_len_seq rfl (T.free "len" (by decide +kernel)) PySem.boot_len (pa_cons (pv 4) pa_nil)) (pe_glob rfl gL (v := .int 4) ⟨_, rfl⟩) (nomark _))))) (pss_one ps_never) pss_nil)
      (pss_cons (ps_if (pt_not (pt_val (pcall DB GB hr (pa_cons (pv 5) (pa_cons (pv 1) (pa_cons (pe_callB call_len_seq rfl (T.free "len" (by decide +kernel)) PySem.boot_len (pa_cons (pv 0) pa_nil)) pa_nil)))))) (pss_one ps_never) pss_nil)
      (pss_cons (ps_expr (pe_bm PySem.F.plainAttrs_list PySem.F.slot_list_append PySem.F.type_list_append mt_append (pv 2) (pa_cons (pv 5) pa_nil)))
      (pss_one (ps_set (i := 3) nd rfl (Or.inl rfl) (pe_op op_cat (pcall DP GP hr1 (pa_cons (pcall DI GI hr1 (pa_cons (pv 5) pa_nil)) (pa_cons (pv 4) pa_nil))) (pe_slice sl_list (pv 3) (po_some pe_int) po_none)))))))))
    (pss_one (ps_ret (pv 2))))), ?_⟩
  have hM := Paired.length pp
  have hlen : ((pre 5 sc).length : Int) = sz 5 sc := pre_len 5 sc ho
  obtain ⟨v0, ev0, hs0⟩ := paired_get2 pp es
  refine ⟨Nat.zero_le _, fun f hf => ?_⟩
  have s1 : Same H (upd H f (.lst [])) := Same.new hf
  dsimp only [gName]
  refine ⟨Nat.zero_le _, fun t0 ht0 => ?_⟩
  have s2 := s1.trans (Same.new (o := .tup []) ht0)
  refine ⟨_, rfl, _, rfl, pa, _, _, v0, rfl, rfl, SqT.of (s2 _ _ epv), atI_nat ev0, sz2, fun t1 ht1 => ?_⟩
  have s3 := s2.trans (Same.new (o := .tup [.ref t0, v0]) ht1)
  refine ⟨szN (by show 1 ≤ 1000; decide), fun wl hwl => ?_⟩
  have s4 := s3.trans (Same.new (o := .lst [.ref t1]) hwl)
  dsimp only [gName]
  have b1 := Same.new (o := .lst [V.ref t1]) hwl
  have b2 := (Same.new (o := .tup [.ref t0, v0]) ht1).trans b1
  have b3 := (Same.new (o := .tup []) ht0).trans b2
  have R0 : restOf [(([] : List Nat), sc)] = pre 5 sc := by show pre 5 sc ++ [] = _; rw [List.append_nil]
  refine ⟨fun m σ H' => SIn K ps.length i sc pa f H m σ H', ⟨(restOf [([], sc)]).length, wl, [], [([], sc)], [], [.ref t1], none, none, rfl, b3 _ _ upd_same, upd_same, .nil, .cons ⟨t1, t0, v0, rfl, b1 _ _ upd_same, b2 _ _ upd_same, by show 0 ≤ 4; decide, SAt.keep (Same.tupK s4) _ _ _ hs0, ho⟩ .nil, R0, by show 1 ≤ 1000; decide, rfl, s4⟩, ?_⟩
  rintro m σ H1 ⟨wl1, done, L, fv, wv, v4, v5, rfl, ef, ewl, pf, pw, eall, hL, em, sm⟩
  have lall := congrArg List.length eall
  rw [List.length_append] at lall
  have hrl := rest_len_le pw
  have lfv := Paired.length pf
  have lwv := Paired.length pw
  refine ⟨_, rfl, !wv.isEmpty, .inl ⟨_, SqL.of ewl, rfl⟩, ?_⟩
  cases pw with
  | nil =>
    have e : done = pre 5 sc := by rw [← eall]; show done = done ++ []; rw [List.append_nil]
    rw [e] at pf
    exact iteF ⟨_, rfl, q f fv H1 sm hf ef pf⟩
  | @cons x vb L' wr hx hrest =>
    obtain ⟨b, qa, u, rfl, eb, eqa, hx4, hsx, hox⟩ := hx
    obtain ⟨wh, s'⟩ := x
    have hx4 : wh.length ≤ 4 := hx4
    obtain ⟨d, hd⟩ : ∃ d, 5 - wh.length = d + 1 := ⟨4 - wh.length, by omega⟩
    have hsx : SAt H1 (5 - wh.length) s' u := hsx
    have hox : OkS i ps.length (5 - wh.length) s' := hox
    rw [hd] at hsx hox
    have eR : restOf ((wh, s') :: L') = s' :: (((kidsOf s').map (pre d)).flatten ++ restOf L') := by
      show pre (5 - wh.length) s' ++ restOf L' = _
      rw [hd, pre_succ]
      rfl
    rw [eR] at eall lall em hrl
    rw [List.length_cons] at lall em
    have hrl' : L'.length ≤ 12 := by
      rw [List.length_cons, List.length_cons] at hrl
      omega
    refine iteT ⟨fun σ' H' => ∃ m', m' < m ∧ SIn K ps.length i sc pa f H m' σ' H', fun _ _ z => z, ?_⟩
    refine ⟨_, rfl, wl1, _, 0, .ref b, rfl, rfl, SqL.of ewl, at0, b, _, rfl, SqT.of eb, rfl, _, _, rfl, _, _, rfl, rfl, ?_⟩
    dsimp only [gName]
    refine seq_if (b := false || false) (ev_or (b := false) (c := false) (fun Q q => ⟨_, rfl, f, _, rfl, .inl (SqL.of ef), rfl, _, rfl, by
        rw [decide_eq_false (fun z => by have z2 := V.int.inj z; omega)]
        exact q⟩) (fun Q q => ⟨_, rfl, qa, _, rfl, .inr (SqT.of eqa), _, _, rfl, rfl, _, rfl, by
        rw [decide_eq_false (show ¬ ((4 : Int) < (((natV wh).length : Nat) : Int)) by rw [natV_len]; omega)]
        exact q⟩)) (fun z => nomatch z) (fun _ => ?_)
    refine seq_new (b := false) (fun Q q => ⟨_, rfl, _, rfl, _, rfl, pa, _, rfl, .inr (SqT.of (sm _ _ epv)), u, s', d, by rw [hM]; rfl, hsx, hox, fun H3 s3 => ⟨_, rfl, q H3 s3⟩⟩) (fun z => nomatch z) (fun _ H3 s3 => ?_)
    have ef3 := s3 _ _ ef
    refine ⟨_, rfl, .inl ⟨rfl, _, SqL.of ef3⟩, _, rfl, f, _, _, rfl, rfl, ef3, small1000 (by omega), ?_⟩
    have t4 : TupK H1 (upd H3 f (.lst (fv ++ [u]))) := (Same.tupK s3).trans (TupK.put ef3)
    have ef4 : upd H3 f (.lst (fv ++ [u])) f = some (.lst (fv ++ [u])) := upd_same
    have nfw : wl1 ≠ f := fun z => by
      rw [z, ef] at ewl
      have e2 := HO.lst.inj (Option.some.inj ewl)
      subst e2
      cases pf with
      | @cons s9 v9 _ _ h9 _ =>
        obtain ⟨d9, h9, _⟩ := h9
        obtain ⟨a9, nm9, r9, e9, ea9⟩ := h9.tag
        cases e9
        rw [eb] at ea9
        cases ea9
    have ewl4 : upd H3 f (.lst (fv ++ [u])) wl1 = some (.lst (V.ref b :: wr)) := by rw [upd_ne nfw]; exact s3 _ _ ewl
    have sm4 : Same H (upd H3 f (.lst (fv ++ [u]))) := Same.newer (sm.trans s3) hf
    generalize hH4 : upd H3 f (.lst (fv ++ [u])) = H4 at t4 ef4 ewl4 sm4 ⊢
    refine ⟨_, rfl, u, s', i, ps.length, d, rfl, SAt.keep t4 _ _ _ hsx, hox, fun l kv hl at_ => ?_⟩
    have lkv := Paired.length at_
    have lkf := kids_few hox
    have s5 := Same.new (o := .lst kv) hl
    have t5 := t4.trans (Same.tupK s5)
    refine ⟨_, rfl, l, qa, kv, wh, rfl, upd_same, t5 _ _ eqa, by omega, by omega, fun g pv' H6 s6 hg eg pp6 => ?_⟩
    have s56 := s5.trans s6
    refine ⟨_, rfl, 1, rfl, wl1, _, rfl, SqL.of (s56 _ _ ewl4), fun p hp => ?_⟩
    have ec : cutV (V.ref b :: wr) (some 1) none = wr := cut_from (V.ref b :: wr) 1
    rw [ec]
    have ngp : g ≠ p := ne_of_none eg hp
    have lpv := Paired.length pp6
    have lpl : (placedL wh kv).length = kv.length := by unfold placedL; rw [List.length_map, List.length_zipIdx]
    have lcat : pv'.length + wr.length ≤ 1000 := by
      have := Paired.length hrest
      omega
    refine ⟨g, p, _, _, rfl, rfl, by rw [upd_ne ngp]; exact eg, upd_same, szN lcat, fun r hr => ?_⟩
    have s7 := (s56.trans (Same.new (o := .lst wr) hp)).trans (Same.new (o := .lst (pv' ++ wr)) hr)
    have s67 := (s6.trans (Same.new (o := .lst wr) hp)).trans (Same.new (o := .lst (pv' ++ wr)) hr)
    have t6 := (Same.new (o := .lst wr) hp).trans (Same.new (o := .lst (pv' ++ wr)) hr)
    dsimp only [gName]
    have hd' : 5 - (wh.length + 1) = d := by omega
    have tk7 := t4.trans (Same.tupK s7)
    refine ⟨(restOf (waitsOf wh 0 (kidsOf s') ++ L')).length, ?_, r, done ++ [s'], waitsOf wh 0 (kidsOf s') ++ L', fv ++ [u], pv' ++ wr, _, _, rfl, s7 _ _ ef4, upd_same, ?_, ?_, ?_, ?_, rfl, sm4.trans s7⟩
    · rw [rest_app, rest_waits hd']
      omega
    · exact paired_app (paired_imp pf fun _ _ h => FoundR.keep h tk7) (.cons ⟨d, SAt.keep tk7 _ _ _ hsx, hox⟩ .nil)
    · refine paired_app ?_ (paired_imp hrest fun _ _ h => WaitR.keep h tk7)
      exact waits_at hd' 0 (paired_imp at_ fun _ _ h => SAt.keep (Same.tupK (s5.trans s67)) _ _ _ h) (ok_kids hox) (paired_imp pp6 fun _ _ h => PlR.keep h (Same.tupK t6))
    · rw [rest_app, rest_waits hd', ← eall]
      simp
    · rw [List.length_append]
      unfold waitsOf
      rw [List.length_map, List.length_zipIdx]
      omega
end
end MS
end
section
set_option maxRecDepth 100000
set_option maxHeartbeats 4000000
namespace MS
open PySem L2
/-! ### how many of some names -/
def rGetL (K : PySem.W.Frag) : V → V → Hp → VK → Prop := fun x y H Q => ∃ p xs i v, x = .ref p ∧ y = .int i ∧ SqL K H p xs ∧ 0 ≤ i ∧ xs[i.toNat]? = some v ∧ Q v H
theorem pget_list {X : Cx} : PGet X (rGetL X.K) := by
  intro pins s σ H o i ov iv Q I ro ri h
  obtain ⟨p, xs, k, v, rfl, rfl, hq, h0, he, q⟩ := h
  cases ro
  obtain ⟨t, rfl⟩ := ri
  obtain ⟨its, r, pl, hz⟩ := I.list hq
  obtain ⟨w, ew, rw'⟩ := r.get he
  have hl := r.length
  have hn := line63
  have hk := (List.getElem?_eq_some_iff.mp he).1
  exact PyProof.Rows.getItem_listL pl.isList h0 (by omega) ew ⟨v, H, I, rw', q⟩
theorem ix_nat {n k : Nat} (h : k < n) : ixN n ((k : Nat) : Int) = some k := by
  unfold ixN
  rw [if_pos (by omega), if_pos (by omega)]
  congr 1
def own (E : Bool) (c : Nat → Int) (s : Sch) : Int := match E with
  | true => ownE c s
  | false => ownW c s
def namesV (E : Bool) : List V := match E with
  | true => [.str "step", .str "end"]
  | false => [.str "seen", .str "behind"]
theorem names_flat (E : Bool) : (namesV E).all flatV = true := by cases E <;> rfl
theorem own_tag {H : Hp} {d : Nat} {s : Sch} {a : Addr} {nm : Str} {rest : List V} (h : SAt H (d + 1) s (.ref a)) (ea : H a = some (.tup (.str nm :: rest))) :
    (∃ n, s = .use n ∧ nm = "use" ∧ rest = [.int ((n : Nat) : Int)]) ∨ ((nm == "use") = false ∧ ∀ E c, own E c s = if inV (.str nm) (namesV E) = true then 1 else 0) := by
  have inj : ∀ {a' : Addr} {nm' : Str} {rest' : List V}, (V.ref a = V.ref a') → H a' = some (.tup (.str nm' :: rest')) → nm' = nm ∧ rest' = rest := fun e h => by
    cases e
    rw [ea] at h
    cases h
    exact ⟨rfl, rfl⟩
  cases s with
  | step x p =>
    obtain ⟨a', e, h⟩ := h
    obtain ⟨rfl, rfl⟩ := inj e h
    refine .inr ⟨by decide +kernel, fun E c => ?_⟩
    cases E
    · show (0 : Int) = if inV (.str "step") [.str "seen", .str "behind"] = true then 1 else 0
      decide +kernel
    · show (1 : Int) = if inV (.str "step") [.str "step", .str "end"] = true then 1 else 0
      decide +kernel
  | all k =>
    obtain ⟨a', b, vs, e, h, _⟩ := h
    obtain ⟨rfl, rfl⟩ := inj e h
    refine .inr ⟨by decide +kernel, fun E c => ?_⟩
    cases E
    · show (0 : Int) = if inV (.str "all") [.str "seen", .str "behind"] = true then 1 else 0
      decide +kernel
    · show (0 : Int) = if inV (.str "all") [.str "step", .str "end"] = true then 1 else 0
      decide +kernel
  | best k =>
    obtain ⟨a', b, vs, e, h, _⟩ := h
    obtain ⟨rfl, rfl⟩ := inj e h
    refine .inr ⟨by decide +kernel, fun E c => ?_⟩
    cases E
    · show (0 : Int) = if inV (.str "best") [.str "seen", .str "behind"] = true then 1 else 0
      decide +kernel
    · show (0 : Int) = if inV (.str "best") [.str "step", .str "end"] = true then 1 else 0
      decide +kernel
  | most n s =>
    obtain ⟨a', u, e, h, _⟩ := h
    obtain ⟨rfl, rfl⟩ := inj e h
    refine .inr ⟨by decide +kernel, fun E c => ?_⟩
    cases E
    · show (0 : Int) = if inV (.str "most") [.str "seen", .str "behind"] = true then 1 else 0
      decide +kernel
    · show (0 : Int) = if inV (.str "most") [.str "step", .str "end"] = true then 1 else 0
      decide +kernel
  | half s =>
    obtain ⟨a', u, e, h, _⟩ := h
    obtain ⟨rfl, rfl⟩ := inj e h
    refine .inr ⟨by decide +kernel, fun E c => ?_⟩
    cases E
    · show (0 : Int) = if inV (.str "half") [.str "seen", .str "behind"] = true then 1 else 0
      decide +kernel
    · show (0 : Int) = if inV (.str "half") [.str "step", .str "end"] = true then 1 else 0
      decide +kernel
  | seen x s =>
    obtain ⟨a', u, e, h, _⟩ := h
    obtain ⟨rfl, rfl⟩ := inj e h
    refine .inr ⟨by decide +kernel, fun E c => ?_⟩
    cases E
    · show (1 : Int) = if inV (.str "seen") [.str "seen", .str "behind"] = true then 1 else 0
      decide +kernel
    · show (0 : Int) = if inV (.str "seen") [.str "step", .str "end"] = true then 1 else 0
      decide +kernel
  | behind x s =>
    obtain ⟨a', u, e, h, _⟩ := h
    obtain ⟨rfl, rfl⟩ := inj e h
    refine .inr ⟨by decide +kernel, fun E c => ?_⟩
    cases E
    · show (1 : Int) = if inV (.str "behind") [.str "seen", .str "behind"] = true then 1 else 0
      decide +kernel
    · show (0 : Int) = if inV (.str "behind") [.str "step", .str "end"] = true then 1 else 0
      decide +kernel
  | carry s =>
    obtain ⟨a', u, e, h, _⟩ := h
    obtain ⟨rfl, rfl⟩ := inj e h
    refine .inr ⟨by decide +kernel, fun E c => ?_⟩
    cases E
    · show (0 : Int) = if inV (.str "carry") [.str "seen", .str "behind"] = true then 1 else 0
      decide +kernel
    · show (0 : Int) = if inV (.str "carry") [.str "step", .str "end"] = true then 1 else 0
      decide +kernel
  | fin x p s =>
    obtain ⟨a', u, e, h, _⟩ := h
    obtain ⟨rfl, rfl⟩ := inj e h
    refine .inr ⟨by decide +kernel, fun E c => ?_⟩
    cases E
    · show (0 : Int) = if inV (.str "end") [.str "seen", .str "behind"] = true then 1 else 0
      decide +kernel
    · show (1 : Int) = if inV (.str "end") [.str "step", .str "end"] = true then 1 else 0
      decide +kernel
  | use n =>
    obtain ⟨a', e, h⟩ := h
    obtain ⟨rfl, rfl⟩ := inj e h
    exact .inl ⟨n, rfl, rfl, rfl⟩
def mvOf (N : Nat) (g : Nat → Int) : List V := (List.range N).map fun j => V.int (g j)
theorem mv_len (N : Nat) (g : Nat → Int) : (mvOf N g).length = N := by unfold mvOf; simp
theorem mv_get {N k : Nat} {g : Nat → Int} (h : k < N) : (mvOf N g)[k]? = some (.int (g k)) := by
  unfold mvOf
  rw [List.getElem?_map, List.getElem?_range h]
  rfl
theorem mv_congr {N : Nat} {g g' : Nat → Int} (h : ∀ j, j < N → g j = g' j) : mvOf N g = mvOf N g' := by
  unfold mvOf
  exact List.map_congr_left fun j hj => by rw [h j (List.mem_range.mp hj)]
theorem mv_set (N k : Nat) (g : Nat → Int) (z : Int) : (mvOf N g).set k (.int z) = mvOf N (fun j => if j = k then z else g j) := by
  refine List.ext_getElem (by simp [mvOf]) fun j h1 h2 => ?_
  simp only [mvOf, List.getElem_set, List.getElem_map, List.getElem_range]
  by_cases e : k = j
  · subst e
    simp
  · rw [if_neg e, if_neg (fun z => e z.symm)]
theorem mv_zero {N : Nat} {g : Nat → Int} (h : ∀ j, j < N → g j = 0) : mvOf N g = List.replicate N (V.int 0) := by
  refine List.ext_getElem (by simp [mvOf]) fun j h1 h2 => ?_
  simp only [mvOf, List.getElem_map, List.getElem_range, List.getElem_replicate]
  rw [h j (by simpa [mvOf] using h1)]
/-- the schemes of each of a paper stand at plv -/
def PartsAt (H : Hp) (ps : List Sch) (plv : List V) : Prop := ∀ j s, ps[j]? = some s → ∃ fj fv, plv[j]? = some (V.ref fj) ∧ H fj = some (.lst fv) ∧ Paired (FoundR H j ps.length) (pre 5 s) fv
theorem PartsAt.keep {H H' : Hp} {ps : List Sch} {plv : List V} (h : PartsAt H ps plv) (k : Same H H') : PartsAt H' ps plv := fun j s e => by
  obtain ⟨fj, fv, h1, h2, h3⟩ := h j s e
  exact ⟨fj, fv, h1, k _ _ h2, paired_imp h3 fun _ _ h => FoundR.keep h (Same.tupK k)⟩
def spMany (K : PySem.W.Frag) (E : Bool) (ps : List Sch) (c : Nat → Int) : Sp := fun vs H Q _ => ∃ (na pl : Addr) (plv : List V), vs = [.ref na, .ref pl] ∧ (∀ H', SqT K H' na (namesV E)) ∧ H pl = some (.lst plv) ∧ plv.length = ps.length ∧ 0 < ps.length ∧ ps.length ≤ 5 ∧ PartsAt H ps plv ∧
  (∀ j s, ps[j]? = some s → c j = ((pre 5 s).map (own E c)).sum) ∧ ∀ H', Same H H' → Q (.int (c 0)) H'
section
variable {P : Program} {w : World} {K : PySem.W.Frag} {mg : Str → Option Value} {base : Heap}
theorem ok_many_of {E : Bool} {ps : List Sch} {c : Nat → Int} (T : PTx w K mg) (D : Def K mg "many_of" s_many_of ["names", "parts"]) : FnOk P w K mg base CX0 1 D.f D.fd ["names", "parts"] (spMany K E ps c) := by
  have nd := sc_many_of.nd
  refine D.ok sc_many_of (fun vs H Q E h => ?_) (fun cdv A outer s H vs Q E' hr h => ?_)
  · obtain ⟨na, pl, plv, rfl, _⟩ := h
    rfl
  obtain ⟨na, pl, plv, rfl, hna, epl, hl, h0, h5, hparts, hc, q⟩ := h
  refine ⟨_, pss_cons (ps_set (i := 2) nd rfl (Or.inl rfl) (pe_op op_rep (pe_lst (pa_cons pe_int pa_nil)) (pe_callB call_len_seq rfl (T.free "len" (by decide +kernel)) PySem.boot_len (pa_cons (pv 1) pa_nil))))
    (pss_cons (ps_for PassesOwn.never rfl (pi_revR rfl (T.free "reversed" (by decide +kernel)) (prg_1 rfl (T.free "range" (by decide +kernel)) (pe_callB call_len_seq rfl (T.free "len" (by decide +kernel)) PySem.boot_len (pa_cons (pv 1) pa_nil)))) (pg_name (i := 3) nd rfl (Or.inl rfl))
      (pss_one (ps_for PassesOwn.never rfl (pi_list (pe_ix ix_list (pv 1) (pv 3) (fun _ _ => rfl))) (pg_name (i := 4) nd rfl (Or.inl rfl))
        (pss_one (ps_if (pt_cmpR op_eq (pe_ix ix_tup (pv 4) pe_int (fun _ _ => rfl)) pe_str (nomark _))
          (pss_one (ps_augS (pv 2) (pv 3) pget_list (pe_ix ix_list (pv 2) (pe_ix ix_tup (pv 4) pe_int (fun _ _ => rfl)) (fun _ _ => rfl)) ip_add set_list))
          (pss_one (ps_if (pt_cmpR op_in_seq (pe_ix ix_tup (pv 4) pe_int (fun _ _ => rfl)) (pv 0) (by rfl)) (pss_one (ps_augS (pv 2) (pv 3) pget_list pe_int ip_add set_list)) pss_nil)))))))
    (pss_one (ps_ret (pe_ix ix_list (pv 2) pe_int (fun _ _ => rfl))))), ?_⟩
  have hN : (((plv.length : Nat) : Int) - 0).toNat = ps.length := by rw [hl]; omega
  refine ⟨szN (by show 1 ≤ 1000; decide), fun p0 hp0 => ?_⟩
  have s1 : Same H (upd H p0 (.lst [.int 0])) := Same.new hp0
  refine ⟨_, rfl, pl, _, rfl, .inl (SqL.of (s1 _ _ epl)), p0, _, _, rfl, rfl, upd_same, by omega, by omega, szN (by show 1 * _ ≤ 1000; omega), fun ml hml => ?_⟩
  rw [flat_rep, show (((plv.length : Nat) : Int)).toNat = ps.length by omega]
  have s2 := s1.trans (Same.new (o := .lst (List.replicate ps.length (V.int 0))) hml)
  have hm0 : H ml = none := s1.free hml
  dsimp only [gName]
  refine ⟨_, rfl, pl, _, rfl, .inl (SqL.of (s2 _ _ epl)), _, rfl, by omega, by omega, by omega, by omega, ?_⟩
  refine for_rangeC (lo := 0 + ((((plv.length : Nat) : Int) - 0).toNat : Int) - 1) (c := -1) (n := (((plv.length : Nat) : Int) - 0).toNat) (fun i σ H' => ∃ v3 v4 : Option V, σ = [some (.ref na), some (.ref pl), some (.ref ml), v3, v4] ∧ H' ml = some (.lst (mvOf ps.length fun j => if ps.length - i ≤ j then c j else 0)) ∧ Same H H')
    ⟨none, none, rfl, by rw [mv_zero fun j hj => if_neg (by omega)]; exact upd_same, s2⟩ ?_ ?_
  · rintro i σ H1 hi ⟨v3, v4, rfl, em, sm⟩
    rw [hN] at hi
    dsimp only [gName]
    have ez : 0 + ((((plv.length : Nat) : Int) - 0).toNat : Int) - 1 + ((i : Nat) : Int) * -1 = ((ps.length - 1 - i : Nat) : Int) := by rw [hN]; omega
    rw [ez]
    have hk : ps.length - 1 - i < ps.length := by omega
    obtain ⟨fj, fv, e1, e2, e3⟩ := hparts _ _ (List.getElem?_eq_getElem hk)
    have ck := hc _ _ (List.getElem?_eq_getElem hk)
    have lfv := Paired.length e3
    generalize hs : ps[ps.length - 1 - i]'hk = s at e3 ck lfv
    have hki : ps.length - 1 - i + 1 = ps.length - i := by omega
    generalize ps.length - 1 - i = k at e1 e3 ck hk hki ⊢
    refine ⟨_, rfl, _, rfl, pl, _, _, .ref fj, rfl, rfl, SqL.of (sm _ _ epl), atI_nat e1, fj, rfl, ⟨_, SqL.of (sm _ _ e2)⟩, ?_⟩
    have gt : ∀ t, t < (pre 5 s).length → ∀ s', (pre 5 s)[t]? = some s' → (((pre 5 s).take (t + 1)).map (own E c)).sum = (((pre 5 s).take t).map (own E c)).sum + own E c s' := fun t ht s' e => by
      rw [List.take_succ, e, List.map_append, List.sum_append]
      simp
    have hstart : ∀ j, (if ps.length - i ≤ j then c j else 0) = if j = k then (((pre 5 s).take 0).map (own E c)).sum else if ps.length - i ≤ j then c j else 0 := fun j => by
      by_cases ej : j = k
      · rw [if_pos ej, if_neg (by omega)]
        rfl
      · rw [if_neg ej]
    refine for_list (K := K) (a := fj) (xs := fv) (fun t σ H' => ∃ v4 : Option V, σ = [some (.ref na), some (.ref pl), some (.ref ml), some (.int ((k : Nat) : Int)), v4] ∧ H' ml = some (.lst (mvOf ps.length fun j => if j = k then (((pre 5 s).take t).map (own E c)).sum else if ps.length - i ≤ j then c j else 0)) ∧ Same H H')
      ⟨v4, rfl, by rw [em]; exact congrArg (fun z => some (HO.lst z)) (mv_congr fun j _ => hstart j), sm⟩ (fun t σ H' _ ⟨_, _, _, s5⟩ => SqL.of (s5 _ _ e2)) ?_ ?_
    · rintro t y σ H2 hy ⟨v4', rfl, em2, s5⟩
      obtain ⟨s', es', d, hsx, hox⟩ := paired_get' e3 hy
      have htl := (List.getElem?_eq_some_iff.mp es').1
      have gt1 := gt t htl s' es'
      obtain ⟨a, nm, rest, rfl, ea⟩ := hsx.tag
      have ea2 := s5 _ _ ea
      dsimp only [gName]
      have fin : ∀ z : Int, (((pre 5 s).take (t + 1)).map (own E c)).sum = z → ∃ v4 : Option V, [some (V.ref na), some (V.ref pl), some (V.ref ml), some (V.int ((k : Nat) : Int)), some (V.ref a)] = [some (V.ref na), some (V.ref pl), some (V.ref ml), some (V.int ((k : Nat) : Int)), v4] ∧
          upd H2 ml (.lst ((mvOf ps.length fun j => if j = k then (((pre 5 s).take t).map (own E c)).sum else if ps.length - i ≤ j then c j else 0).set k (.int z))) ml = some (.lst (mvOf ps.length fun j => if j = k then (((pre 5 s).take (t + 1)).map (own E c)).sum else if ps.length - i ≤ j then c j else 0)) ∧
          Same H (upd H2 ml (.lst ((mvOf ps.length fun j => if j = k then (((pre 5 s).take t).map (own E c)).sum else if ps.length - i ≤ j then c j else 0).set k (.int z)))) := fun z hz => by
        refine ⟨_, rfl, ?_, Same.newer s5 hm0⟩
        rw [upd_same, mv_set]
        congr 2
        refine mv_congr fun j hj => ?_
        by_cases ej : j = k
        · rw [if_pos ej, if_pos ej, hz]
        · rw [if_neg ej, if_neg ej, if_neg ej]
      have gk : (mvOf ps.length fun j => if j = k then (((pre 5 s).take t).map (own E c)).sum else if ps.length - i ≤ j then c j else 0)[k]? = some (.int (((pre 5 s).take t).map (own E c)).sum) := by
        rw [mv_get hk, if_pos rfl]
      have ixk : ixN (mvOf ps.length fun j => if j = k then (((pre 5 s).take t).map (own E c)).sum else if ps.length - i ≤ j then c j else 0).length ((k : Nat) : Int) = some k := by rw [mv_len]; exact ix_nat hk
      refine ⟨_, rfl, a, _, 0, .str nm, rfl, rfl, SqT.of ea2, at0, rfl, _, rfl, ?_⟩
      rw [dec_str]
      rcases own_tag hsx ea with ⟨n, rfl, rfl, rfl⟩ | ⟨nu, ho⟩
      · have hn : k < n ∧ n < ps.length := hox
        rw [show (("use" : Str) == "use") = true by decide +kernel]
        have eo : own E c (.use n) = c n := by cases E <;> rfl
        rw [eo] at gt1
        have gn : (mvOf ps.length fun j => if j = k then (((pre 5 s).take t).map (own E c)).sum else if ps.length - i ≤ j then c j else 0)[n]? = some (.int (c n)) := by
          rw [mv_get hn.2, if_neg (by omega), if_pos (by omega)]
        exact iteT ⟨_, rfl, _, rfl, ml, _, _, _, rfl, rfl, SqL.of em2, by omega, gk, _, rfl, _, rfl, a, _, 1, .int ((n : Nat) : Int), rfl, rfl, SqT.of ea2, at1, ml, _, _, .int (c n), rfl, rfl, SqL.of em2, atI_nat gn, _, _, rfl, rfl, ml, _, _, k, rfl, rfl, em2, ixk, fin _ gt1⟩
      · rw [nu]
        rw [ho E c] at gt1
        refine iteF ⟨_, rfl, a, _, 0, .str nm, rfl, rfl, SqT.of ea2, at0, _, rfl, na, _, rfl, .inr (hna _), rfl, names_flat E, _, rfl, ?_⟩
        refine ite2 (fun z => ?_) (fun z => ?_)
        · have z : inV (.str nm) (namesV E) = true := z
          rw [if_pos z] at gt1
          exact ⟨_, rfl, _, rfl, ml, _, _, _, rfl, rfl, SqL.of em2, by omega, gk, _, _, rfl, rfl, ml, _, _, k, rfl, rfl, em2, ixk, fin _ gt1⟩
        · have z : ¬ inV (.str nm) (namesV E) = true := z
          rw [if_neg z, Int.add_zero] at gt1
          refine ⟨_, rfl, ?_, s5⟩
          rw [em2, gt1]
    · rintro σ H2 ⟨v4', rfl, em2, s5⟩
      rw [← lfv, List.take_length, ← ck] at em2
      refine ⟨_, _, rfl, ?_, s5⟩
      rw [em2]
      congr 2
      refine mv_congr fun j hj => ?_
      by_cases ej : j = k
      · rw [if_pos ej, if_pos (by omega), ej]
      · rw [if_neg ej]
        by_cases e2 : ps.length - i ≤ j
        · rw [if_pos e2, if_pos (by omega)]
        · rw [if_neg e2, if_neg (by omega)]
  · rintro σ H1 ⟨v3, v4, rfl, em, sm⟩
    rw [hN] at em
    refine ⟨_, rfl, ml, _, 0, .int (c 0), rfl, rfl, SqL.of em, ?_, q _ sm⟩
    refine atI_nat (j := 0) ?_
    rw [mv_get h0, if_pos (by omega)]
end
end MS
end
section
set_option maxRecDepth 100000
set_option maxHeartbeats 4000000
namespace MS
open PySem L2
/-! ### what can be a paper -/
theorem ev_or_new {t u : TT} {σ : St} {H : Hp} {b c : Bool} (h1 : ∀ Q : Bool → Hp → Prop, (∀ H', Same H H' → Q b H') → t σ H Q) (h2 : b = false → ∀ H', Same H H' → ∀ Q : Bool → Hp → Prop, (∀ H'', Same H' H'' → Q c H'') → u σ H' Q) :
    ∀ Q : Bool → Hp → Prop, (∀ H', Same H H' → Q (b || c) H') → tOr t u σ H Q := fun Q q => h1 _ fun H' s => by
  cases b with
  | true => exact iteT (q H' s)
  | false => exact iteF (h2 rfl H' s _ fun H'' s'' => q H'' (s.trans s''))
def spCheckPaper : Sp := fun vs H Q _ => ∃ (pa : Addr) (ps : List Sch) (pv : List V), vs = [.ref pa] ∧ H pa = some (.tup pv) ∧ Paired (SAt H 5) ps pv ∧ PaperOk ps ∧ ∀ H', Same H H' → Q .non H'
def spCheckPaper1 (ps : List Sch) : Sp := fun vs H Q _ => ∃ (pa : Addr) (pv : List V), vs = [.ref pa] ∧ H pa = some (.tup pv) ∧ Paired (SAt H 5) ps pv ∧ PaperOk ps ∧ ∀ H', Same H H' → Q .non H'
structure DPaper (K : PySem.W.Frag) (mg : Str → Option Value) where
  DN : Def K mg "is_number" s_is_number ["thing"]
  DF : Def K mg "fits" s_fits psFits
  DB : Def K mg "can_be" s_can_be ["thing", "number", "many"]
  DI : Def K mg "within" s_within ["scheme"]
  DP : Def K mg "placed" s_placed ["schemes", "place"]
  DS : Def K mg "schemes_in" s_schemes_in ["paper", "number"]
  DM : Def K mg "many_of" s_many_of ["names", "parts"]
  DC : Def K mg "check_paper" s_check_paper ["paper"]
section
variable {P : Program} {w : World} {K : PySem.W.Frag} {mg : Str → Option Value} {base : Heap}
theorem ok_check_paper1 {ps : List Sch} (T : PTx w K mg) (D : DPaper K mg) : FnOk P w K mg base CX0 5 D.DC.f D.DC.fd ["paper"] (spCheckPaper1 ps) := by
  by_cases hP : PaperOk ps
  case neg =>
    have e : spCheckPaper1 ps = fun _ _ _ _ => False := by
      funext vs H Q E
      refine propext ⟨fun h => ?_, fun h => h.elim⟩
      obtain ⟨_, _, _, _, _, z, _⟩ := h
      exact hP z
    rw [e]
    exact no_sp
  have hPl := hP.1
  have hP5 := hP.2.1
  obtain ⟨ce, cw, tl⟩ := hP.2.2
  have GS : FnOk P w K mg base CX0 4 D.DS.f D.DS.fd ["paper", "number"] (fun vs H Q E => ∃ i, spSchemesIn ps i vs H Q E) := fn_any fun i => ok_schemes_in T D.DS D.DB D.DF D.DN D.DI D.DP
  have GE : FnOk P w K mg base CX0 1 D.DM.f D.DM.fd ["names", "parts"] (spMany K true ps ce) := ok_many_of T D.DM
  have GW : FnOk P w K mg base CX0 1 D.DM.f D.DM.fd ["names", "parts"] (spMany K false ps cw) := ok_many_of T D.DM
  obtain ⟨tP, gP⟩ := T.mostInPaper
  obtain ⟨tE, gE⟩ := T.mostE
  obtain ⟨tW, gW⟩ := T.mostW
  obtain ⟨aE, hE, qE⟩ := T.earners
  obtain ⟨aW, hW, qW⟩ := T.watchers
  have nd := sc_check_paper.nd
  refine D.DC.ok sc_check_paper (fun vs H Q E h => ?_) (fun cdv A outer s H vs Q E hr h => ?_)
  · obtain ⟨pa, pv, rfl, _⟩ := h
    rfl
  obtain ⟨pa, pv0, rfl, epv, pp, _, q⟩ := h
  have hr1 : Room 1 _ := hr.mono (by decide)
  refine ⟨_, pss_cons (ps_if (PW.pt (pw_or (pt_not (pt_val (pe_callB call_isi rfl (T.free "isinstance" (by decide +kernel)) (by decide +kernel) (pa_cons (pv 0) (pa_cons (pe_bltn rfl (T.free "tuple" (by decide +kernel)) (by decide +kernel) (v := .ty "tuple") rfl) pa_nil)))))
      (pw_or1 (pt_not (pt_truth (pv 0) (by intro _; rfl)))))) (pss_one ps_never) pss_nil)
    (pss_cons (ps_set (i := 1) nd rfl (Or.inl rfl) (pe_lst pa_nil))
    (pss_cons (ps_for PassesOwn.never rfl (pi_range1 rfl (T.free "range" (by decide +kernel)) (pa_cons (pe_callB call_len_seq rfl (T.free "len" (by decide +kernel)) PySem.boot_len (pa_cons (pv 0) pa_nil)) pa_nil)) (pg_name (i := 2) nd rfl (Or.inl rfl))
      (pss_cons (ps_if (pt_cmpR op_eq (pv 2) (pe_glob rfl gP (v := .int 5) ⟨_, rfl⟩) (nomark _)) (pss_one ps_never) pss_nil)
      (pss_one (ps_expr (pe_bm PySem.F.plainAttrs_list PySem.F.slot_list_append PySem.F.type_list_append mt_append (pv 1) (pa_cons (pcall D.DS GS hr (pa_cons (pv 0) (pa_cons (pv 2) pa_nil))) pa_nil))))))
    (pss_one (ps_if (PW.pt (pw_or (pt_cmpR op_gt (pcall D.DM GE hr1 (pa_cons (pe_glob rfl hE (v := .ref aE) rfl) (pa_cons (pv 1) pa_nil))) (pe_glob rfl gE (v := .int 7) ⟨_, rfl⟩) (nomark _))
      (pw_or1 (pt_cmpR op_gt (pcall D.DM GW hr1 (pa_cons (pe_glob rfl hW (v := .ref aW) rfl) (pa_cons (pv 1) pa_nil))) (pe_glob rfl gW (v := .int 3) ⟨_, rfl⟩) (nomark _))))) (pss_one ps_never) pss_nil)))), ?_⟩
  have hM := Paired.length pp
  refine seq_if (b := false || false) (ev_or (b := false) (c := false) (fun Q q => ⟨_, rfl, _, .ty "tuple", .type "tuple", .type "tuple", true, rfl, .ty _, .base (.tup epv), kit_ty (by decide +kernel), _, rfl, q⟩)
    (fun Q q => ⟨_, rfl, true, .inr (.inl ⟨_, SqT.of epv, by cases pp with
      | nil => exact absurd hPl (by simp)
      | cons _ _ => rfl⟩), q⟩)) (fun z => nomatch z) (fun _ => ?_)
  refine ⟨Nat.zero_le _, fun p hp => ?_⟩
  have s1 : Same H (upd H p (.lst [])) := Same.new hp
  dsimp only [gName]
  refine ⟨_, rfl, pa, _, rfl, .inr (SqT.of (s1 _ _ epv)), _, rfl, by omega, by omega, ?_⟩
  have hn : (((pv0.length : Nat) : Int)).toNat = ps.length := by omega
  refine for_range (lo := 0) (n := (((pv0.length : Nat) : Int)).toNat) (fun i σ H' => ∃ (plv : List V) (v : Option V), σ = [some (.ref pa), some (.ref p), v] ∧ H' p = some (.lst plv) ∧ plv.length = i ∧
      (∀ j s, j < i → ps[j]? = some s → ∃ fj fv, plv[j]? = some (V.ref fj) ∧ fj ≠ p ∧ H' fj = some (.lst fv) ∧ Paired (FoundR H' j ps.length) (pre 5 s) fv) ∧ Same H H')
    ⟨[], none, rfl, upd_same, rfl, (fun _ _ h => by omega), s1⟩ ?_ ?_
  · rintro i σ H1 hi ⟨plv, v, rfl, ep, hl, hparts, sm⟩
    rw [hn] at hi
    have ez : (0 : Int) + ((i : Nat) : Int) = ((i : Nat) : Int) := by omega
    dsimp only [gName]
    rw [ez]
    refine seq_if (b := false) (fun Q q => ⟨_, rfl, rfl, _, rfl, by rw [decide_eq_false (fun z => by have := V.int.inj z; omega)]; exact q⟩) (fun z => nomatch z) (fun _ => ?_)
    obtain ⟨t1, t2, t3, t4, _⟩ := tl i _ (List.getElem?_eq_getElem hi)
    rw [Nat.zero_add] at t1
    refine ⟨_, rfl, .inl ⟨rfl, _, SqL.of ep⟩, _, rfl, _, rfl, i, pa, pv0, _, rfl, sm _ _ epv, paired_imp pp fun _ _ => SAt.keep (Same.tupK sm) _ _ _, List.getElem?_eq_getElem hi, t1, t4, fun f fv H2 s2 hf ef pf => ?_⟩
    have ep2 := s2 _ _ ep
    have nfp : f ≠ p := fun z => by rw [z, ep] at hf; cases hf
    have tk : TupK H2 (upd H2 p (.lst (plv ++ [.ref f]))) := TupK.put ep2
    refine ⟨p, _, _, rfl, rfl, ep2, small1000 (by omega), ?_⟩
    refine ⟨plv ++ [.ref f], _, rfl, upd_same, by rw [List.length_append, hl]; rfl, fun j s hj es => ?_, Same.newer (sm.trans s2) hp⟩
    by_cases e : j < i
    · obtain ⟨fj, fv', e1, e2, e3, e4⟩ := hparts j s e es
      exact ⟨fj, fv', by rw [List.getElem?_append_left (by omega)]; exact e1, e2, by rw [upd_ne e2]; exact s2 _ _ e3, paired_imp e4 fun _ _ h => FoundR.keep h ((Same.tupK s2).trans tk)⟩
    · have e : j = i := by omega
      subst e
      obtain rfl : ps[j] = s := Option.some.inj ((List.getElem?_eq_getElem hi).symm.trans es)
      refine ⟨f, fv, ?_, nfp, by rw [upd_ne nfp]; exact ef, paired_imp pf fun _ _ h => FoundR.keep h tk⟩
      rw [List.getElem?_append_right (by omega), hl, Nat.sub_self]
      rfl
  · rintro σ H1 ⟨plv, v, rfl, ep, hl, hparts, sm⟩
    rw [hn] at hl hparts
    have hPA : PartsAt H1 ps plv := fun j s es => by
      obtain ⟨fj, fv, e1, _, e3, e4⟩ := hparts j s (List.getElem?_eq_some_iff.mp es).1 es
      exact ⟨fj, fv, e1, e3, e4⟩
    obtain ⟨t1, t2, t3, t4, t5, t6⟩ := tl 0 _ (List.getElem?_eq_getElem hPl)
    rw [Nat.zero_add] at t2 t3
    dsimp only
    refine one_new (u := tNext) (b := false || false) (ev_or_new (b := false) (c := false) (fun Q q => ?_) (fun _ H2 s2 Q q => ?_)) (fun z => nomatch z) (fun _ H2 s2 => ?_)
    · refine ⟨_, rfl, aE, p, plv, rfl, qE, ep, hl, hPl, hP5, hPA, fun j s es => ?_, fun H2 s2 => ?_⟩
      · obtain ⟨u1, u2, _⟩ := tl j s es
        rw [Nat.zero_add] at u1 u2
        rw [u2]
        exact (pre_er ce 5 s u1).symm
      · refine ⟨_, _, rfl, rfl, _, rfl, ?_⟩
        rw [decide_eq_false (show ¬ (7 : Int) < ce 0 by omega)]
        exact q H2 s2
    · refine ⟨_, rfl, aW, p, plv, rfl, qW, s2 _ _ ep, hl, hPl, hP5, hPA.keep s2, fun j s es => ?_, fun H3 s3 => ?_⟩
      · obtain ⟨u1, _, u3, _⟩ := tl j s es
        rw [Nat.zero_add] at u1 u3
        rw [u3]
        exact (pre_wr cw 5 s u1).symm
      · refine ⟨_, _, rfl, rfl, _, rfl, ?_⟩
        rw [decide_eq_false (show ¬ (3 : Int) < cw 0 by omega)]
        exact q H3 s3
    · exact q H2 (sm.trans s2)
theorem ok_check_paper (T : PTx w K mg) (D : DPaper K mg) : FnOk P w K mg base CX0 5 D.DC.f D.DC.fd ["paper"] spCheckPaper := by
  have G : FnOk P w K mg base CX0 5 D.DC.f D.DC.fd ["paper"] (fun vs H Q E => ∃ ps, spCheckPaper1 ps vs H Q E) := fn_any fun ps => ok_check_paper1 T D
  have e : spCheckPaper = fun vs H Q E => ∃ ps, spCheckPaper1 ps vs H Q E := by
    funext vs H Q E
    refine propext ⟨fun h => ?_, fun h => ?_⟩
    · obtain ⟨pa, ps, pv, h⟩ := h
      exact ⟨ps, pa, pv, h⟩
    · obtain ⟨ps, pa, pv, h⟩ := h
      exact ⟨pa, ps, pv, h⟩
  rw [e]
  exact G
end
end MS
end
section
set_option maxRecDepth 100000
set_option maxHeartbeats 4000000
namespace MS
open PySem L2
/-- two values are of the same kinds, and the same -/
def Alk (H : Hp) : Nat → V → V → Prop
  | 0, x, y => (∃ i : Int, x = .int i ∧ y = .int i) ∨ ∃ z : Str, x = .str z ∧ y = .str z
  | n + 1, x, y => Alk H n x y ∨ ∃ (a b : Addr) (xs ys : List V), x = .ref a ∧ y = .ref b ∧ ((H a = some (.lst xs) ∧ H b = some (.lst ys)) ∨ (H a = some (.tup xs) ∧ H b = some (.tup ys))) ∧ xs.length ≤ 1000 ∧ Paired (Alk H n) xs ys
theorem Alk.keep {H H' : Hp} (k : Same H H') : ∀ (n : Nat) (x y : V), Alk H n x y → Alk H' n x y
  | 0, _, _, h => h
  | n + 1, x, y, .inl h => .inl (Alk.keep k n x y h)
  | n + 1, x, y, .inr ⟨a, b, xs, ys, e1, e2, h, l, p⟩ => .inr ⟨a, b, xs, ys, e1, e2, by
      rcases h with ⟨h1, h2⟩ | ⟨h1, h2⟩
      · exact .inl ⟨k _ _ h1, k _ _ h2⟩
      · exact .inr ⟨k _ _ h1, k _ _ h2⟩, l, paired_imp p fun x y => Alk.keep k n x y⟩
def spAlike (n : Nat) : Sp := fun vs H Q _ => ∃ x y, vs = [x, y] ∧ Alk H n x y ∧ ∀ H', Same H H' → Q (.bl true) H'
theorem Alk.up {H : Hp} {n : Nat} {x y : V} (h : Alk H n x y) : Alk H (n + 1) x y := .inl h
theorem Alk.kind {H : Hp} : ∀ {n : Nat} {x y : V}, Alk H n x y → (∃ i : Int, x = .int i ∧ y = .int i) ∨ (∃ z : Str, x = .str z ∧ y = .str z) ∨ ∃ (m : Nat) (a b : Addr) (xs ys : List V), n = m + 1 ∧ x = .ref a ∧ y = .ref b ∧ ((H a = some (.lst xs) ∧ H b = some (.lst ys)) ∨ (H a = some (.tup xs) ∧ H b = some (.tup ys))) ∧ xs.length ≤ 1000 ∧ Paired (Alk H m) xs ys
  | 0, _, _, .inl h => .inl h
  | 0, _, _, .inr h => .inr (.inl h)
  | n + 1, x, y, .inl h => by
    rcases Alk.kind h with h1 | h1 | ⟨m, a, b, xs, ys, e, e1, e2, h1, l, p⟩
    · exact .inl h1
    · exact .inr (.inl h1)
    · subst e
      exact .inr (.inr ⟨m + 1, a, b, xs, ys, rfl, e1, e2, h1, l, paired_imp p fun _ _ z => z.up⟩)
  | n + 1, x, y, .inr ⟨a, b, xs, ys, e1, e2, h, l, p⟩ => .inr (.inr ⟨n, a, b, xs, ys, rfl, e1, e2, h, l, p⟩)
theorem one_to {tc : TT} {t u : TS} {D : Ends} {σ : St} {H : Hp} {b : Bool} (h : ∀ Q : Bool → Hp → Prop, (∀ H', Same H H' → Q b H') → tc σ H Q) (k1 : b = true → ∀ H', Same H H' → t D σ H') (k2 : b = false → ∀ H', Same H H' → u D σ H') : tIfS tc t u D σ H := h _ fun H' s => by
  cases b with
  | true => exact iteT (k1 rfl H' s)
  | false => exact iteF (k2 rfl H' s)
section
variable {P : Program} {w : World} {K : PySem.W.Frag} {mg : Str → Option Value} {base : Heap}
abbrev psAlike : List Str := ["_law_found", "_law_due"]
theorem alike_turn {n : Nat} {sp' : Sp} (D : Def K mg "_law_alike" s_L_alike psAlike) (mis : mg "isinstance" = none) (mb : mg "bool" = none) (mi : mg "int" = none) (ms : mg "str" = none) (mt : mg "tuple" = none) (mli : mg "list" = none) (ml : mg "len" = none) (mr : mg "range" = none)
    (G : FnOk P w K mg base CX0 n D.f D.fd psAlike sp') (hs : ∀ n', n = n' + 1 → sp' = spAlike n') : FnOk P w K mg base CX0 (n + 1) D.f D.fd psAlike (spAlike n) := by
  have nd := sc_L_alike.nd
  refine D.ok sc_L_alike (fun vs H Q E h => ?_) (fun cdv A outer s H vs Q E hr h => ?_)
  · obtain ⟨x, y, rfl, _⟩ := h
    rfl
  obtain ⟨x, y, rfl, hxy, q⟩ := h
  refine ⟨_, pss_cons (ps_if (pt_cmpR op_isN (pv 1) pe_non (nomark _)) (pss_one (ps_ret (pe_cmpR op_isN (pv 0) pe_non (by rfl)))) pss_nil)
    (pss_cons (ps_if (pt_val (pe_callB call_isi rfl mis (by decide +kernel) (pa_cons (pv 1) (pa_cons (pe_bltn rfl mb (by decide +kernel) (v := .ty "bool") rfl) pa_nil)))) (pss_one (ps_ret (pe_and (pe_callB call_isi rfl mis (by decide +kernel) (pa_cons (pv 0) (pa_cons (pe_bltn rfl mb (by decide +kernel) (v := .ty "bool") rfl) pa_nil))) (pe_one (pe_cmpR op_eq (pv 0) (pv 1) (nomark _)))))) pss_nil)
    (pss_cons (ps_if (pt_val (pe_callB call_isi rfl mis (by decide +kernel) (pa_cons (pv 1) (pa_cons (pe_bltn rfl mi (by decide +kernel) (v := .ty "int") rfl) pa_nil)))) (pss_one (ps_ret (pe_and (pe_callB call_isi rfl mis (by decide +kernel) (pa_cons (pv 0) (pa_cons (pe_bltn rfl mi (by decide +kernel) (v := .ty "int") rfl) pa_nil)))
        (pe_and (pe_not (pe_callB call_isi rfl mis (by decide +kernel) (pa_cons (pv 0) (pa_cons (pe_bltn rfl mb (by decide +kernel) (v := .ty "bool") rfl) pa_nil)))) (pe_one (pe_cmpR op_eq (pv 0) (pv 1) (nomark _))))))) pss_nil)
    (pss_cons (ps_if (pt_val (pe_callB call_isi rfl mis (by decide +kernel) (pa_cons (pv 1) (pa_cons (pe_bltn rfl ms (by decide +kernel) (v := .ty "str") rfl) pa_nil)))) (pss_one (ps_ret (pe_and (pe_callB call_isi rfl mis (by decide +kernel) (pa_cons (pv 0) (pa_cons (pe_bltn rfl ms (by decide +kernel) (v := .ty "str") rfl) pa_nil))) (pe_one (pe_cmpR op_eq (pv 0) (pv 1) (nomark _)))))) pss_nil)
    (pss_cons (ps_if (PW.pt (pw_or (pt_cmpR op_ne (pe_callB call_isi rfl mis (by decide +kernel) (pa_cons (pv 1) (pa_cons (pe_bltn rfl mt (by decide +kernel) (v := .ty "tuple") rfl) pa_nil))) (pe_callB call_isi rfl mis (by decide +kernel) (pa_cons (pv 0) (pa_cons (pe_bltn rfl mt (by decide +kernel) (v := .ty "tuple") rfl) pa_nil))) (nomark _))
        (pw_or1 (pt_cmpR op_ne (pe_callB call_isi rfl mis (by decide +kernel) (pa_cons (pv 1) (pa_cons (pe_bltn rfl mli (by decide +kernel) (v := .ty "list") rfl) pa_nil))) (pe_callB call_isi rfl mis (by decide +kernel) (pa_cons (pv 0) (pa_cons (pe_bltn rfl mli (by decide +kernel) (v := .ty "list") rfl) pa_nil))) (nomark _))))) (pss_one (ps_ret pe_bl)) pss_nil)
    (pss_cons (ps_if (pt_cmpR op_ne (pe_callB call_len_seq rfl ml PySem.boot_len (pa_cons (pv 0) pa_nil)) (pe_callB call_len_seq rfl ml PySem.boot_len (pa_cons (pv 1) pa_nil)) (nomark _)) (pss_one (ps_ret pe_bl)) pss_nil)
    (pss_cons (ps_for PassesOwn.never rfl (pi_range1 rfl mr (pa_cons (pe_callB call_len_seq rfl ml PySem.boot_len (pa_cons (pv 1) pa_nil)) pa_nil)) (pg_name (i := 2) nd rfl (Or.inl rfl))
      (pss_one (ps_if (pt_not (pt_val (pcall D G hr (pa_cons (pe_ix ix_seq (pv 0) (pv 2) (fun _ _ => rfl)) (pa_cons (pe_ix ix_seq (pv 1) (pv 2) (fun _ _ => rfl)) pa_nil))))) (pss_one (ps_ret pe_bl)) pss_nil)))
    (pss_one (ps_ret pe_bl)))))))), ?_⟩
  have qq : ∀ b : Bool, b = true → Q (.bl b) H := fun b e => by
    subst e
    exact q H (Same.refl _)
  rcases hxy.kind with ⟨i, rfl, rfl⟩ | ⟨z, rfl, rfl⟩ | ⟨m, a, b, xs, ys, rfl, rfl, rfl, hab, hl, hp⟩
  · refine seq_if (b := false) (fun Q q => ⟨_, rfl, rfl, _, rfl, by rw [decide_eq_false (fun z => nomatch z)]; exact q⟩) (fun z => nomatch z) (fun _ => ?_)
    refine seq_if (b := false) (fun Q q => ⟨_, rfl, _, .ty "bool", .type "int", .type "bool", false, rfl, .ty _, .base (.int i), kit_ty (by decide +kernel), _, rfl, q⟩) (fun z => nomatch z) (fun _ => ?_)
    refine seq_if (b := true) (fun Q q => ⟨_, rfl, _, .ty "int", .type "int", .type "int", true, rfl, .ty _, .base (.int i), kit_ty (by decide +kernel), _, rfl, q⟩) (fun _ => ?_) (fun z => nomatch z)
    exact ⟨_, rfl, _, .ty "int", .type "int", .type "int", true, rfl, .ty _, .base (.int i), kit_ty (by decide +kernel), _, rfl, _, rfl, _, .ty "bool", .type "int", .type "bool", false, rfl, .ty _, .base (.int i), kit_ty (by decide +kernel), _, rfl, _, rfl, _, rfl, _, rfl, rfl, qq _ (decide_eq_true rfl)⟩
  · refine seq_if (b := false) (fun Q q => ⟨_, rfl, rfl, _, rfl, by rw [decide_eq_false (fun z => nomatch z)]; exact q⟩) (fun z => nomatch z) (fun _ => ?_)
    refine seq_if (b := false) (fun Q q => ⟨_, rfl, _, .ty "bool", .type "str", .type "bool", false, rfl, .ty _, .base (.str z), kit_ty (by decide +kernel), _, rfl, q⟩) (fun z => nomatch z) (fun _ => ?_)
    refine seq_if (b := false) (fun Q q => ⟨_, rfl, _, .ty "int", .type "str", .type "int", false, rfl, .ty _, .base (.str z), kit_ty (by decide +kernel), _, rfl, q⟩) (fun z => nomatch z) (fun _ => ?_)
    refine seq_if (b := true) (fun Q q => ⟨_, rfl, _, .ty "str", .type "str", .type "str", true, rfl, .ty _, .base (.str z), kit_ty (by decide +kernel), _, rfl, q⟩) (fun _ => ?_) (fun z => nomatch z)
    exact ⟨_, rfl, _, .ty "str", .type "str", .type "str", true, rfl, .ty _, .base (.str z), kit_ty (by decide +kernel), _, rfl, _, rfl, _, rfl, rfl, qq _ (decide_eq_true rfl)⟩
  · obtain rfl := hs m rfl
    have lxy := Paired.length hp
    obtain ⟨isT, tn, tya, tyb, cT, cL, sa, sb, nb, ni, nsx⟩ : ∃ (isT : Bool) (tn : String), TyX K H (.ref a) (.type tn) ∧ TyX K H (.ref b) (.type tn) ∧ PySem.W.kitOne K (.type tn) (.type "tuple") = some isT ∧ PySem.W.kitOne K (.type tn) (.type "list") = some (!isT) ∧
        (SqL K H a xs ∨ SqT K H a xs) ∧ (SqL K H b ys ∨ SqT K H b ys) ∧ PySem.W.kitOne K (.type tn) (.type "bool") = some false ∧ PySem.W.kitOne K (.type tn) (.type "int") = some false ∧ PySem.W.kitOne K (.type tn) (.type "str") = some false := by
      rcases hab with ⟨h1, h2⟩ | ⟨h1, h2⟩
      · exact ⟨false, "list", .base (.lst h1), .base (.lst h2), kit_ty (by decide +kernel), kit_ty (by decide +kernel), .inl (SqL.of h1), .inl (SqL.of h2), kit_ty (by decide +kernel), kit_ty (by decide +kernel), kit_ty (by decide +kernel)⟩
      · exact ⟨true, "tuple", .base (.tup h1), .base (.tup h2), kit_ty (by decide +kernel), kit_ty (by decide +kernel), .inr (SqT.of h1), .inr (SqT.of h2), kit_ty (by decide +kernel), kit_ty (by decide +kernel), kit_ty (by decide +kernel)⟩
    refine seq_if (b := false) (fun Q q => ⟨_, rfl, rfl, _, rfl, by rw [decide_eq_false (fun z => nomatch z)]; exact q⟩) (fun z => nomatch z) (fun _ => ?_)
    refine seq_if (b := false) (fun Q q => ⟨_, rfl, _, .ty "bool", _, .type "bool", false, rfl, .ty _, tyb, nb, _, rfl, q⟩) (fun z => nomatch z) (fun _ => ?_)
    refine seq_if (b := false) (fun Q q => ⟨_, rfl, _, .ty "int", _, .type "int", false, rfl, .ty _, tyb, ni, _, rfl, q⟩) (fun z => nomatch z) (fun _ => ?_)
    refine seq_if (b := false) (fun Q q => ⟨_, rfl, _, .ty "str", _, .type "str", false, rfl, .ty _, tyb, nsx, _, rfl, q⟩) (fun z => nomatch z) (fun _ => ?_)
    refine seq_if (b := false || false) (ev_or (b := false) (c := false) (fun Q q => ⟨_, rfl, _, .ty "tuple", _, .type "tuple", isT, rfl, .ty _, tyb, cT, _, rfl, _, .ty "tuple", _, .type "tuple", isT, rfl, .ty _, tya, cT, rfl, _, rfl, by rw [decide_eq_true rfl]; exact q⟩)
      (fun Q q => ⟨_, rfl, _, .ty "list", _, .type "list", !isT, rfl, .ty _, tyb, cL, _, rfl, _, .ty "list", _, .type "list", !isT, rfl, .ty _, tya, cL, rfl, _, rfl, by rw [decide_eq_true rfl]; exact q⟩)) (fun z => nomatch z) (fun _ => ?_)
    refine seq_if (b := false) (fun Q q => ⟨_, rfl, a, xs, rfl, sa, _, rfl, b, ys, rfl, sb, rfl, _, rfl, by rw [lxy, decide_eq_true rfl]; exact q⟩) (fun z => nomatch z) (fun _ => ?_)
    refine ⟨_, rfl, b, ys, rfl, sb, _, rfl, by omega, by omega, ?_⟩
    rw [Int.toNat_natCast]
    have ix : ∀ {c : Addr} {zs : List V} {H' : Hp} {j : Nat} {v : V} {Q : VK}, (SqL K H' c zs ∨ SqT K H' c zs) → zs[j]? = some v → Q v H' → rIx K (.ref c) (.int ((j : Nat) : Int)) H' Q := fun h e q => by
      rcases h with h | h
      · exact .inl ⟨_, _, _, _, rfl, rfl, h, atI_nat e, q⟩
      · exact .inr (.inl ⟨_, _, _, _, rfl, rfl, h, atI_nat e, q⟩)
    have seqK : ∀ {c : Addr} {zs : List V} {H' : Hp}, ((H c = some (.lst zs)) ∨ (H c = some (.tup zs))) → Same H H' → (SqL K H' c zs ∨ SqT K H' c zs) := fun h s => by
      rcases h with h | h
      · exact .inl (SqL.of (s _ _ h))
      · exact .inr (SqT.of (s _ _ h))
    have ha' : (H a = some (.lst xs)) ∨ (H a = some (.tup xs)) := hab.imp (·.1) (·.1)
    have hb' : (H b = some (.lst ys)) ∨ (H b = some (.tup ys)) := hab.imp (·.2) (·.2)
    refine for_range (lo := 0) (n := ys.length) (fun j σ H' => ∃ v2 : Option V, σ = [some (.ref a), some (.ref b), v2] ∧ Same H H') ⟨none, rfl, Same.refl _⟩ ?_ ?_
    · rintro j σ H' hj ⟨v2, rfl, s1⟩
      have hjx : j < xs.length := by omega
      have ex : xs[j]? = some (xs[j]'hjx) := List.getElem?_eq_getElem hjx
      obtain ⟨y', ey, hy⟩ : ∃ y', ys[j]? = some y' ∧ Alk H m (xs[j]'hjx) y' := by
        have eyj : ys[j]? = some (ys[j]'hj) := List.getElem?_eq_getElem hj
        obtain ⟨x', ex', hx'⟩ := paired_get' hp eyj
        rw [ex] at ex'
        cases ex'
        exact ⟨_, eyj, hx'⟩
      simp only [Int.zero_add]
      dsimp only [gName]
      refine one_to (b := false) (fun Q q => ⟨_, rfl, _, rfl, ix (seqK ha' s1) ex ⟨_, rfl, _, rfl, ix (seqK hb' s1) ey ⟨_, _, rfl, Alk.keep s1 _ _ _ hy, fun H6 s6 => ⟨_, rfl, q H6 s6⟩⟩⟩⟩) (fun z => nomatch z) (fun _ H6 s6 => ?_)
      exact ⟨_, rfl, s1.trans s6⟩
    · rintro σ H' ⟨v2, rfl, s1⟩
      exact q H' s1
theorem ok_alike (D : Def K mg "_law_alike" s_L_alike psAlike) (mis : mg "isinstance" = none) (mb : mg "bool" = none) (mi : mg "int" = none) (ms : mg "str" = none) (mt : mg "tuple" = none) (mli : mg "list" = none) (ml : mg "len" = none) (mr : mg "range" = none) :
    ∀ n : Nat, FnOk P w K mg base CX0 (n + 1) D.f D.fd psAlike (spAlike n)
  | 0 => alike_turn (sp' := fun _ _ _ _ => False) D mis mb mi ms mt mli ml mr ⟨fun vs H Q E h => h.elim, fun A outer s H args us vs Q E _ _ _ _ h => h.elim⟩ fun n' e => by omega
  | n + 1 => alike_turn (sp' := spAlike n) D mis mb mi ms mt mli ml mr (ok_alike D mis mb mi ms mt mli ml mr n) fun n' e => by
      have e' : n = n' := by omega
      rw [e']
end
end MS
end
section
set_option maxRecDepth 100000
set_option maxHeartbeats 4000000
/-! list(zip(a, b)), two lists -/
namespace XZip
open PySem PySem.Spec PyProof.Rows L2 PySem.W
theorem zip_no_len : typeLookup (.type "zip") "__len__" = pure none := by rw [typeLookup_type, builtinLookup_eq_fast]; kernel_rfl
theorem zip_no_hint : typeLookup (.type "zip") "__length_hint__" = pure none := by rw [typeLookup_type, builtinLookup_eq_fast]; kernel_rfl
/-- the zip behind i turns, its pairs held -/
structure ZSt (h : Heap) (z TI TO i1 i2 l1 l2 S : Addr) (xs ys : Array Value) (i : Nat) : Prop where
  ti : IsPair h TI (.ref i1) (.ref i2)
  a1 : h.IsListIter i1 l1 i
  a2 : h.IsListIter i2 l2 i
  b1 : h.IsList l1 xs
  b2 : h.IsList l2 ys
  zz : (IsZip h z TI TO .none ∧ ∃ a b, IsPair h TO a b) ∨ ∃ T f oT, IsZipHeld h z TI TO T f ∧ h.get? T = some oT ∧ T ≠ z ∧ T ≠ i1 ∧ T ≠ i2 ∧ T ≠ S
theorem ZSt.keep {h h' : Heap} {z TI TO i1 i2 l1 l2 S : Addr} {xs ys : Array Value} {i : Nat} (x : ZSt h z TI TO i1 i2 l1 l2 S xs ys i) (n : S ∉ [z, TI, TO, i1, i2, l1, l2]) (hk : ∀ b o, b ≠ S → h.get? b = some o → h'.get? b = some o) : ZSt h' z TI TO i1 i2 l1 l2 S xs ys i := by
  simp only [List.mem_cons, List.not_mem_nil, or_false, not_or] at n
  obtain ⟨dz, dTI, dTO, d1, d2, e1, e2⟩ := n
  refine ⟨hk _ _ (Ne.symm dTI) x.ti, x.a1.at fun o e => hk _ o (Ne.symm d1) e, x.a2.at fun o e => hk _ o (Ne.symm d2) e, x.b1.at fun o e => hk _ o (Ne.symm e1) e, x.b2.at fun o e => hk _ o (Ne.symm e2) e, ?_⟩
  rcases x.zz with ⟨hz, a, b, hTO⟩ | ⟨T, f, oT, hz, hT, r1, r2, r3, r4⟩
  · exact .inl ⟨hk _ _ (Ne.symm dz) hz, a, b, hk _ _ (Ne.symm dTO) hTO⟩
  · exact .inr ⟨T, f, oT, hk _ _ (Ne.symm dz) hz, hk _ _ r4 hT, r1, r2, r3, r4⟩
section
variable {prog : Program} {w : World} {A : Around} {E : Value → Shared → Prop} {s : Shared} {z TI TO i1 i2 l1 l2 S : Addr} {xs ys : Array Value}
theorem zst_item {i : Nat} {x y : Value} {Q : Option Value → Shared → Prop} (D : ZipApart z TI TO i1 i2 l1 l2) (st : ZSt s.heap z TI TO i1 i2 l1 l2 S xs ys i) (hS : S < s.heap.objs.size) (ex : xs[i]? = some x) (ey : ys[i]? = some y)
    (hQ : ∀ h', ZSt h' z TI TO i1 i2 l1 l2 S xs ys (i + 1) → IsPair h' s.heap.objs.size x y → (∀ b o, b ∉ [z, TO, i1, i2] → s.heap.get? b = some o → h'.get? b = some o) → Q (some (.ref s.heap.objs.size)) { s with heap := h' }) :
    wpAny (model prog w) A (pyNext (.ref z)) Q E s := by
  obtain ⟨hTI, h1, h2, hl1, hl2, hz⟩ := st
  have lt : ∀ {c o}, s.heap.get? c = some o → s.heap.objs.size ≠ c := fun e => Nat.ne_of_gt (Heap.lt_size e)
  have n1 : s.heap.objs.size ≠ i1 := let ⟨_, e, _⟩ := h1; lt e
  have n2 : s.heap.objs.size ≠ i2 := let ⟨_, e, _⟩ := h2; lt e
  rcases hz with ⟨hz, a, b, hTO⟩ | ⟨T, f, oT, hz, hT, r1, r2, r3, r4⟩
  · refine wpAny_pyNext_zip_item D hz hTI hTO h1 h2 hl1 hl2 ex ey fun h' a1 a2 a3 a4 a5 a6 hk => ?_
    exact hQ h' ⟨hk _ _ D.TIz D.TITO D.TIi1 D.TIi2 hTI, a3, a4, hl1.at fun o e => hk _ o D.l1z D.l1TO D.l1i1 D.l1i2 e, hl2.at fun o e => hk _ o D.l2z D.l2TO D.l2i1 D.l2i2 e, .inr ⟨s.heap.objs.size, false, _, a1, a5, lt hz, n1, n2, Nat.ne_of_gt hS⟩⟩ a5
      fun c o hc e => hk c o (fun x => hc (by simp [x])) (fun x => hc (by simp [x])) (fun x => hc (by simp [x])) (fun x => hc (by simp [x])) e
  · refine wpAny_pyNext_zip_item_held D hz hT hTI h1 h2 hl1 hl2 ex ey fun h' a1 a3 a4 a5 a6 hk => ?_
    exact hQ h' ⟨hk _ _ D.TIz D.TIi1 D.TIi2 hTI, a3, a4, hl1.at fun o e => hk _ o D.l1z D.l1i1 D.l1i2 e, hl2.at fun o e => hk _ o D.l2z D.l2i1 D.l2i2 e, .inr ⟨T, true, oT, a1, hk _ _ r1 r2 r3 hT, r1, r2, r3, r4⟩⟩ a5
      fun c o hc e => hk c o (fun x => hc (by simp [x])) (fun x => hc (by simp [x])) (fun x => hc (by simp [x])) e
theorem zst_done {i : Nat} {Q : Option Value → Shared → Prop} (hh : A.handled = none) (D : ZipApart z TI TO i1 i2 l1 l2) (st : ZSt s.heap z TI TO i1 i2 l1 l2 S xs ys i) (hend : xs[i]? = none ∨ ys[i]? = none)
    (hQ : ∀ h', (∀ b o, b ∉ [z, TO, i1, i2] → s.heap.get? b = some o → h'.get? b = some o) → Q none { s with heap := h' }) : wpAny (model prog w) A (pyNext (.ref z)) Q E s := by
  obtain ⟨hTI, h1, h2, hl1, hl2, hz⟩ := st
  rcases hz with ⟨hz, a, b, hTO⟩ | ⟨T, f, oT, hz, hT, r1, r2, r3, r4⟩
  · exact wpAny_pyNext_zip_end hh D hz hTI hTO h1 h2 hl1 hl2 hend fun h' hk => hQ h' fun c o hc e => hk c o (fun x => hc (by simp [x])) (fun x => hc (by simp [x])) (fun x => hc (by simp [x])) (fun x => hc (by simp [x])) e
  · exact wpAny_pyNext_zip_end_held hh D hz hT hTI h1 h2 hl1 hl2 hend fun h' hk => hQ h' fun c o hc e => hk c o (fun x => hc (by simp [x])) (fun x => hc (by simp [x])) (fun x => hc (by simp [x])) e
end
/-- the pairs' tuples -/
structure ZG (xs ys : Array Value) (lo : Addr) (h : Heap) (as : List Addr) : Prop where
  rise : as.Pairwise (· < ·)
  above : ∀ a ∈ as, lo < a
  pairs : ∀ (j : Nat) (a : Addr), as[j]? = some a → ∃ x y, xs[j]? = some x ∧ ys[j]? = some y ∧ IsPair h a x y
theorem ZG.there {xs ys : Array Value} {lo : Addr} {h : Heap} {as : List Addr} (g : ZG xs ys lo h as) {a : Addr} (ha : a ∈ as) : a < h.objs.size := by
  obtain ⟨j, hj⟩ := List.mem_iff_getElem?.mp ha
  obtain ⟨_, _, _, _, e⟩ := g.pairs j a hj
  exact Heap.lt_size e
section
variable {prog : Program} {w : World} {A : Around} {s : Shared} {R : Result → Shared → Prop} {z TI TO i1 i2 l1 l2 S : Addr} {xs ys : Array Value} {n : Nat}
theorem z_loop (hh : A.handled = none) (D : ZipApart z TI TO i1 i2 l1 l2) (nS : S ∉ [z, TI, TO, i1, i2, l1, l2]) (low : ∀ b ∈ [z, TO, i1, i2], b < S) (hx : xs.size = n) (hy : ys.size = n) (hn : n ≤ sizeLine) (res : Value) {h₁ : Heap}
    (hR : ∀ h' tk acc c as, (∀ b o, b ≠ S → b ∉ [z, TO, i1, i2] → h₁.get? b = some o → h'.get? b = some o) → h'.get? S = some { cls := .type "list", dict := none, data := .seq acc c, slots := #[] } → as.length = n → ZG xs ys S h' as →
      acc.toList = as.map Value.ref → R (.ok (.ret res)) { s with heap := h', toks := tk }) :
    ∀ (k i : Nat) (h : Heap) (tk c : Nat) (acc : Array Value) (as : List Addr), n - i = k → i ≤ n → ZSt h z TI TO i1 i2 l1 l2 S xs ys i → (∀ b o, b ≠ S → b ∉ [z, TO, i1, i2] → h₁.get? b = some o → h.get? b = some o) →
      h.get? S = some { cls := .type "list", dict := none, data := .seq acc c, slots := #[] } → acc.toList = as.map Value.ref → as.length = i → ZG xs ys S h as →
      codeAny (model prog w) A (.builtin "list.extend.loop" ⟨[.ref S, .ref z, res], []⟩) R { s with heap := h, toks := tk } := by
  have nSw : S ∉ [z, TO, i1, i2] := fun hm => Nat.lt_irrefl _ (low S hm)
  have nw : ∀ {a : Addr}, S < a → a ∉ [z, TO, i1, i2] := fun {a} h hm => Nat.lt_irrefl _ (Nat.lt_trans h (low a hm))
  intro k
  induction k with
  | zero =>
    intro i h tk c acc as hk hi hst hkeep hS hacc hal hG
    have hin : i = n := by omega
    refine codeAny_builtin PySem.F.entry_extend_loop ?_
    rw [Around.under_plainId PySem.F.plain_extend_loop _]
    show wpAny _ A.in1 (pyNext (.ref z) >>= _) _ _ _
    refine wpAny_bind (zst_done (s := { s with heap := h, toks := tk }) (A := A.in1) hh D hst (.inl (Array.getElem?_eq_none (by omega))) fun h' he => ?_)
    refine wpAny_pure (hR h' tk acc c as (fun b o h1 h2 e => he b o h2 (hkeep b o h1 h2 e)) (he S _ nSw hS) (by omega) ⟨hG.rise, hG.above, fun j a hj => ?_⟩ hacc)
    obtain ⟨x, y, e1, e2, e3⟩ := hG.pairs j a hj
    exact ⟨x, y, e1, e2, he a _ (nw (hG.above a (List.mem_of_getElem? hj))) e3⟩
  | succ k ih =>
    intro i h tk c acc as hk hi hst hkeep hS hacc hal hG
    have hlt : i < n := by omega
    have ex : xs[i]? = some (xs[i]'(by omega)) := Array.getElem?_eq_getElem (by omega)
    have ey : ys[i]? = some (ys[i]'(by omega)) := Array.getElem?_eq_getElem (by omega)
    have hsz : acc.size = i := by rw [← Array.length_toList, hacc, List.length_map, hal]
    refine codeAny_builtin PySem.F.entry_extend_loop ?_
    rw [Around.under_plainId PySem.F.plain_extend_loop _]
    show wpAny _ A.in1 (pyNext (.ref z) >>= _) _ _ _
    refine wpAny_bind (zst_item (s := { s with heap := h, toks := tk }) D hst (Heap.lt_size hS) ex ey fun h' hst' ht hkp => ?_)
    dsimp only at ht hkp ⊢
    have hS' := hkp S _ nSw hS
    have up : ∀ b o, b ≠ S → h'.get? b = some o → (h'.update S (Obj.mapSeq (·.push (Value.ref h.objs.size)))).get? b = some o := fun b o hb e => (Heap.get?_update_other _ _ (Ne.symm hb)).trans e
    have hSl : S < h.objs.size := Heap.lt_size hS
    show wpAny _ A.in1 (updateSeq S (·.push (Value.ref h.objs.size)) >>= _) _ _ _
    refine wpAny_bind ?_
    refine wpAny_updateSeq hS' rfl (wpAny_pure ⟨plainId_quiet PySem.F.plain_extend_loop _, ih (i + 1) _ tk _ (acc.push (Value.ref h.objs.size)) (as ++ [h.objs.size]) (by omega) hlt (hst'.keep nS up)
      (fun b o h1 h2 e => up b o h1 (hkp b o h2 (hkeep b o h1 h2 e))) (Heap.get?_update_self _ hS' rfl) (by rw [Array.toList_push, hacc, List.map_append]; rfl) (by rw [List.length_append, hal]; rfl) ⟨?_, ?_, ?_⟩⟩) (by rw [hsz]; omega) (by show (acc.push (Value.ref h.objs.size)).size ≤ sizeLine + 1; rw [Array.size_push, hsz]; omega)
    · refine List.pairwise_append.mpr ⟨hG.rise, List.pairwise_singleton _ _, fun a ha b hb => ?_⟩
      rw [List.mem_singleton.mp hb]
      exact hG.there ha
    · intro a ha
      rcases List.mem_append.mp ha with ha | ha
      · exact hG.above a ha
      · rw [List.mem_singleton.mp ha]; exact hSl
    · intro j b hj
      rcases Nat.lt_trichotomy j as.length with h1 | h1 | h1
      · rw [List.getElem?_append_left h1] at hj
        obtain ⟨x', y', e1, e2, e3⟩ := hG.pairs j b hj
        have hb := hG.above b (List.mem_of_getElem? hj)
        exact ⟨x', y', e1, e2, up b _ (Nat.ne_of_gt hb) (hkp b _ (nw hb) e3)⟩
      · subst h1
        have hb : h.objs.size = b := by simpa using hj
        subst hb
        exact ⟨_, _, by rw [hal]; exact ex, by rw [hal]; exact ey, up _ _ (Nat.ne_of_gt hSl) ht⟩
      · have hnone : (as ++ [h.objs.size])[j]? = none := List.getElem?_eq_none (by rw [List.length_append, List.length_singleton]; omega)
        rw [hnone] at hj; cases hj
theorem z_call {E : Value → Shared → Prop} {Q : Value → Shared → Prop} (hh : A.handled = none) (D : ZipApart z TI TO i1 i2 l1 l2) (hx : xs.size = n) (hy : ys.size = n) (hn : n ≤ sizeLine) (below : ∀ b ∈ [z, TI, TO, i1, i2, l1, l2], b < s.heap.objs.size)
    (hz : IsZip s.heap z TI TO .none) (hTI : IsPair s.heap TI (.ref i1) (.ref i2)) (hTO : ∃ a b, IsPair s.heap TO a b) (h1 : s.heap.IsListIter i1 l1 0) (h2 : s.heap.IsListIter i2 l2 0) (hl1 : s.heap.IsList l1 xs) (hl2 : s.heap.IsList l2 ys)
    (hQ : ∀ h' tk acc c as, (∀ b o, b ∉ [z, TO, i1, i2] → s.heap.get? b = some o → h'.get? b = some o) → h'.get? s.heap.objs.size = some { cls := .type "list", dict := none, data := .seq acc c, slots := #[] } → as.length = n → ZG xs ys s.heap.objs.size h' as →
      acc.toList = as.map Value.ref → Q (.ref s.heap.objs.size) { s with heap := h', toks := tk }) :
    wpAny (model prog w) A (call (.type "list") [.ref z]) Q E s := by
  refine callType_codes (Q₁ := fun obj s₁ => obj = .ref s.heap.objs.size ∧ s₁ = { s with heap := s.heap.push { cls := .type "list", data := .seq #[] } }) PySem.F.called_list (PySem.F.typeCall_list_1 _) PySem.F.entry_list_init
    (code_list_new _ ⟨rfl, rfl⟩) fun obj s₁ h₁ => ?_
  obtain ⟨rfl, rfl⟩ := h₁
  have hS : (s.heap.push { cls := .type "list", data := .seq #[] }).get? s.heap.objs.size = some { cls := .type "list", data := .seq #[] } := Heap.get?_push_size _ rfl
  refine ⟨⟨_, hS, rfl⟩, PySem.F.args_list_init_2 _ _, ?_⟩
  show wpAny _ _ (do let old ← Builtin.List.listItems (.ref s.heap.objs.size); Builtin.List.listUpdate (.ref s.heap.objs.size) (fun _ => #[]); letGo old.toList.reverse; Builtin.List.listExtendWith (.ref s.heap.objs.size) (.ref z) .none) _ _ _
  refine wpAny_bind ?_
  unfold Builtin.List.listItems
  refine wpAny_bind (wpAny_seqItems hS rfl (wpAny_pure ?_))
  show wpAny _ _ (updateSeq s.heap.objs.size (fun _ => #[]) >>= fun _ => letGo (#[] : Array Value).toList.reverse >>= fun _ => Builtin.List.listExtendWith (.ref s.heap.objs.size) (.ref z) .none) _ _ _
  refine wpAny_bind (wpAny_updateSeq hS rfl ?_)
  have hS₂ := Heap.get?_update_self (Obj.mapSeq (fun _ => (#[] : Array Value))) hS rfl
  refine wpAny_bind (wpAny_letGo ?_)
  have k0 : ∀ b o, s.heap.get? b = some o → ((s.heap.push { cls := .type "list", data := .seq #[] }).update s.heap.objs.size (Obj.mapSeq (fun _ => (#[] : Array Value)))).get? b = some o := fun b o e =>
    (Heap.get?_update_other _ _ (Nat.ne_of_gt (Heap.lt_size e))).trans (Heap.get?_push_of_some _ e)
  generalize (s.heap.push { cls := .type "list", data := .seq #[] }).update s.heap.objs.size (Obj.mapSeq (fun _ => (#[] : Array Value))) = hB at hS₂ k0
  have nz : s.heap.objs.size ≠ z := Nat.ne_of_gt (below z (by simp))
  have hT : (⟨hB, s.gens, s.drawn, s.toks, s.os⟩ : Shared).TypeIs (.ref z) "zip" := ⟨_, k0 _ _ hz, rfl⟩
  unfold Builtin.List.listExtendWith
  refine wpAny_bind (wpAny_typeOf (T := "zip") hT ?_)
  have g1 : Builtin.List.listSameRef (.ref s.heap.objs.size) (.ref z) = false := by simp [Builtin.List.listSameRef, nz]
  have g2 : (Value.type "zip" == Value.type "list") = false := by decide
  have g3 : (Value.type "zip" == Value.type "tuple") = false := by decide
  simp only [g1, g2, g3, Bool.or_false, Bool.false_eq_true, if_false]
  refine wpAny_bind (wpAny_pyIter_zip (k0 _ _ hz) ?_)
  refine wpAny_bind (wpAny_holding ?_)
  unfold Builtin.List.listLengthHint
  refine wpAny_bind (wpAny_specialOf hT zip_no_len ?_)
  show wpAny _ _ (specialOf (Value.ref z) (Str.ofString "__length_hint__") >>= _) _ _ _
  refine wpAny_bind (wpAny_specialOf hT zip_no_hint ?_)
  refine wpAny_pure ?_
  have nS : s.heap.objs.size ∉ [z, TI, TO, i1, i2, l1, l2] := fun hm => Nat.lt_irrefl _ (below _ hm)
  have st0 : ZSt s.heap z TI TO i1 i2 l1 l2 s.heap.objs.size xs ys 0 := ⟨hTI, h1, h2, hl1, hl2, .inl ⟨hz, hTO⟩⟩
  have low : ∀ b ∈ [z, TO, i1, i2], b < s.heap.objs.size := fun b hb => below b (by
    simp only [List.mem_cons, List.not_mem_nil, or_false] at hb ⊢
    rcases hb with h | h | h | h <;> simp [h])
  show wpAny _ _ (rule "list.extend.makes-room" >>= fun _ => Builtin.List.listTouch (.ref s.heap.objs.size) >>= fun _ =>
    again (.builtin "list.extend.loop" ⟨[.ref s.heap.objs.size, .ref z, .none], []⟩)) _ _ _
  refine wpAny_bind (wpAny_rule ?_)
  refine wpAny_bind ?_
  show wpAny _ _ (updateSeq s.heap.objs.size (·.push .none) >>= fun _ => updateSeq s.heap.objs.size (·.pop)) _ _ _
  refine wpAny_bind (wpAny_updateSeq hS₂ rfl ?_)
  have hS₃ := Heap.get?_update_self (Obj.mapSeq (·.push Value.none)) hS₂ rfl
  refine wpAny_updateSeq hS₃ rfl ?_
  have hS₄ := Heap.get?_update_self (Obj.mapSeq (·.pop)) hS₃ rfl
  refine wpAny_pure ⟨plainId_quiet PySem.F.plain_extend_loop _, z_loop (prog := prog) (w := w) (A := A.in1) (R := _) (s := s) (h₁ := s.heap) (show A.in1.handled = none from hh) D nS low hx hy hn .none (fun h' tk acc c as hk hS' hl hG hacc => ?_) n 0 _ s.toks _ #[] [] (Nat.sub_zero _) (Nat.zero_le _)
    (st0.keep nS fun b o hb e => (Heap.get?_update_other _ _ (Ne.symm hb)).trans ((Heap.get?_update_other _ _ (Ne.symm hb)).trans (k0 b o e))) (fun b o hb _ e => (Heap.get?_update_other _ _ (Ne.symm hb)).trans ((Heap.get?_update_other _ _ (Ne.symm hb)).trans (k0 b o e))) hS₄ rfl rfl
    ⟨List.Pairwise.nil, (fun _ ha => nomatch ha), (fun j a hj => by simp at hj)⟩⟩
  exact ⟨rfl, hQ h' tk acc c as (fun b o hb e => hk b o (Nat.ne_of_lt (Heap.lt_size e)) hb e) hS' hl hG hacc⟩
end
/-! ### the rule -/
def putZ : Hp → List Addr → List (V × V) → Hp
  | H, a :: as, p :: ps => putZ (upd H a (.tup [p.1, p.2])) as ps
  | H, _, _ => H
theorem putZ_off {b : Addr} : ∀ (as : List Addr) (ps : List (V × V)) (H : Hp), b ∉ as → putZ H as ps b = H b
  | [], _, _, _ => rfl
  | _ :: _, [], _, _ => rfl
  | a :: as, p :: ps, H, h => by
    show putZ (upd H a (.tup [p.1, p.2])) as ps b = H b
    rw [putZ_off as ps _ (fun z => h (List.mem_cons_of_mem _ z)), upd_ne (fun z => h (by rw [z]; exact List.mem_cons_self))]
theorem putZ_at : ∀ (as : List Addr) (ps : List (V × V)) (H : Hp), as.length = ps.length → as.Nodup → ∀ (j : Nat) (t : Addr) (p : V × V), as[j]? = some t → ps[j]? = some p → putZ H as ps t = some (.tup [p.1, p.2])
  | [], _, _, _, _, j, _, _, e, _ => by simp at e
  | _ :: _, [], _, h, _, _, _, _, _, _ => by cases h
  | a :: as, q :: ps, H, h, hn, j, t, p, e1, e2 => by
    have hn' := List.nodup_cons.mp hn
    show putZ (upd H a (.tup [q.1, q.2])) as ps t = some (.tup [p.1, p.2])
    cases j with
    | zero =>
      obtain rfl : a = t := by simpa using e1
      obtain rfl : q = p := by simpa using e2
      rw [putZ_off as ps _ hn'.1, upd_same]
    | succ j => exact putZ_at as ps _ (Nat.succ.inj h) hn'.2 j t p (by simpa using e1) (by simpa using e2)
theorem zip_get {xs ys : List V} {j : Nat} {p : V × V} (h : (xs.zip ys)[j]? = some p) : xs[j]? = some p.1 ∧ ys[j]? = some p.2 := by
  rw [List.getElem?_zip_eq_some] at h
  exact h
section
variable {X : Cx}
theorem zip_laid {pins : List (Addr × Obj)} {σ : L2.St} {H : Hp} {s : Shared} {h' : Heap} {tk : Nat} {xs ys : List V} {us vs : List Value} {acc : Array Value} {c : Nat} {as : List Addr} {S : Addr} (I : Inv X pins σ H s) (hz : xs.length ≤ sizeLine) (he : xs.length = ys.length) (rx : Vals xs us) (ry : Vals ys vs)
    (hk : ∀ b o, s.heap.get? b = some o → h'.get? b = some o) (hSl : s.heap.objs.size ≤ S) (hS : h'.get? S = some { cls := .type "list", dict := none, data := .seq acc c, slots := #[] }) (hl : as.length = xs.length) (hG : ZG us.toArray vs.toArray S h' as) (hacc : acc.toList = as.map Value.ref) :
    ∃ H' : Hp, (∀ b o, H b = some o → H' b = some o) ∧ H S = none ∧ H' S = some (.lst (as.map V.ref)) ∧ (∀ (j : Nat) (t : Addr) (x y : V), as[j]? = some t → xs[j]? = some x → ys[j]? = some y → H' t = some (.tup [x, y])) ∧ Inv X pins σ H' { s with heap := h', toks := tk } := by
  have hSn : S ∉ as := fun z => Nat.lt_irrefl _ (hG.above _ z)
  have nd : as.Nodup := List.Pairwise.imp (fun {a b} (h : a < b) => Nat.ne_of_lt h) hG.rise
  have new : ∀ t ∈ as, H t = none := fun t ht => I.hok.fresh (Nat.le_trans hSl (Nat.le_of_lt (hG.above t ht)))
  have newS : H S = none := I.hok.fresh hSl
  have lz : (xs.zip ys).length = xs.length := by rw [List.length_zip]; omega
  have atP := putZ_at as (xs.zip ys) (upd H S (.lst (as.map V.ref))) (by omega) nd
  have off : ∀ b, b ∉ as → b ≠ S → putZ (upd H S (.lst (as.map V.ref))) as (xs.zip ys) b = H b := fun b h1 h2 => by rw [putZ_off as _ _ h1, upd_ne h2]
  have low : ∀ b o, s.heap.get? b = some o → b ∉ as ∧ b ≠ S := fun b o e => ⟨fun z => absurd (Heap.lt_size e) (Nat.not_lt.mpr (Nat.le_trans hSl (Nat.le_of_lt (hG.above b z)))), Nat.ne_of_lt (Nat.lt_of_lt_of_le (Heap.lt_size e) hSl)⟩
  have kp : ∀ b u, H b = some u → (putZ (upd H S (.lst (as.map V.ref))) as (xs.zip ys)) b = some u := fun b u e => by
    rw [off b (fun z => by rw [new b z] at e; cases e) (fun z => by rw [z, newS] at e; cases e)]
    exact e
  have eS : putZ (upd H S (.lst (as.map V.ref))) as (xs.zip ys) S = some (.lst (as.map V.ref)) := by rw [putZ_off as _ _ hSn, upd_same]
  refine ⟨putZ (upd H S (.lst (as.map V.ref))) as (xs.zip ys), kp, newS, eS, fun j t x y e1 e2 e3 => atP j t (x, y) e1 (by rw [List.getElem?_zip_eq_some]; exact ⟨e2, e3⟩), ?_⟩
  refine I.call' (ch := []) rfl ⟨fun b o q _ _ _ => hk b o q, fun b o q _ _ _ => ⟨o.slots, hk b o q⟩, fun b o q n _ => ?_, fun b o q _ => ⟨o, hk b o q⟩, fun b xs q => kp b _ q, fun b o u q => kp b _ q, fun b ps q => ⟨#[], by rw [kp b _ q]; simp⟩⟩ (fun b u q => ?_) I.bare fun b z => by simp at z
  · obtain ⟨z1, z2⟩ := low b o q
    rw [off b z1 z2]
    exact n
  · by_cases hb : b ∈ as
    · obtain ⟨j, hj⟩ := List.mem_iff_getElem?.mp hb
      have hjl : j < xs.length := by
        have := (List.getElem?_eq_some_iff.mp hj).1
        omega
      have ex : xs[j]? = some (xs[j]'hjl) := List.getElem?_eq_getElem hjl
      have ey : ys[j]? = some (ys[j]'(by omega)) := List.getElem?_eq_getElem (by omega)
      have e3 := atP j b (xs[j]'hjl, ys[j]'(by omega)) hj (by rw [List.getElem?_zip_eq_some]; exact ⟨ex, ey⟩)
      rw [e3] at q
      cases q
      obtain ⟨x, y, f1, f2, f3⟩ := hG.pairs j b hj
      obtain ⟨u, g1, r1⟩ := rx.get ex
      obtain ⟨v, g2, r2⟩ := ry.get ey
      obtain rfl : u = x := Option.some.inj (g1.symm.trans (by simpa using f1))
      obtain rfl : v = y := Option.some.inj (g2.symm.trans (by simpa using f2))
      exact ⟨by show 2 ≤ sizeLine; decide, [u, v], .cons r1 (.cons r2 .nil), ⟨_, f3, rfl, _, rfl⟩⟩
    · by_cases hb2 : b = S
      · rw [hb2] at q ⊢
        rw [eS] at q
        cases q
        refine ⟨by rw [List.length_map]; omega, acc.toList, c, by rw [hacc]; exact LiI.vals_refs as, ?_⟩
        rw [Array.toArray_toList]
        exact hS
      · rw [off b hb hb2] at q
        exact (I.hok b u q).stay (fun d v _ y => hk d v y) (fun d y => kp d _ y) fun d xs y => kp d _ y
def rZipL (K : PySem.W.Frag) : List V → Hp → VK → Prop := fun vs H Q => ∃ (a b : Addr) (xs ys : List V), vs = [.ref a, .ref b] ∧ SqL K H a xs ∧ SqL K H b ys ∧ xs.length = ys.length ∧ xs.length ≤ 1000 ∧
  ∀ (H' : Hp) (p : Addr) (ts : List Addr), (∀ b o, H b = some o → H' b = some o) → H p = none → H' p = some (.lst (ts.map V.ref)) → ts.length = xs.length → (∀ (j : Nat) (t : Addr) (x y : V), ts[j]? = some t → xs[j]? = some x → ys[j]? = some y → H' t = some (.tup [x, y])) → Q (.ref p) H'
/-- list(zip(e, e2)) -/
theorem pe_listZip {e e2 : Expr} {ta : TA} {p p2 pos pos2 : Pos} (hc : X.calm = true) (ha : PA X [e, e2] ta) (hg : Gl X "list") (hm : X.mg "list" = none) (hg2 : Gl X "zip") (hm2 : X.mg "zip" = none)
    (hs0 : starEach [.Call (.Name "zip" p2) [e, e2] [] pos2] X.env = (false, eval (.Call (.Name "zip" p2) [e, e2] [] pos2) X.env) :: starEach [] X.env := by rfl)
    (hs : starEach [e, e2] X.env = (false, eval e X.env) :: starEach [e2] X.env := by rfl) (hpl : (backTo pos2 (starEach [e2] X.env)).any (·.1) = false := by rfl) :
    PE X (.Call (.Name "list" p) [.Call (.Name "zip" p2) [e, e2] [] pos2] [] pos) (fun σ H Q => ta σ H fun vs H1 => rZipL X.K vs H1 Q) := by
  refine ⟨fun pins s σ H Q I hq => ?_⟩
  refine wpAny_Call_Name_kw (ld_blt I hg hm (by decide +kernel : bootBuiltins "list" = some (.type "list")) ?_)
  refine PyProof.Rows.callWith_type1 ?_ hs0 rfl
  rw [hs0]
  show wpAny _ _ (spliced ((false, eval (.Call (.Name "zip" p2) [e, e2] [] pos2) X.env) :: backTo pos (starEach [] X.env))) _ _ s
  refine Calls.spliced_cons ?_
  refine Call_ (ld_blt I hg2 hm2 PyProof.Rows.boot_zip (PyProof.Rows.callWith_type1 (thn (ha.run pos2 pins s σ H _ I hq) fun us s1 ⟨vs, H1, I1, r1, q1⟩ => ?_) hs hpl))
  obtain ⟨a, b, xs, ys, ex, hqx, hqy, hlen, hz, q⟩ := q1
  subst ex
  cases r1 with
  | cons r rr =>
    cases rr with
    | cons r' rr =>
      cases rr
      cases r
      cases r'
      obtain ⟨its, rv, p1, _⟩ := I1.list hqx
      obtain ⟨its2, rv2, pp2, _⟩ := I1.list hqy
      refine call_zip_2 p1.isList pp2.isList fun h' hzz hTI hTO h1 h2 hsz hk => ?_
      refine Calls.spliced_nil ?_
      have lx := rv.length
      have ly := rv2.length
      have hl1 : h'.IsList a its.toArray := p1.isList.at fun o e => hk _ o e
      have hl2 : h'.IsList b its2.toArray := pp2.isList.at fun o e => hk _ o e
      refine z_call (n := xs.length) (xs := its.toArray) (ys := its2.toArray) (I1.ok.hd hc) (PySem.W.ktu_apart s1.heap.objs.size a b p1.lt pp2.lt) (by rw [List.size_toArray]; omega) (by rw [List.size_toArray]; omega) (by rw [sizeLine_eq]; omega) (fun c hcm => ?_) hzz hTI ⟨_, _, hTO⟩ h1 h2 hl1 hl2 fun h'' tk acc c as hkk hS hl hG hacc => ?_
      · show c < h'.objs.size
        rw [hsz]
        simp only [List.mem_cons, List.not_mem_nil, or_false] at hcm
        rcases hcm with z | z | z | z | z | z | z
        · rw [z]; exact Nat.add_lt_add_left (by decide) _
        · rw [z]; exact Nat.add_lt_add_left (by decide) _
        · rw [z]; exact Nat.add_lt_add_left (by decide) _
        · rw [z]; exact Nat.lt_add_of_pos_right (by decide)
        · rw [z]; exact Nat.add_lt_add_left (by decide) _
        · rw [z]; exact Nat.lt_of_lt_of_le p1.lt (Nat.le_add_right _ _)
        · rw [z]; exact Nat.lt_of_lt_of_le pp2.lt (Nat.le_add_right _ _)
      · have hk2 : ∀ b o, s1.heap.get? b = some o → h''.get? b = some o := fun b o e => hkk b o (fun hm => by
          have hlt := Heap.lt_size e
          simp only [List.mem_cons, List.not_mem_nil, or_false] at hm
          rcases hm with z | z | z | z
          · rw [z] at hlt; exact absurd hlt (Nat.not_lt.mpr (Nat.le_add_right _ _))
          · rw [z] at hlt; exact absurd hlt (Nat.not_lt.mpr (Nat.le_add_right _ _))
          · rw [z] at hlt; exact absurd hlt (Nat.lt_irrefl _)
          · rw [z] at hlt; exact absurd hlt (Nat.not_lt.mpr (Nat.le_add_right _ _))) (hk b o e)
        obtain ⟨H', k1, k2, k3, k4, J⟩ := zip_laid (tk := tk) I1 (by rw [sizeLine_eq]; omega) hlen rv rv2 hk2 (by show s1.heap.objs.size ≤ h'.objs.size; rw [hsz]; exact Nat.le_add_right _ _) hS hl hG hacc
        exact ⟨.ref _, H', J, rfl, q H' _ as k1 k2 k3 hl k4⟩
end
end XZip
end
section
set_option maxRecDepth 100000
set_option maxHeartbeats 4000000
/-! enumerate(list, start=e) -/
namespace XEnum
open PySem PySem.Spec PyProof.Rows L2
theorem callWith_tyKw {M : Model} {A : Around} {E : Value → Shared → Prop} {s : Shared} {env : Env} {pos : Pos} {T : String} {e : Expr} {rest : List Expr} {kws : List Keyword} {Q : Value → Shared → Prop}
    (h : wpAny M A (spliced (backTo pos (starEach (e :: rest) env))) (fun vs s₁ => wpAny M A (PySem.evalAll ((backToKw pos (keywordEach kws env)).map (·.2)))
      (fun kvs s₂ => wpAny M A (call (.type T) vs (((backToKw pos (keywordEach kws env)).filterMap (·.1)).zip kvs)) Q E s₂) E s₁) E s)
    (he : backTo pos (starEach (e :: rest) env) = (false, eval e env) :: backTo pos (starEach rest env))
    (hplain : (backTo pos (starEach (e :: rest) env)).any (·.1) = false)
    (hall : (backToKw pos (keywordEach kws env)).all (·.1.isSome) = true)
    (hkw : (backToKw pos (keywordEach kws env)).any (·.1.isNone) = false) :
    wpAny M A (callWith pos (.type T) [] (backTo pos (starEach (e :: rest) env)) (backToKw pos (keywordEach kws env))) Q E s := by
  have h2 : wpAny M A (evalArgs (.type T) true (backTo pos (starEach (e :: rest) env)) (backToKw pos (keywordEach kws env))) (fun a s₁ => wpAny M A (call (.type T) ([] ++ a.pos) a.kw) Q E s₁) E s := by
    rw [he] at h ⊢
    exact evalArgs_kwB hall h
  unfold callWith
  refine wpAny_bind (wpAny_holding (wpAny_mono h2 (fun a s₁ h₁ => wpAny_bind (wpAny_standAt ?_)) fun _ _ x => x))
  simp only [hplain, hkw, Bool.or_false]
  refine wpAny_bind (wpAny_pure ?_)
  exact wpAny_bind (wpAny_mono h₁ (fun r s₂ hr => wpAny_bind (wpAny_holding (wpAny_point (wpAny_pure hr)))) fun _ _ x => x)
/-- the list at a as it stands at each turn, each item in a new pair behind its number, from k on -/
def IteS (K : PySem.W.Frag) (a : Addr) (k : Int) : It :=
  ⟨fun i H => ∃ (xs : List V) (x : V), SqL K H a xs ∧ xs[i]? = some x, fun i H v H' => ∃ T x, v = .ref T ∧ H T = none ∧ H' = upd H T (.tup [.int (k + (i : Nat)), x]) ∧ ∀ xs, SqL K H a xs → xs[i]? = some x, fun i H => ∃ xs : List V, SqL K H a xs ∧ xs.length ≤ i⟩
theorem walk_enumS {K : PySem.W.Frag} {a : Addr} {k : Int} {xs : List V} : Walk (IteS K a k) xs.length (fun H => SqL K H a xs) (YPair (fun i => some (.int (k + (i : Nat)))) (fun i => xs[i]?)) := by
  refine ⟨fun i _ hi q => ⟨xs, xs[i], q, by simp [hi]⟩, fun _ q => ⟨xs, q, Nat.le_refl _⟩, fun i H v H' _ q y => ?_⟩
  obtain ⟨T, x, h1, h2, h3, h4⟩ := y
  exact ⟨T, .int (k + (i : Nat)), x, h1, h2, h3, rfl, h4 xs q⟩
theorem turn_enumS {P : Program} {w : World} {K : PySem.W.Frag} {elts : List Expr} {kk : Nat} {tpos : Pos} (a e it : Addr) (k : Int) :
    Turn P w K (.Tuple elts kk tpos) (IteS K a k) [e, it] e (fun i h => (∃ old, IsEnum h e it (k + ((i : Nat) : Int)) old) ∧ h.IsListIter it a i ∧ e ≠ it ∧ e ≠ a ∧ a ≠ it) where
  mem := by simp
  obj := fun i h st b hb => by
    obtain ⟨⟨old, he⟩, ⟨o, ho, hc, hd⟩, _⟩ := st
    have e' : b = e ∨ b = it := by simpa using hb
    rcases e' with z | z
    · rw [z]; exact ⟨_, he, fun v q => nomatch q⟩
    · rw [z]; exact ⟨o, ho, fun v q => by rw [hd] at q; cases q⟩
  keep := fun i h h' st k => let ⟨⟨old, he⟩, hi, hne⟩ := st; ⟨⟨old, k e (by simp) _ he⟩, hi.at fun o q => k it (by simp) o q, hne⟩
  item := by
    intro X hP hw hK hc i pins s σ H E I hf st hg
    subst hP hw hK
    obtain ⟨⟨old, he⟩, hit, hne, hea, hai⟩ := st
    obtain ⟨xs, x, hq, hx⟩ := hg
    obtain ⟨its, rv, p, hz⟩ := I.list hq
    obtain ⟨u, hu, ru⟩ := rv.get hx
    have hel : e < s.heap.objs.size := Heap.lt_size he
    have hil : it < s.heap.objs.size := by obtain ⟨_, q, _⟩ := hit; exact Heap.lt_size q
    have hlt : i < its.toArray.size := by
      have z := (List.getElem?_eq_some_iff.mp hu).1
      rw [List.size_toArray]
      exact z
    refine wpAny_pyNext_enum_itemC (Draws.list (A := X.A.in1) (I.ok.hd hc) it a hai its.toArray) he ⟨hit, p.isList⟩ hlt hne (by simp [hne, hea]) fun x' h' tk hx' ho hit' hT hsz hk => ?_
    have eu : x' = u := by
      have z : its.toArray[i]? = some u := by simpa using hu
      exact Option.some.inj (hx'.symm.trans z)
    subst eu
    refine ⟨_, rfl, wpAny_letOwnedTupleGo_enum (s := { s with heap := h', toks := tk + 1 }) ho fun h'' he' sb => ?_⟩
    have hT2 : h''.get? s.heap.objs.size = some { cls := .type "tuple", data := .seq #[.int (k + (i : Nat)) tk, x'] } := (sb.2 _ (Nat.ne_of_gt hel)).trans hT
    have new : ObjOk X.prog X.w (upd H s.heap.objs.size (.tup [.int (k + (i : Nat)), x])) h'' s.heap.objs.size (.tup [.int (k + (i : Nat)), x]) :=
      ⟨by show 2 ≤ sizeLine; decide, [.int (k + (i : Nat)) tk, x'], .cons ⟨_, rfl⟩ (.cons ru .nil), ⟨_, hT2, rfl, _, rfl⟩⟩
    have I1 : Inv X pins σ (upd H s.heap.objs.size (.tup [.int (k + (i : Nat)), x])) { s with heap := h'', toks := tk + 1 } :=
      I.turnedNew (ch := [e, it]) (fun b ob hb q => (sb.2 b (fun z => hb (by simp [z]))).trans (hk b ob (fun z => hb (by simp [z])) (fun z => hb (by simp [z])) q)) hf (Nat.le_refl _) new
    refine ⟨.ref s.heap.objs.size, _, I1, rfl, ⟨_, x, rfl, I.hok.fresh (Nat.le_refl _), rfl, fun ys hy => by rw [I.list_inj hy hq]; exact hx⟩, ⟨⟨x', ?_⟩, hit'.1.at fun o q => (sb.2 it (Ne.symm hne)).trans q, hne, hea, hai⟩, fun b hb => ?_⟩
    · have e1 : k + ((i + 1 : Nat) : Int) = k + (i : Int) + 1 := by omega
      rw [e1]; exact he'
    · have hb' : b < s.heap.objs.size := by
        have e' : b = e ∨ b = it := by simpa using hb
        rcases e' with z | z
        · rw [z]; exact hel
        · rw [z]; exact hil
      rw [upd_ne (Nat.ne_of_lt hb')]
      exact (hf b hb).1
  done := by
    intro X hP hw hK hc i pins s σ H E I hf st hg
    subst hP hw hK
    obtain ⟨⟨old, he⟩, hit, hne, hea, hai⟩ := st
    obtain ⟨xs, hq, hx⟩ := hg
    obtain ⟨its, rv, p, hz⟩ := I.list hq
    obtain ⟨f0, f1, f2, f3, f4, f5⟩ := hf it (by simp)
    have hl := rv.length
    have hT : s.TypeIs (.ref e) "enumerate" := ⟨_, he, rfl⟩
    unfold pyNext
    refine wpAny_bind (wpAny_attempt (wpAny_callSpecial?_slot (name := Str.ofString "__next__") hT F.slot_enumerate_next
      (wpAny_call_entry F.slot_enumerate_next hT F.entry_enumerate_next ?_ (F.args_enumerate_next_1 _))))
    show wpAny _ _ (field (.ref e) 2 >>= _) _ _ _
    refine wpAny_bind (wpAny_field he rfl (x := .ref it) rfl ?_)
    refine wpAny_bind (wpAny_nextOf_list_end (A := X.A.in1) (I.ok.hd hc) hit p.isList (by simp; omega) fun h' x he' hx' => ?_)
    obtain ⟨o, ho, hc'⟩ := hx'
    refine wpAny_bind (wpAny_isInstance (T := "StopIteration") (b := true) ⟨o, ho, hc'⟩ isSubtype_stop ?_)
    exact wpAny_pure ⟨rfl, I.turned (t' := s.toks) (fun b o hb q => he' b o hb q) f0 f1 f3 f4 f5⟩
  self := fun A i s Q E st h => let ⟨⟨_, he⟩, _⟩ := st; wpAny_pyIter_enum he h
def iEnumS (K : PySem.W.Frag) (ta : TA) (tk : TE) : TI := fun σ H R => ta σ H fun vs H1 => tk σ H1 fun y H2 => ∃ (a : Addr) (xs : List V) (k : Int), vs = [.ref a] ∧ y = .int k ∧ 0 ≤ k ∧ k ≤ 1000000 ∧ SqL K H2 a xs ∧ R (IteS K a k) H2
def one1 (K : PySem.W.Frag) (R : It → Hp → Prop) (vs : List V) : List V → Hp → Prop
  | [y], H2 => ∃ (a : Addr) (xs : List V) (k : Int), vs = [.ref a] ∧ y = .int k ∧ 0 ≤ k ∧ k ≤ 1000000 ∧ SqL K H2 a xs ∧ R (IteS K a k) H2
  | _, _ => False
theorem one1_at {K : PySem.W.Frag} {R : It → Hp → Prop} {vs ws : List V} {H2 : Hp} (h : one1 K R vs ws H2) : ∃ y, ws = [y] ∧ ∃ (a : Addr) (xs : List V) (k : Int), vs = [.ref a] ∧ y = .int k ∧ 0 ≤ k ∧ k ≤ 1000000 ∧ SqL K H2 a xs ∧ R (IteS K a k) H2 := by
  match ws, h with
  | [y], h => exact ⟨y, rfl, h⟩
theorem pi_enumS {X : Cx} {e e2 : Expr} {ta : TA} {tk : TE} {p pos tpos kpos : Pos} {elts : List Expr} {kk : Nat} (hg : Gl X "enumerate") (hm : X.mg "enumerate" = none) (ha : PA X [e] ta) (hk2 : PE X e2 tk)
    (hks : (backToKw pos (keywordEach [⟨some "start", e2, kpos⟩] X.env)).filterMap (·.1) = [Str.ofString "start"] := by rfl)
    (h1 : backTo pos (starEach [e] X.env) = (false, eval e X.env) :: backTo pos (starEach [] X.env) := by rfl) (h2 : (backTo pos (starEach [e] X.env)).any (·.1) = false := by rfl)
    (h3 : (backToKw pos (keywordEach [⟨some "start", e2, kpos⟩] X.env)).all (·.1.isSome) = true := by rfl) (h4 : (backToKw pos (keywordEach [⟨some "start", e2, kpos⟩] X.env)).any (·.1.isNone) = false := by rfl) :
    PI X (.Tuple elts kk tpos) (.Call (.Name "enumerate" p) [e] [⟨some "start", e2, kpos⟩] pos) (iEnumS X.K ta tk) := by
  refine ⟨fun pins s σ H R I h => ?_⟩
  refine wpAny_Call_Name_kw (ld_blt I hg hm PyProof.Rows.boot_enumerate (callWith_tyKw ?_ h1 h2 h3 h4))
  refine thn (ha.run pos pins s σ H _ I h) fun us s1 ⟨vs, H1, I1, r1, q1⟩ => ?_
  refine thn ((pk_cons (nm := some "start") (kpos := kpos) hk2 pk_nil).run pos pins s1 σ H1 (one1 X.K R vs) I1 q1) fun ks s2 ⟨ws, H2, I2, r2, q2⟩ => ?_
  obtain ⟨y, ew, a, xs, k, ev, ey, k0, k1, hq, q⟩ := one1_at q2
  subst ev ew ey
  rw [hks]
  cases r1 with
  | cons r rr =>
    cases rr
    cases r
    cases r2 with
    | cons rk rr =>
      cases rr
      obtain ⟨t, rfl⟩ := rk
      obtain ⟨its, rv, p', hz⟩ := I2.list hq
      have hal : a < s2.heap.objs.size := p'.lt
      refine enum_begins_start (begins_list a its.toArray) p'.isList (by omega) (by omega) fun h' he' hit hsz hk => wpAny_pyIter_enum he' ?_
      have I3 : Inv X pins σ H2 { s2 with heap := h' } := I2.kept (t' := s2.toks) hk
      refine ⟨s2.heap.objs.size + 1, [s2.heap.objs.size + 1, s2.heap.objs.size], _, _, H2, rfl, I3, turn_enumS a (s2.heap.objs.size + 1) s2.heap.objs.size k, ⟨⟨.none, by rw [show k + ((0 : Nat) : Int) = k by omega]; exact he'⟩, ⟨_, hit, rfl, rfl⟩, Nat.succ_ne_self _, Nat.ne_of_gt (Nat.lt_succ_of_lt hal), Nat.ne_of_lt hal⟩, fun b hb => ?_, q⟩
      have e' : b = s2.heap.objs.size + 1 ∨ b = s2.heap.objs.size := by simpa using hb
      have hle : s2.heap.objs.size ≤ b := by
        rcases e' with z | z
        · rw [z]; exact Nat.le_add_right _ _
        · rw [z]; exact Nat.le_refl _
      exact I2.fpOk hle (I2.hok.fresh hle)
end XEnum
end
section
set_option maxRecDepth 100000
set_option maxHeartbeats 4000000
namespace MS
open PySem L2
/-! ### the defs of the notes -/
abbrev s_words_written : Stmt := topS 35
theorem sc_words_written : FnScope ["scheme", "words", "part", "kind", "inner"] ["scheme"] (defScope s_words_written) := ⟨rfl, rfl, rfl, by decide +kernel, rfl, by decide +kernel, by decide +kernel⟩
abbrev s_written : Stmt := topS 36
theorem sc_written : FnScope ["paper", "scheme"] ["paper"] (defScope s_written) := ⟨rfl, rfl, rfl, by decide +kernel, rfl, by decide +kernel, by decide +kernel⟩
abbrev s_written_work : Stmt := topS 37
theorem sc_written_work : FnScope ["work"] ["work"] (defScope s_written_work) := ⟨rfl, rfl, rfl, by decide +kernel, rfl, by decide +kernel, by decide +kernel⟩
abbrev s_is_figures : Stmt := topS 38
theorem sc_is_figures : FnScope ["word"] ["word"] (defScope s_is_figures) := ⟨rfl, rfl, rfl, by decide +kernel, rfl, by decide +kernel, by decide +kernel⟩
abbrev s_can_stand : Stmt := topS 39
theorem sc_can_stand : FnScope ["word", "kind"] ["word", "kind"] (defScope s_can_stand) := ⟨rfl, rfl, rfl, by decide +kernel, rfl, by decide +kernel, by decide +kernel⟩
abbrev s_coming : Stmt := topS 40
theorem sc_coming : FnScope ["word", "kind"] ["word", "kind"] (defScope s_coming) := ⟨rfl, rfl, rfl, by decide +kernel, rfl, by decide +kernel, by decide +kernel⟩
abbrev s_kinds_in : Stmt := topS 41
theorem sc_kinds_in : FnScope ["words", "start", "kinds", "due", "place", "word"] ["words", "start"] (defScope s_kinds_in) := ⟨rfl, rfl, rfl, by decide +kernel, rfl, by decide +kernel, by decide +kernel⟩
abbrev s_taken : Stmt := topS 42
theorem sc_taken : FnScope ["parts", "many", "found", "turn"] ["parts", "many"] (defScope s_taken) := ⟨rfl, rfl, rfl, by decide +kernel, rfl, by decide +kernel, by decide +kernel⟩
abbrev s_scheme_of : Stmt := topS 43
theorem sc_scheme_of : FnScope ["words", "kinds", "parts", "word", "kind"] ["words", "kinds"] (defScope s_scheme_of) := ⟨rfl, rfl, rfl, by decide +kernel, rfl, by decide +kernel, by decide +kernel⟩
abbrev s_read : Stmt := topS 44
theorem sc_read : FnScope ["text", "schemes", "start", "row", "words", "paper"] ["text"] (defScope s_read) := ⟨rfl, rfl, rfl, by decide +kernel, rfl, by decide +kernel, by decide +kernel⟩
abbrev s_read_work : Stmt := topS 45
theorem sc_read_work : FnScope ["text", "work", "place", "word"] ["text"] (defScope s_read_work) := ⟨rfl, rfl, rfl, by decide +kernel, rfl, by decide +kernel, by decide +kernel⟩
abbrev s_L_text : Stmt := topS 56
theorem sc_L_text : FnScope ["_law_scheme_here", "_law_kid", "_law_part"] ["_law_scheme_here"] (defScope s_L_text) := ⟨rfl, rfl, rfl, by decide +kernel, rfl, by decide +kernel, by decide +kernel⟩
/-! ### the words of a scheme, one by one, with their kinds -/
def tx (i : Int) : Str := (toString i : String)
inductive Pt where
  | sch (d : Nat) (s : Sch)
  | schs (d : Nat) (ks : List Sch)
  | word (x : Str)
  | num (n : Int) (k : Str)
def nameOf : Sch → Str
  | .step _ _ => "step"
  | .all _ => "all"
  | .best _ => "best"
  | .most _ _ => "most"
  | .half _ => "half"
  | .seen _ _ => "seen"
  | .behind _ _ => "behind"
  | .carry _ => "carry"
  | .fin _ _ _ => "end"
  | .use _ => "use"
def partsP (d : Nat) : Sch → List Pt
  | .step x p => [.word x, .num p "points"]
  | .all k => [.schs d k]
  | .best k => [.schs d k]
  | .most n s => [.num n "limit", .sch d s]
  | .half s => [.sch d s]
  | .seen x s => [.word x, .sch d s]
  | .behind x s => [.word x, .sch d s]
  | .carry s => [.sch d s]
  | .fin x p s => [.word x, .num p "points", .sch d s]
  | .use n => [.num (n : Int) "later"]
def kd : Pt → Str
  | .sch _ _ => "scheme"
  | .schs _ _ => "schemes"
  | .word _ => "word"
  | .num _ k => k
def wd : Pt → Str
  | .sch _ s => nameOf s
  | .schs _ ks => tx ((ks.length : Nat) : Int)
  | .word x => x
  | .num n _ => tx n
def nextP : Pt → List Pt
  | .sch (d + 1) s => partsP d s
  | .sch 0 _ => []
  | .schs d ks => ks.map (.sch d)
  | _ => []
def nP (f : Sch → List Pt) : Pt → List Pt
  | .sch _ s => f s
  | .schs d ks => .schs d ks :: (ks.map f).flatten
  | p => [p]
def nS : Nat → Sch → List Pt
  | 0, _ => []
  | d + 1, s => .sch (d + 1) s :: ((partsP d s).map (nP (nS d))).flatten
/-- a part that can be -/
def OkP (i M : Nat) : Pt → Prop
  | .sch d s => OkS i M d s
  | .schs d ks => 0 < ks.length ∧ ks.length ≤ 4 ∧ ∀ s ∈ ks, OkS i M d s
  | .word x => IsW x
  | .num n k => 0 ≤ n ∧ n ≤ 30 ∧ (k = "points" ∨ k = "limit" ∨ k = "later")
theorem parts_ok {i M d : Nat} {s : Sch} (hM : M ≤ 5) (o : OkS i M (d + 1) s) : ∀ p ∈ partsP d s, OkP i M p := by
  intro p hp
  cases s with
  | step x q =>
    rcases List.mem_cons.mp hp with rfl | hp
    · exact o.1
    · rw [List.mem_singleton.mp hp]
      exact ⟨by have := o.2.1; omega, by have := o.2.2; omega, .inl rfl⟩
  | all k => rw [List.mem_singleton.mp hp]; exact o
  | best k => rw [List.mem_singleton.mp hp]; exact o
  | most n s =>
    rcases List.mem_cons.mp hp with rfl | hp
    · exact ⟨o.1.1, o.1.2, .inr (.inl rfl)⟩
    · rw [List.mem_singleton.mp hp]; exact o.2
  | half s => rw [List.mem_singleton.mp hp]; exact o
  | seen x s =>
    rcases List.mem_cons.mp hp with rfl | hp
    · exact o.1
    · rw [List.mem_singleton.mp hp]; exact o.2
  | behind x s =>
    rcases List.mem_cons.mp hp with rfl | hp
    · exact o.1
    · rw [List.mem_singleton.mp hp]; exact o.2
  | carry s => rw [List.mem_singleton.mp hp]; exact o
  | fin x q s =>
    rcases List.mem_cons.mp hp with rfl | hp
    · exact o.1.1
    · rcases List.mem_cons.mp hp with rfl | hp
      · exact ⟨by have := o.1.2.1; omega, by have := o.1.2.2; omega, .inl rfl⟩
      · rw [List.mem_singleton.mp hp]; exact o.2
  | use n =>
    rw [List.mem_singleton.mp hp]
    have h1 : i < n := o.1
    have h2 : n < M := o.2
    exact ⟨by omega, by omega, .inr (.inr rfl)⟩
theorem next_ok {i M : Nat} {p : Pt} (hM : M ≤ 5) (o : OkP i M p) : ∀ q ∈ nextP p, OkP i M q := by
  cases p with
  | sch d s =>
    cases d with
    | zero => exact fun q h => nomatch h
    | succ d => exact parts_ok hM o
  | schs d ks =>
    intro q hq
    obtain ⟨s, hs, rfl⟩ := List.mem_map.mp hq
    exact o.2.2 s hs
  | word x => exact fun q h => nomatch h
  | num n k => exact fun q h => nomatch h
/-! ### a stack of parts, run through -/
inductive Run : List Pt → List Pt → Prop where
  | nil : Run [] []
  | cons {p : Pt} {S L : List Pt} : Run (nextP p ++ S) L → Run (p :: S) (p :: L)
theorem run_list {f : Sch → List Pt} {d : Nat} : ∀ {ks : List Sch}, (∀ s ∈ ks, ∀ S L, Run S L → Run (.sch d s :: S) (f s ++ L)) → ∀ {S L : List Pt}, Run S L → Run (ks.map (.sch d) ++ S) ((ks.map f).flatten ++ L)
  | [], _, S, L, r => r
  | s :: ks, h, S, L, r => by
    have ih := run_list (ks := ks) (fun s' hs => h s' (List.mem_cons_of_mem _ hs)) r
    have := h s List.mem_cons_self _ _ ih
    rw [List.map_cons, List.map_cons, List.flatten_cons, List.append_assoc]
    exact this
theorem run_one {p : Pt} (h : nextP p = []) {S L : List Pt} (r : Run S L) : Run (p :: S) (p :: L) := .cons (by rw [h]; exact r)
theorem run_sch {i M : Nat} : ∀ {d : Nat} {s : Sch}, OkS i M d s → ∀ {S L : List Pt}, Run S L → Run (.sch d s :: S) (nS d s ++ L)
  | 0, _, o, _, _, _ => o.elim
  | d + 1, s, o, S, L, r => by
    refine .cons ?_
    show Run (partsP d s ++ S) (((partsP d s).map (nP (nS d))).flatten ++ L)
    have many : ∀ ks : List Sch, (∀ s ∈ ks, OkS i M d s) → Run (.schs d ks :: S) ((.schs d ks :: (ks.map (nS d)).flatten) ++ L) := fun ks hk => .cons (run_list (fun s hs S L r => run_sch (hk s hs) r) r)
    cases s with
    | step x q => exact run_one rfl (run_one rfl r)
    | all k => rw [show ((partsP d (.all k)).map (nP (nS d))).flatten = .schs d k :: (k.map (nS d)).flatten from List.append_nil _]; exact many k o.2.2
    | best k => rw [show ((partsP d (.best k)).map (nP (nS d))).flatten = .schs d k :: (k.map (nS d)).flatten from List.append_nil _]; exact many k o.2.2
    | most n s => rw [show ((partsP d (.most n s)).map (nP (nS d))).flatten = .num n "limit" :: nS d s from congrArg (List.cons _) (List.append_nil _)]; exact run_one rfl (run_sch o.2 r)
    | half s => rw [show ((partsP d (.half s)).map (nP (nS d))).flatten = nS d s from List.append_nil _]; exact run_sch (i := i) (M := M) (d := d) o r
    | seen x s => rw [show ((partsP d (.seen x s)).map (nP (nS d))).flatten = .word x :: nS d s from congrArg (List.cons _) (List.append_nil _)]; exact run_one rfl (run_sch o.2 r)
    | behind x s => rw [show ((partsP d (.behind x s)).map (nP (nS d))).flatten = .word x :: nS d s from congrArg (List.cons _) (List.append_nil _)]; exact run_one rfl (run_sch o.2 r)
    | carry s => rw [show ((partsP d (.carry s)).map (nP (nS d))).flatten = nS d s from List.append_nil _]; exact run_sch (i := i) (M := M) (d := d) o r
    | fin x q s => rw [show ((partsP d (.fin x q s)).map (nP (nS d))).flatten = .word x :: .num q "points" :: nS d s from congrArg (fun z => Pt.word x :: Pt.num q "points" :: z) (List.append_nil _)]; exact run_one rfl (run_one rfl (run_sch o.2 r))
    | use n => exact run_one rfl r
theorem run_len : ∀ {S L : List Pt}, Run S L → S.length ≤ L.length
  | _, _, .nil => Nat.le_refl _
  | _, _, .cons (S := S) r => by
    have := run_len r
    rw [List.length_append] at this
    rw [List.length_cons, List.length_cons]
    omega
theorem run_chain {i M : Nat} (hM : M ≤ 5) : ∀ {S L : List Pt}, Run S L → (∀ p ∈ S, OkP i M p) → ∃ f : Nat → List Pt, f 0 = S ∧ f L.length = [] ∧ ∀ (j : Nat) (p : Pt), L[j]? = some p → OkP i M p ∧ ∃ S', f j = p :: S' ∧ f (j + 1) = nextP p ++ S' ∧ (nextP p ++ S').length ≤ L.length
  | _, _, .nil, _ => ⟨fun _ => [], rfl, rfl, fun j p h => by simp at h⟩
  | _, _, .cons (p := p) (S := S) (L := L) r, o => by
    obtain ⟨g, g0, g1, g2⟩ := run_chain hM r fun q hq => by
      rcases List.mem_append.mp hq with hq | hq
      · exact next_ok hM (o p List.mem_cons_self) q hq
      · exact o q (List.mem_cons_of_mem _ hq)
    refine ⟨fun j => match j with | 0 => p :: S | j + 1 => g j, rfl, g1, fun j q h => ?_⟩
    cases j with
    | zero =>
      obtain rfl : p = q := by simpa using h
      exact ⟨o _ List.mem_cons_self, S, rfl, g0, Nat.le_succ_of_le (run_len r)⟩
    | succ j =>
      obtain ⟨h1, S', h2, h3, h4⟩ := g2 j q (by simpa using h)
      exact ⟨h1, S', h2, h3, Nat.le_succ_of_le h4⟩
/-! ### how many -/
def most : Nat → Nat
  | 0 => 0
  | 1 => 3
  | d + 1 => 2 + 4 * most d
theorem flat_le {f : Sch → List Pt} {m : Nat} : ∀ {ks : List Sch}, (∀ s ∈ ks, (f s).length ≤ m) → ((ks.map f).flatten).length ≤ ks.length * m
  | [], _ => by simp
  | s :: ks, h => by
    have h1 := h s List.mem_cons_self
    have h2 := flat_le (f := f) (m := m) (ks := ks) fun s' hs => h s' (List.mem_cons_of_mem _ hs)
    rw [List.map_cons, List.flatten_cons, List.length_append, List.length_cons, Nat.succ_mul]
    omega
theorem most_le {d : Nat} : most d + 3 ≤ most (d + 1) ∧ 2 + 4 * most d ≤ most (d + 1) ∨ d = 0 := by
  cases d with
  | zero => exact .inr rfl
  | succ d => exact .inl ⟨by
    have h1 : 1 ≤ most (d + 1) := by
      cases d with
      | zero => decide
      | succ e =>
        show 1 ≤ 2 + 4 * most (e + 1)
        omega
    show most (d + 1) + 3 ≤ 2 + 4 * most (d + 1)
    omega, Nat.le_refl _⟩
theorem nS_len {i M : Nat} : ∀ {d : Nat} {s : Sch}, OkS i M d s → (nS d s).length ≤ most d
  | 0, _, o => o.elim
  | d + 1, s, o => by
    have hl := most_le (d := d)
    have kid : ∀ s', OkS i M d s' → (nS d s').length ≤ most d ∧ most d + 3 ≤ most (d + 1) := fun s' o' => ⟨nS_len o', by
      rcases hl with ⟨h, _⟩ | h
      · exact h
      · subst h; exact o'.elim⟩
    have many : ∀ ks : List Sch, ks.length ≤ 4 → 0 < ks.length → (∀ s ∈ ks, OkS i M d s) → (nS (d + 1) (.all ks)).length ≤ most (d + 1) ∧ (nS (d + 1) (.best ks)).length ≤ most (d + 1) := fun ks h4 h0 hk => by
      have := flat_le (f := nS d) (m := most d) fun s hs => nS_len (hk s hs)
      have h5 : ks.length * most d ≤ 4 * most d := Nat.mul_le_mul_right _ h4
      have h6 : 2 + 4 * most d ≤ most (d + 1) := by
        rcases hl with ⟨_, h⟩ | h
        · exact h
        · subst h
          cases ks with
          | nil => exact absurd h0 (by decide)
          | cons s r => exact (hk s List.mem_cons_self).elim
      have e1 : nS (d + 1) (.all ks) = .sch (d + 1) (.all ks) :: ((.schs d ks :: (ks.map (nS d)).flatten) ++ []) := rfl
      have e2 : nS (d + 1) (.best ks) = .sch (d + 1) (.best ks) :: ((.schs d ks :: (ks.map (nS d)).flatten) ++ []) := rfl
      rw [e1, e2, List.append_nil]
      refine ⟨?_, ?_⟩ <;> (rw [List.length_cons, List.length_cons]; omega)
    have base3 : 3 ≤ most (d + 1) := by
      rcases hl with ⟨h, _⟩ | h
      · omega
      · subst h; decide
    cases s with
    | step x q => exact base3
    | all k => exact (many k o.2.1 o.1 o.2.2).1
    | best k => exact (many k o.2.1 o.1 o.2.2).2
    | most n s =>
      obtain ⟨h1, h2⟩ := kid s o.2
      show (nS d s ++ []).length + 1 + 1 ≤ _
      rw [List.append_nil]; omega
    | half s =>
      obtain ⟨h1, h2⟩ := kid s o
      show (nS d s ++ []).length + 1 ≤ _
      rw [List.append_nil]; omega
    | seen x s =>
      obtain ⟨h1, h2⟩ := kid s o.2
      show (nS d s ++ []).length + 1 + 1 ≤ _
      rw [List.append_nil]; omega
    | behind x s =>
      obtain ⟨h1, h2⟩ := kid s o.2
      show (nS d s ++ []).length + 1 + 1 ≤ _
      rw [List.append_nil]; omega
    | carry s =>
      obtain ⟨h1, h2⟩ := kid s o
      show (nS d s ++ []).length + 1 ≤ _
      rw [List.append_nil]; omega
    | fin x q s =>
      obtain ⟨h1, h2⟩ := kid s o.2
      show (nS d s ++ []).length + 1 + 1 + 1 ≤ _
      rw [List.append_nil]; omega
    | use n => exact Nat.le_trans (show 2 ≤ 3 by decide) base3
theorem most_mono {d : Nat} (h : d ≤ 5) : most d ≤ 938 := by
  have e : d = 0 ∨ d = 1 ∨ d = 2 ∨ d = 3 ∨ d = 4 ∨ d = 5 := by omega
  rcases e with rfl | rfl | rfl | rfl | rfl | rfl <;> decide
/-! ### where the parts stand -/
def PAt (H : Hp) : Pt → V → Prop
  | .sch d s, v => SAt H d s v
  | .schs d ks, v => ∃ b vs, v = .ref b ∧ H b = some (.tup vs) ∧ Paired (SAt H d) ks vs
  | .word x, v => v = .str x
  | .num n _, v => v = .int n
theorem PAt.keep {H H' : Hp} (k : TupK H H') : ∀ {p : Pt} {v : V}, PAt H p v → PAt H' p v
  | .sch d s, v, h => SAt.keep k d s v h
  | .schs d ks, v, ⟨b, vs, e1, e2, e3⟩ => ⟨b, vs, e1, k _ _ e2, paired_imp e3 fun s v => SAt.keep k d s v⟩
  | .word x, v, h => h
  | .num n _, v, h => h
theorem SAt.parts {H : Hp} {d : Nat} {sc : Sch} {v : V} (h : SAt H (d + 1) sc v) : ∃ a rest, v = .ref a ∧ H a = some (.tup (.str (nameOf sc) :: rest)) ∧ Paired (PAt H) (partsP d sc) rest ∧ (nameOf sc, (partsP d sc).map kd) ∈ shapesL := by
  cases sc with
  | step x p =>
    obtain ⟨a, e, h⟩ := h
    exact ⟨a, _, e, h, .cons rfl (.cons rfl .nil), (by decide +kernel : (("step", ["word", "points"]) : Str × List Str) ∈ shapesL)⟩
  | all k =>
    obtain ⟨a, b, vs, e, h, hb, hp⟩ := h
    exact ⟨a, _, e, h, .cons ⟨b, vs, rfl, hb, hp⟩ .nil, (by decide +kernel : (("all", ["schemes"]) : Str × List Str) ∈ shapesL)⟩
  | best k =>
    obtain ⟨a, b, vs, e, h, hb, hp⟩ := h
    exact ⟨a, _, e, h, .cons ⟨b, vs, rfl, hb, hp⟩ .nil, (by decide +kernel : (("best", ["schemes"]) : Str × List Str) ∈ shapesL)⟩
  | most n s =>
    obtain ⟨a, u, e, h, hs⟩ := h
    exact ⟨a, _, e, h, .cons rfl (.cons hs .nil), (by decide +kernel : (("most", ["limit", "scheme"]) : Str × List Str) ∈ shapesL)⟩
  | half s =>
    obtain ⟨a, u, e, h, hs⟩ := h
    exact ⟨a, _, e, h, .cons hs .nil, (by decide +kernel : (("half", ["scheme"]) : Str × List Str) ∈ shapesL)⟩
  | seen x s =>
    obtain ⟨a, u, e, h, hs⟩ := h
    exact ⟨a, _, e, h, .cons rfl (.cons hs .nil), (by decide +kernel : (("seen", ["word", "scheme"]) : Str × List Str) ∈ shapesL)⟩
  | behind x s =>
    obtain ⟨a, u, e, h, hs⟩ := h
    exact ⟨a, _, e, h, .cons rfl (.cons hs .nil), (by decide +kernel : (("behind", ["word", "scheme"]) : Str × List Str) ∈ shapesL)⟩
  | carry s =>
    obtain ⟨a, u, e, h, hs⟩ := h
    exact ⟨a, _, e, h, .cons hs .nil, (by decide +kernel : (("carry", ["scheme"]) : Str × List Str) ∈ shapesL)⟩
  | fin x p s =>
    obtain ⟨a, u, e, h, hs⟩ := h
    exact ⟨a, _, e, h, .cons rfl (.cons rfl (.cons hs .nil)), (by decide +kernel : (("end", ["word", "points", "scheme"]) : Str × List Str) ∈ shapesL)⟩
  | use n =>
    obtain ⟨a, e, h⟩ := h
    exact ⟨a, _, e, h, .cons rfl .nil, (by decide +kernel : (("use", ["later"]) : Str × List Str) ∈ shapesL)⟩
theorem shape_of {d : Nat} (sc : Sch) : (nameOf sc, (partsP d sc).map kd) ∈ shapesL := by
  cases sc <;> first
    | exact (by decide +kernel : (("step", ["word", "points"]) : Str × List Str) ∈ shapesL)
    | exact (by decide +kernel : (("all", ["schemes"]) : Str × List Str) ∈ shapesL)
    | exact (by decide +kernel : (("best", ["schemes"]) : Str × List Str) ∈ shapesL)
    | exact (by decide +kernel : (("most", ["limit", "scheme"]) : Str × List Str) ∈ shapesL)
    | exact (by decide +kernel : (("half", ["scheme"]) : Str × List Str) ∈ shapesL)
    | exact (by decide +kernel : (("seen", ["word", "scheme"]) : Str × List Str) ∈ shapesL)
    | exact (by decide +kernel : (("behind", ["word", "scheme"]) : Str × List Str) ∈ shapesL)
    | exact (by decide +kernel : (("carry", ["scheme"]) : Str × List Str) ∈ shapesL)
    | exact (by decide +kernel : (("end", ["word", "points", "scheme"]) : Str × List Str) ∈ shapesL)
    | exact (by decide +kernel : (("use", ["later"]) : Str × List Str) ∈ shapesL)
theorem parts_at {H : Hp} {d : Nat} {sc : Sch} {a : Addr} {rest : List V} (e : H a = some (.tup (.str (nameOf sc) :: rest))) (h : Paired (PAt H) (partsP d sc) rest) : SAt H (d + 1) sc (.ref a) := by
  cases sc with
  | step x p =>
    cases h with | cons h1 h => cases h with | cons h2 h => cases h; obtain rfl := h1; obtain rfl := h2; exact ⟨a, rfl, e⟩
  | all k =>
    cases h with | cons h1 h => cases h; obtain ⟨b, vs, rfl, hb, hp⟩ := h1; exact ⟨a, b, vs, rfl, e, hb, hp⟩
  | best k =>
    cases h with | cons h1 h => cases h; obtain ⟨b, vs, rfl, hb, hp⟩ := h1; exact ⟨a, b, vs, rfl, e, hb, hp⟩
  | most n s =>
    cases h with | cons h1 h => cases h with | cons h2 h => cases h; obtain rfl := h1; exact ⟨a, _, rfl, e, h2⟩
  | half s =>
    cases h with | cons h1 h => cases h; exact ⟨a, _, rfl, e, h1⟩
  | seen x s =>
    cases h with | cons h1 h => cases h with | cons h2 h => cases h; obtain rfl := h1; exact ⟨a, _, rfl, e, h2⟩
  | behind x s =>
    cases h with | cons h1 h => cases h with | cons h2 h => cases h; obtain rfl := h1; exact ⟨a, _, rfl, e, h2⟩
  | carry s =>
    cases h with | cons h1 h => cases h; exact ⟨a, _, rfl, e, h1⟩
  | fin x p s =>
    cases h with | cons h1 h => cases h with | cons h2 h => cases h with | cons h3 h => cases h; obtain rfl := h1; obtain rfl := h2; exact ⟨a, _, rfl, e, h3⟩
  | use n =>
    cases h with | cons h1 h => cases h; obtain rfl := h1; exact ⟨a, rfl, e⟩
end MS
end
section
set_option maxRecDepth 100000
set_option maxHeartbeats 4000000
namespace MS
open PySem L2
def rStrX : List V → Hp → VK → Prop := fun xs H Q => (∃ i, xs = [.int i] ∧ i.natAbs.log2 < 1920 ∧ Q (.str (tx i)) H) ∨ ∃ a, xs = [.str a] ∧ Q (.str a) H
theorem call_strX {X : Cx} : CallR X (.type "str") rStrX := by
  intro pins s σ H xs us Q I r h
  rcases h with h | h
  · exact call_str_int pins s σ H xs us Q I r h
  · exact SkE.call_str_str pins s σ H xs us Q I r h
theorem log_small {n : Int} (h0 : 0 ≤ n) (h1 : n ≤ 30) : n.natAbs.log2 < 1920 := by
  by_cases z : n.natAbs = 0
  · rw [z]; decide
  · exact Nat.lt_of_le_of_lt (Nat.log2_le_self _) (by omega)
def wordsV (L : List Pt) : List V := L.map fun p => V.str (wd p)
theorem wordsV_len (L : List Pt) : (wordsV L).length = L.length := List.length_map _
theorem wordsV_app (L M : List Pt) : wordsV (L ++ M) = wordsV L ++ wordsV M := List.map_append
theorem parts_d {d : Nat} {s : Sch} : ∀ p ∈ partsP d s, (∀ d' s', p = .sch d' s' → d' = d) ∧ ∀ d' ks, p = .schs d' ks → d' = d := by
  intro p hp
  cases s <;> simp only [partsP, List.mem_cons, List.not_mem_nil, or_false] at hp
  all_goals (first
    | (rcases hp with rfl | rfl | rfl <;> (refine ⟨fun d' s' e => ?_, fun d' ks e => ?_⟩ <;> (injection e <;> first | assumption | (subst_vars; rfl))))
    | (rcases hp with rfl | rfl <;> (refine ⟨fun d' s' e => ?_, fun d' ks e => ?_⟩ <;> (injection e <;> first | assumption | (subst_vars; rfl))))
    | (subst hp; refine ⟨fun d' s' e => ?_, fun d' ks e => ?_⟩ <;> (injection e <;> first | assumption | (subst_vars; rfl))))
theorem sum_take {α : Type} {f : α → List Pt} {xs : List α} {j : Nat} {x : α} (h : xs[j]? = some x) : ((xs.take (j + 1)).map f).flatten = ((xs.take j).map f).flatten ++ f x := by
  rw [List.take_succ, h, List.map_append, List.flatten_append]
  show _ ++ (f x ++ []) = _
  rw [List.append_nil]
theorem take_len {α : Type} {f : α → List Pt} (xs : List α) (j : Nat) : (((xs.take j).map f).flatten).length ≤ ((xs.map f).flatten).length := by
  have e : (xs.map f).flatten = ((xs.take j).map f).flatten ++ ((xs.drop j).map f).flatten := by
    rw [← List.flatten_append, ← List.map_append, List.take_append_drop]
  rw [e, List.length_append]
  omega
def spWW (i M d : Nat) : Sp := fun vs H Q _ => ∃ (v : V) (s : Sch), vs = [v] ∧ SAt H d s v ∧ OkS i M d s ∧ ∀ (f : Addr) (H' : Hp), Same H H' → H f = none → H' f = some (.lst (wordsV (nS d s))) → Q (.ref f) H'
abbrev nmWW : List Str := ["scheme", "words", "part", "kind", "inner"]
section
variable {P : Program} {w : World} {K : PySem.W.Frag} {mg : Str → Option Value} {base : Heap}
theorem ww_turn {i M d : Nat} (hM : M ≤ 5) (hd : d + 1 ≤ 5) (T : PTx w K mg) (D : Def K mg "words_written" s_words_written ["scheme"]) (G : FnOk P w K mg base CX0 d D.f D.fd ["scheme"] (spWW i M d)) : FnOk P w K mg base CX0 (d + 1) D.f D.fd ["scheme"] (spWW i M (d + 1)) := by
  obtain ⟨aS, gS, low, hS⟩ := T.shapes
  have nd := sc_words_written.nd
  refine D.ok sc_words_written (fun vs H Q E h => ?_) (fun cdv A outer s H vs Q E hr h => ?_)
  · obtain ⟨v, sc, rfl, _⟩ := h
    rfl
  obtain ⟨v, sc, rfl, hs, ho, q⟩ := h
  refine ⟨_, pss_cons (ps_set (i := 1) nd rfl (Or.inl rfl) (pe_lst (pa_cons (pe_ix ix_tup (pv 0) pe_int (fun _ _ => rfl)) pa_nil)))
    (pss_cons (ps_for PassesOwn.never rfl (RZ.pi_zipA rfl (T.free "zip" (by decide +kernel)) (pa_cons (pe_slice sl_tupA (pv 0) (po_some pe_int) po_none) (pa_cons (pe_ix ix_kdict (pe_glob rfl gS (v := .ref aS) rfl) (pe_ix ix_tup (pv 0) pe_int (fun _ _ => rfl)) (fun _ _ => rfl)) pa_nil)))
        (pg_tup (by rfl) (pgs_cons (pg_name (i := 2) nd rfl (Or.inl rfl)) (pgs_cons (pg_name (i := 3) nd rfl (Or.inl rfl)) pgs_nil)))
      (pss_one (ps_if (pt_cmpR op_eq (pv 3) pe_str (nomark _))
        (pss_cons (ps_expr (pe_bm PySem.F.plainAttrs_list PySem.F.slot_list_append PySem.F.type_list_append mt_append (pv 1) (pa_cons (pe_callTy call_strX rfl (T.free "str" (by decide +kernel)) (by decide +kernel) (pa_cons (pe_callB call_len_seq rfl (T.free "len" (by decide +kernel)) PySem.boot_len (pa_cons (pv 2) pa_nil)) pa_nil)) pa_nil)))
          (pss_one (ps_for PassesOwn.never rfl (pi_tup (pv 2)) (pg_name (i := 4) nd rfl (Or.inl rfl))
            (pss_one (ps_expr (pe_bm PySem.F.plainAttrs_list PySem.F.slot_list_extend PySem.F.type_list_extend mt_extend (pv 1) (pa_cons (pcall D G hr (pa_cons (pv 4) pa_nil)) pa_nil)))))))
        (pss_one (ps_if (pt_cmpR op_eq (pv 3) pe_str (nomark _))
          (pss_one (ps_expr (pe_bm PySem.F.plainAttrs_list PySem.F.slot_list_extend PySem.F.type_list_extend mt_extend (pv 1) (pa_cons (pcall D G hr (pa_cons (pv 2) pa_nil)) pa_nil))))
          (pss_one (ps_expr (pe_bm PySem.F.plainAttrs_list PySem.F.slot_list_append PySem.F.type_list_append mt_append (pv 1) (pa_cons (pe_callTy call_strX rfl (T.free "str" (by decide +kernel)) (by decide +kernel) (pa_cons (pv 2) pa_nil)) pa_nil)))))))))
    (pss_one (ps_ret (pv 1)))), ?_⟩
  obtain ⟨a, rest, rfl, ea, hpp, hshape⟩ := hs.parts
  obtain ⟨t, kdk, qt⟩ := hS _ hshape
  have hpd := parts_d (d := d) (s := sc)
  have hpo := parts_ok hM ho
  have htot : (((partsP d sc).map (nP (nS d))).flatten).length + 1 ≤ 938 := by
    have h1 := nS_len ho
    have h2 := most_mono hd
    have e : (nS (d + 1) sc).length = (((partsP d sc).map (nP (nS d))).flatten).length + 1 := rfl
    omega
  have htk := take_len (f := nP (nS d)) (partsP d sc)
  have q : ∀ (f : Addr) (H' : Hp), Same H H' → H f = none → H' f = some (.lst (V.str (nameOf sc) :: wordsV (((partsP d sc).map (nP (nS d))).flatten))) → Q (.ref f) H' := q
  generalize hps : partsP d sc = ps at *
  have lps := Paired.length hpp
  have lp3 : ps.length ≤ 3 := by
    have z : ∀ p ∈ shapesL, p.2.length ≤ 3 := by decide +kernel
    have := z _ hshape
    rw [List.length_map] at this
    exact this
  refine ⟨_, rfl, a, _, 0, _, rfl, rfl, SqT.of ea, at0, (by show 1 ≤ sizeLine; decide), fun wl hwl => ?_⟩
  have s1 : Same H (upd H wl (.lst [.str (nameOf sc)])) := Same.new hwl
  dsimp only [gName]
  refine ⟨_, rfl, 1, rfl, a, _, rfl, SqT.of (s1 _ _ ea), fun z => absurd z (not_whole (Nat.succ_pos _)), fun _ p hp => ?_⟩
  have ec : cutV (V.str (nameOf sc) :: rest) (some 1) none = rest := cut_from (V.str (nameOf sc) :: rest) 1
  rw [ec]
  have s2 := s1.trans (Same.new (o := .tup rest) hp)
  have ep : upd (upd H wl (.lst [.str (nameOf sc)])) p (.tup rest) p = some (.tup rest) := upd_same
  refine ⟨_, rfl, a, _, 0, _, rfl, rfl, SqT.of (s2 _ _ ea), at0, aS, nameOf sc, .ref t, rfl, rfl, kdk, p, t, rest, (ps.map kd).map V.str, rfl, .inr ⟨SqT.of ep, qt _, ?_⟩⟩
  have npw : p ≠ wl := fun e => by rw [e] at hp; rw [upd_same] at hp; cases hp
  refine for_it (walk_zipT (K := K) (a := p) (b := t) (xs := rest) (ys := (ps.map kd).map V.str) (n := ps.length) (by rw [List.length_map, List.length_map]; omega)) (fun j σ H' => ∃ v2 v3 v4 : Option V, σ = [some (.ref a), some (.ref wl), v2, v3, v4] ∧ H' wl = some (.lst (V.str (nameOf sc) :: wordsV (((ps.take j).map (nP (nS d))).flatten))) ∧ H' p = some (.tup rest) ∧ Same H H')
    ⟨none, none, none, rfl, by rw [upd_ne npw.symm]; exact upd_same, ep, s2⟩ (fun j σ H' _ ⟨_, _, _, _, _, e, _⟩ => ⟨SqT.of e, qt _⟩) ?_ ?_
  · rintro j x σ H2 H3 hj ⟨v2, v3, v4, rfl, ew, ep2, sm⟩ ⟨T1, x1, x2, rfl, hT1, rfl, ex1, ex2⟩
    have ej : ps[j]? = some (ps[j]'hj) := List.getElem?_eq_getElem hj
    have hmem := List.getElem_mem hj
    obtain ⟨x', ex', hat⟩ := paired_get2 hpp ej
    have ex1 : rest[j]? = some x1 := ex1
    rw [ex1] at ex'
    cases ex'
    have ex2 : ((ps.map kd).map V.str)[j]? = some x2 := ex2
    rw [List.getElem?_map, List.getElem?_map, ej] at ex2
    cases ex2
    have hpd' := hpd _ hmem
    have hpo' := hpo _ hmem
    have hst := sum_take (f := nP (nS d)) ej
    have hl1 := htk (j + 1)
    have htk0 := htk j
    generalize ps[j]'hj = pt at hat hpd' hpo' hst
    have sT : Same H2 (upd H2 T1 (.tup [x1, .str (kd pt)])) := Same.new hT1
    have sm1 := sm.trans sT
    have ew1 := sT _ _ ew
    have ep1 := sT _ _ ep2
    have eT1 : upd H2 T1 (.tup [x1, .str (kd pt)]) T1 = some (.tup [x1, .str (kd pt)]) := upd_same
    refine ⟨T1, _, rfl, SqT.of eT1, rfl, _, _, rfl, _, _, rfl, rfl, ?_⟩
    dsimp only [gName]
    generalize upd H2 T1 (.tup [x1, .str (kd pt)]) = H4 at sm1 ew1 ep1 eT1 ⊢
    have hwl0 : H wl = none := hwl
    -- what has been put behind the words
    have fin : ∀ (zs : List Pt) (H5 : Hp) (u4 : Option V), Same H H5 → H5 wl = some (.lst (V.str (nameOf sc) :: (wordsV (((ps.take j).map (nP (nS d))).flatten) ++ wordsV zs))) → nP (nS d) pt = zs → H5 p = some (.tup rest) →
        ∃ v2 v3 v4 : Option V, ([some (.ref a), some (.ref wl), some x1, some (.str (kd pt)), u4] : St) = [some (.ref a), some (.ref wl), v2, v3, v4] ∧ H5 wl = some (.lst (V.str (nameOf sc) :: wordsV (((ps.take (j + 1)).map (nP (nS d))).flatten))) ∧ H5 p = some (.tup rest) ∧ Same H H5 := fun zs H5 u4 s5 e5 ez ep5 =>
      ⟨_, _, _, rfl, by rw [hst, ez, wordsV_app]; exact e5, ep5, s5⟩
    have hat : PAt H4 pt x1 := hat.keep (Same.tupK sm1)
    have small : ∀ zs : List Pt, nP (nS d) pt = zs → (((ps.take j).map (nP (nS d))).flatten).length + zs.length ≤ 938 := fun zs ez => by
      rw [hst, ez, List.length_append] at hl1
      omega
    generalize (((ps.take j).map (nP (nS d))).flatten) = done at *
    cases pt with
    | schs d' ks =>
      obtain rfl : d' = d := hpd'.2 _ _ rfl
      obtain ⟨b, vs, rfl, eb, hk⟩ := hat
      have lk := Paired.length hk
      have h4 : ks.length ≤ 4 := hpo'.2.1
      refine is_word (b := true) rfl (by show (("schemes" : Str) == "schemes") = true; decide +kernel) _ (iteT ?_)
      have sm_all := small _ rfl
      have z0 : (nP (nS d') (.schs d' ks)).length = ((ks.map (nS d')).flatten).length + 1 := rfl
      refine ⟨_, rfl, .inl ⟨rfl, _, SqL.of ew1⟩, _, rfl, b, vs, rfl, .inr (SqT.of eb), .inl ⟨_, rfl, log_small (by omega) (by omega), wl, _, _, rfl, rfl, ew1, small1000 (by rw [List.length_cons, wordsV_len]; omega), ?_⟩⟩
      have k5 : TupK H4 (upd H4 wl (.lst (V.str (nameOf sc) :: wordsV done ++ [V.str (tx ((vs.length : Nat) : Int))]))) := TupK.put ew1
      have s5 : Same H (upd H4 wl (.lst (V.str (nameOf sc) :: wordsV done ++ [V.str (tx ((vs.length : Nat) : Int))]))) := Same.newer sm1 hwl
      refine ⟨_, rfl, b, rfl, ⟨_, SqT.of (k5 _ _ eb)⟩, ?_⟩
      refine for_it (walk_tup (K := K) (a := b) (xs := vs)) (fun k σ H' => ∃ u4 : Option V, σ = [some (.ref a), some (.ref wl), some (.ref b), some (.str (kd (.schs d' ks))), u4] ∧ H' wl = some (.lst (V.str (nameOf sc) :: (wordsV done ++ wordsV (.schs d' ks :: ((ks.take k).map (nS d')).flatten)))) ∧ TupK H4 H' ∧ Same H H')
        ⟨v4, rfl, by rw [upd_same, ← lk]; rfl, k5, s5⟩ (fun k σ H' _ ⟨_, _, _, k', _⟩ => SqT.of (k' _ _ eb)) ?_ ?_
      · rintro k y σ H6 H7 hkl ⟨u4, rfl, e6, k6, s6⟩ ⟨rfl, hy⟩
        have hk2 : k < ks.length := by omega
        have ek : ks[k]? = some (ks[k]'hk2) := List.getElem?_eq_getElem hk2
        obtain ⟨y', ey, hsy⟩ := paired_get2 hk ek
        rw [hy] at ey
        cases ey
        have ok' := hpo'.2.2 _ (List.getElem_mem hk2)
        have hst2 := sum_take (f := nS d') ek
        have hl2 := take_len (f := nS d') ks (k + 1)
        generalize ks[k]'hk2 = s' at hsy ok' hst2
        dsimp only [gName]
        refine ⟨_, rfl, .inl ⟨rfl, _, SqL.of e6⟩, _, rfl, y, s', rfl, hsy.keep k6, ok', fun f H8 s8 hf e8 => ?_⟩
        refine ⟨wl, f, _, _, rfl, rfl, s8 _ _ e6, e8, szN (by rw [List.length_cons, List.length_append, wordsV_len, wordsV_len, wordsV_len, List.length_cons]; rw [hst2, List.length_append] at hl2; omega), ?_⟩
        refine ⟨_, rfl, ?_, fun a' xs' e' => TupK.put (s8 _ _ e6) _ _ (s8 _ _ (k6 _ _ e')), Same.newer (s6.trans s8) hwl⟩
        rw [upd_same, hst2]
        show some (HO.lst (V.str (nameOf sc) :: (wordsV done ++ wordsV (.schs d' ks :: ((ks.take k).map (nS d')).flatten)) ++ wordsV (nS d' s'))) = _
        rw [List.cons_append, List.append_assoc, ← wordsV_app]
        rfl
      · rintro σ H6 ⟨u4, rfl, e6, k6, s6⟩
        rw [← lk, List.take_length] at e6
        exact fin _ H6 u4 s6 e6 rfl (k6 _ _ ep1)
    | sch d' s' =>
      obtain rfl : d' = d := hpd'.1 _ _ rfl
      refine is_word (b := false) rfl (by show (("scheme" : Str) == "schemes") = false; decide +kernel) _ (iteF ?_)
      refine is_word (b := true) rfl (by show (("scheme" : Str) == "scheme") = true; decide +kernel) _ (iteT ?_)
      have sm_all := small _ rfl
      refine ⟨_, rfl, .inl ⟨rfl, _, SqL.of ew1⟩, _, rfl, x1, s', rfl, hat, hpo', fun f H8 s8 hf e8 => ?_⟩
      refine ⟨wl, f, _, _, rfl, rfl, s8 _ _ ew1, e8, szN (by rw [List.length_cons, wordsV_len, wordsV_len]; have : (nP (nS d') (.sch d' s')).length = (nS d' s').length := rfl; omega), ?_⟩
      exact fin (nS d' s') _ _ (Same.newer (sm1.trans s8) hwl) upd_same rfl (TupK.put (s8 _ _ ew1) _ _ (s8 _ _ ep1))
    | word x =>
      obtain rfl : x1 = .str x := hat
      refine is_word (b := false) rfl (by show (("word" : Str) == "schemes") = false; decide +kernel) _ (iteF ?_)
      refine is_word (b := false) rfl (by show (("word" : Str) == "scheme") = false; decide +kernel) _ (iteF ?_)
      have sm_all := small _ rfl
      refine ⟨_, rfl, .inl ⟨rfl, _, SqL.of ew1⟩, _, rfl, .inr ⟨_, rfl, wl, _, _, rfl, rfl, ew1, small1000 (by rw [List.length_cons, wordsV_len]; have : (nP (nS d) (.word x)).length = 1 := rfl; omega), ?_⟩⟩
      exact fin [.word x] _ _ (Same.newer sm1 hwl) upd_same rfl (TupK.put ew1 _ _ ep1)
    | num n k =>
      obtain rfl : x1 = .int n := hat
      obtain ⟨n0, n1, hk⟩ := hpo'
      refine is_word (b := false) rfl (by show (k == "schemes") = false; rcases hk with rfl | rfl | rfl <;> decide +kernel) _ (iteF ?_)
      refine is_word (b := false) rfl (by show (k == "scheme") = false; rcases hk with rfl | rfl | rfl <;> decide +kernel) _ (iteF ?_)
      have sm_all := small _ rfl
      refine ⟨_, rfl, .inl ⟨rfl, _, SqL.of ew1⟩, _, rfl, .inl ⟨_, rfl, log_small n0 n1, wl, _, _, rfl, rfl, ew1, small1000 (by rw [List.length_cons, wordsV_len]; have : (nP (nS d) (.num n k)).length = 1 := rfl; omega), ?_⟩⟩
      exact fin [.num n k] _ _ (Same.newer sm1 hwl) upd_same rfl (TupK.put ew1 _ _ ep1)
  · rintro σ H2 ⟨v2, v3, v4, rfl, ew, ep2, sm⟩
    rw [List.take_length] at ew
    exact ⟨_, rfl, q wl H2 sm hwl ew⟩
theorem ok_ww {i M : Nat} (hM : M ≤ 5) (T : PTx w K mg) (D : Def K mg "words_written" s_words_written ["scheme"]) : ∀ d : Nat, d ≤ 5 → FnOk P w K mg base CX0 d D.f D.fd ["scheme"] (spWW i M d)
  | 0, _ => by
    have e : spWW i M 0 = fun _ _ _ _ => False := by
      funext vs H Q E
      refine propext ⟨fun h => ?_, fun h => h.elim⟩
      obtain ⟨_, _, _, h, _⟩ := h
      exact h
    rw [e]
    exact no_sp
  | d + 1, h => ww_turn hM h T D (ok_ww hM T D d (by omega))
end
end MS
end
section
set_option maxRecDepth 100000
set_option maxHeartbeats 4000000
namespace MS
open PySem L2
/-! ### texts of words -/
theorem app_assoc (a b c : Str) : a ++ b ++ c = a ++ (b ++ c) := by
  obtain ⟨a⟩ := a; obtain ⟨b⟩ := b; obtain ⟨c⟩ := c
  show (⟨a ++ b ++ c⟩ : Str) = ⟨a ++ (b ++ c)⟩
  rw [Array.append_assoc]
theorem join_app {z : Str} : ∀ {xs ys : List Str}, xs ≠ [] → ys ≠ [] → Str.join z (xs ++ ys) = Str.join z xs ++ z ++ Str.join z ys
  | [], _, h, _ => absurd rfl h
  | [x], [], _, h => absurd rfl h
  | [x], y :: r, _, _ => rfl
  | x :: x' :: r, ys, _, h => by
    have ih := join_app (z := z) (xs := x' :: r) (ys := ys) (by simp) h
    show x ++ z ++ Str.join z (x' :: r ++ ys) = x ++ z ++ Str.join z (x' :: r) ++ z ++ Str.join z ys
    rw [ih]
    simp only [app_assoc]
theorem join_flat {z : Str} : ∀ {ls : List (List Str)}, (∀ l ∈ ls, l ≠ []) → Str.join z (ls.map (Str.join z)) = Str.join z ls.flatten
  | [], _ => rfl
  | [l], _ => by
    show Str.join z l = Str.join z (l ++ [])
    rw [List.append_nil]
  | l :: m :: r, h => by
    have ih := join_flat (z := z) (ls := m :: r) fun x hx => h x (List.mem_cons_of_mem _ hx)
    have hm : m ≠ [] := h m (by simp)
    show Str.join z l ++ z ++ Str.join z ((m :: r).map (Str.join z)) = Str.join z (l ++ (m :: r).flatten)
    rw [ih, join_app (h l List.mem_cons_self) (by rw [List.flatten_cons]; exact fun e => hm (List.append_eq_nil_iff.mp e).1)]
theorem join_len {z : Str} {m : Nat} (hz : z.length = 1) : ∀ {l : List Str}, (∀ x ∈ l, x.length ≤ m) → (Str.join z l).length ≤ (m + 1) * l.length
  | [], _ => Nat.zero_le _
  | [x], h => by
    have := h x List.mem_cons_self
    show x.length ≤ (m + 1) * 1
    omega
  | x :: y :: r, h => by
    have ih := join_len (z := z) (m := m) hz (l := y :: r) fun q hq => h q (List.mem_cons_of_mem _ hq)
    have h1 := h x List.mem_cons_self
    show (x ++ z ++ Str.join z (y :: r)).length ≤ (m + 1) * (r.length + 1 + 1)
    rw [Str.length_append, Str.length_append, hz]
    have e : (y :: r).length = r.length + 1 := rfl
    rw [e] at ih
    have e2 : (m + 1) * (r.length + 1 + 1) = (m + 1) * (r.length + 1) + (m + 1) := Nat.mul_succ _ _
    omega
def tS (d : Nat) (s : Sch) : Str := Str.join " " ((nS d s).map wd)
theorem tx_len : ∀ n : Int, 0 ≤ n → n ≤ 30 → (tx n).length ≤ 2 := by
  intro n h0 h1
  have key : ∀ k : Nat, k < 31 → (tx ((k : Nat) : Int)).length ≤ 2 := by decide +kernel
  obtain ⟨k, rfl⟩ : ∃ k : Nat, n = (k : Int) := ⟨n.toNat, by omega⟩
  exact key k (by omega)
theorem name_len : ∀ s : Sch, (nameOf s).length ≤ 6 := by
  intro s
  cases s <;> first
    | exact (by decide : ("step" : Str).length ≤ 6)
    | exact (by decide : ("all" : Str).length ≤ 6)
    | exact (by decide : ("best" : Str).length ≤ 6)
    | exact (by decide : ("most" : Str).length ≤ 6)
    | exact (by decide : ("half" : Str).length ≤ 6)
    | exact (by decide : ("seen" : Str).length ≤ 6)
    | exact (by decide : ("behind" : Str).length ≤ 6)
    | exact (by decide : ("carry" : Str).length ≤ 6)
    | exact (by decide : ("end" : Str).length ≤ 6)
    | exact (by decide : ("use" : Str).length ≤ 6)
theorem wd_len {i M : Nat} {p : Pt} (o : OkP i M p) : (wd p).length ≤ 6 := by
  cases p with
  | sch d s => exact name_len s
  | schs d ks =>
    have h := o.2.1
    exact Nat.le_trans (tx_len _ (by omega) (by omega)) (by decide)
  | word x => rw [show (wd (.word x)).length = 1 from IsW.len o]; decide
  | num n k => exact Nat.le_trans (tx_len n o.1 o.2.1) (by decide)
theorem nS_ok {i M : Nat} (hM : M ≤ 5) {d : Nat} {s : Sch} (o : OkS i M d s) : ∀ p ∈ nS d s, OkP i M p := fun p hp => by
  obtain ⟨f, _, _, h⟩ := run_chain (i := i) (M := M) hM (run_sch o .nil) (fun q hq => by rw [List.mem_singleton.mp hq]; exact o)
  rw [List.append_nil] at h
  obtain ⟨j, hj⟩ := List.mem_iff_getElem?.mp hp
  exact (h j p hj).1
theorem nS_ne {i M : Nat} {d : Nat} {s : Sch} (o : OkS i M d s) : nS d s ≠ [] := by
  cases d with
  | zero => exact o.elim
  | succ d => exact fun e => nomatch e
theorem words_ok {i M : Nat} (hM : M ≤ 5) {d : Nat} {s : Sch} (o : OkS i M d s) : ∀ x ∈ (nS d s).map wd, x.length ≤ 6 := fun x hx => by
  obtain ⟨p, hp, rfl⟩ := List.mem_map.mp hx
  exact wd_len (nS_ok hM o p hp)
theorem tS_len {i M : Nat} (hM : M ≤ 5) {d : Nat} {s : Sch} (hd : d ≤ 5) (o : OkS i M d s) : (tS d s).length ≤ 7 * 938 := by
  have h1 := join_len (z := " ") (m := 6) rfl (words_ok hM o)
  have h2 := nS_len o
  have h3 := most_mono hd
  rw [List.length_map] at h1
  unfold tS
  omega
/-- a part's own text -/
def tP (d : Nat) (p : Pt) : Str := Str.join " " ((nP (nS d) p).map wd)
theorem tS_of {i M d : Nat} {s : Sch} (hM : M ≤ 5) (o : OkS i M (d + 1) s) (na : ∀ p ∈ partsP d s, ∀ d' ks, p ≠ .schs d' ks) : tS (d + 1) s = Str.join " " (nameOf s :: (partsP d s).map (tP d)) := by
  have e : (nameOf s :: (partsP d s).map (tP d)) = ([nameOf s] :: (partsP d s).map fun p => (nP (nS d) p).map wd).map (Str.join " ") := by
    rw [List.map_cons, List.map_map]
    rfl
  rw [e, join_flat]
  · unfold tS
    show Str.join " " (nameOf s :: (((partsP d s).map (nP (nS d))).flatten).map wd) = Str.join " " ([nameOf s] ++ ((partsP d s).map fun p => (nP (nS d) p).map wd).flatten)
    rw [List.map_flatten, List.map_map]
    rfl
  · intro l hl
    rcases List.mem_cons.mp hl with rfl | hl
    · exact fun e => nomatch e
    · obtain ⟨p, hp, rfl⟩ := List.mem_map.mp hl
      have op := parts_ok hM o p hp
      cases p with
      | sch d' s' =>
        obtain rfl := (parts_d _ hp).1 _ _ rfl
        exact fun e => nS_ne op (List.map_eq_nil_iff.mp e)
      | schs d' ks => exact absurd rfl (na _ hp d' ks)
      | word x => exact fun e => nomatch e
      | num n k => exact fun e => nomatch e
theorem tS_many {i M d : Nat} {s : Sch} {ks : List Sch} (hs : s = .all ks ∨ s = .best ks) (o : ∀ s ∈ ks, OkS i M d s) : tS (d + 1) s = Str.join " " (nameOf s :: tx ((ks.length : Nat) : Int) :: ks.map (tS d)) := by
  have e : (nameOf s :: tx ((ks.length : Nat) : Int) :: ks.map (tS d)) = ([nameOf s] :: [tx ((ks.length : Nat) : Int)] :: ks.map fun s => (nS d s).map wd).map (Str.join " ") := by
    rw [List.map_cons, List.map_cons, List.map_map]
    rfl
  rw [e, join_flat]
  · unfold tS
    have e2 : nS (d + 1) s = .sch (d + 1) s :: .schs d ks :: (ks.map (nS d)).flatten := by
      rcases hs with rfl | rfl <;> exact congrArg (List.cons _) (List.append_nil _)
    rw [e2]
    show Str.join " " (nameOf s :: tx ((ks.length : Nat) : Int) :: ((ks.map (nS d)).flatten).map wd) = Str.join " " ([nameOf s] ++ ([tx ((ks.length : Nat) : Int)] ++ (ks.map fun s => (nS d s).map wd).flatten))
    rw [List.map_flatten, List.map_map]
    rfl
  · intro l hl
    rcases List.mem_cons.mp hl with rfl | hl
    · exact fun e => nomatch e
    · rcases List.mem_cons.mp hl with rfl | hl
      · exact fun e => nomatch e
      · obtain ⟨s', hs', rfl⟩ := List.mem_map.mp hl
        exact fun e => nS_ne (o s' hs') (List.map_eq_nil_iff.mp e)
end MS
end
section
set_option maxRecDepth 100000
set_option maxHeartbeats 4000000
namespace MS
open PySem L2
/-! ### the law's text of a scheme; written; written_work -/
def spLT (i M d : Nat) : Sp := fun vs H Q _ => ∃ (v : V) (s : Sch), vs = [v] ∧ SAt H d s v ∧ OkS i M d s ∧ ∀ H', Same H H' → Q (.str (tS d s)) H'
abbrev nmLT : List Str := ["_law_scheme_here", "_law_kid", "_law_part"]
theorem sum_map_le {f : Str → Nat} {m : Nat} : ∀ {xs : List Str}, (∀ x ∈ xs, f x ≤ m) → (xs.map f).sum ≤ xs.length * m
  | [], _ => by simp
  | x :: r, h => by
    have h1 := h x List.mem_cons_self
    have h2 := sum_map_le (f := f) (m := m) (xs := r) fun y hy => h y (List.mem_cons_of_mem _ hy)
    rw [List.map_cons, List.sum_cons, List.length_cons, Nat.succ_mul]
    omega
theorem join_fits {xs : List Str} {n m : Nat} (hl : xs.length ≤ n) (h : ∀ x ∈ xs, x.length ≤ m) (hb : n * m + n ≤ 16777216) : (xs.map (·.length)).sum + xs.length * (" " : Str).length ≤ 16777216 := by
  have h1 := sum_map_le (f := fun x : Str => x.length) (m := m) h
  have h2 : xs.length * m ≤ n * m := Nat.mul_le_mul_right _ hl
  have e : (" " : Str).length = 1 := rfl
  rw [e]
  omega
section
variable {P : Program} {w : World} {K : PySem.W.Frag} {mg : Str → Option Value} {base : Heap}
theorem lt_turn {i M d : Nat} (hM : M ≤ 5) (hd : d + 1 ≤ 5) (T : PTx w K mg) (D : Def K mg "_law_text" s_L_text ["_law_scheme_here"]) (G : FnOk P w K mg base CX0 d D.f D.fd ["_law_scheme_here"] (spLT i M d)) : FnOk P w K mg base CX0 (d + 1) D.f D.fd ["_law_scheme_here"] (spLT i M (d + 1)) := by
  have nd := sc_L_text.nd
  refine D.ok sc_L_text (fun vs H Q E h => ?_) (fun cdv A outer s H vs Q E hr h => ?_)
  · obtain ⟨v, sc, rfl, _⟩ := h
    rfl
  obtain ⟨v, sc, rfl, hs, ho, q⟩ := h
  refine ⟨_, pss_cons (ps_if (pt_cmpR op_in_seq (pe_ix ix_tup (pv 0) pe_int (fun _ _ => rfl)) (pe_tup (pa_cons pe_str (pa_cons pe_str pa_nil))) (by rfl))
      (pss_one (ps_ret (pe_join pe_str (pe_op op_cat (pe_lst (pa_cons (pe_ix ix_tup (pv 0) pe_int (fun _ _ => rfl)) (pa_cons (pe_callTy call_strX rfl (T.free "str" (by decide +kernel)) (by decide +kernel) (pa_cons (pe_callB call_len_seq rfl (T.free "len" (by decide +kernel)) PySem.boot_len (pa_cons (pe_ix ix_tup (pv 0) pe_int (fun _ _ => rfl)) pa_nil)) pa_nil)) pa_nil)))
        (pe_lc (own := [("_law_kid", 1)]) (g := gName 1) (tt := tYes) rfl nd (pi_tup (pe_ix ix_tup (pv 0) pe_int (fun _ _ => rfl))) (blkOk_by (N := nmLT) (sc := defScope s_L_text) (by decide +kernel)) (fun _ _ _ _ _ => pg_name (i := 1) nd rfl (Or.inl rfl)) (fun _ _ _ _ _ => pts_nil) (fun _ _ _ _ _ => pcall D G hr (pa_cons (pv 1) pa_nil))))))) pss_nil)
    (pss_one (ps_ret (pe_join pe_str (pe_lc (own := [("_law_part", 2)]) (g := gName 2) (tt := tYes) (te := tIf (tB (tCB (rIsi K) (tCons (tVar 2) (tCons (tC (.ty "tuple")) tNil)))) (tCall (spLT i M d) [] E0 (tCons (tVar 2) tNil)) (tCB rStrX (tCons (tVar 2) tNil))) rfl nd (pi_tup (pv 0)) (blkOk_by (N := nmLT) (sc := defScope s_L_text) (by decide +kernel)) (fun _ _ _ _ _ => pg_name (i := 2) nd rfl (Or.inl rfl)) (fun _ _ _ _ _ => pts_nil)
      (fun _ _ _ _ _ => pe_ifExp (pt_val (pe_callB call_isi rfl (T.free "isinstance" (by decide +kernel)) (by decide +kernel) (pa_cons (pv 2) (pa_cons (pe_bltn rfl (T.free "tuple" (by decide +kernel)) (by decide +kernel) (v := .ty "tuple") rfl) pa_nil)))) (pcall D G hr (pa_cons (pv 2) pa_nil)) (pe_callTy call_strX rfl (T.free "str" (by decide +kernel)) (by decide +kernel) (pa_cons (pv 2) pa_nil))))))), ?_⟩
  obtain ⟨a, rest, rfl, ea, hpp, hshape⟩ := hs.parts
  have hpo := parts_ok hM ho
  have hpd := parts_d (d := d) (s := sc)
  have inn : ∀ {b : Bool} {σ : St} {H0 : Hp}, σ[0]? = some (some (.ref a)) → H0 a = some (.tup (.str (nameOf sc) :: rest)) → inV (.str (nameOf sc)) [.str "all", .str "best"] = b → ∀ Q : Bool → Hp → Prop, (∀ H', Same H0 H' → Q b H') →
      tTest (tOp (rIn K false) (tOp (rIxT K) (tVar 0) (tC (.int 0))) (tTup (tCons (tC (.str "all")) (tCons (tC (.str "best")) tNil)))) σ H0 Q := fun {b σ H0} s0 e0 e Q q =>
    ⟨_, s0, a, _, 0, _, rfl, rfl, SqT.of e0, at0, sz2, fun t ht => ⟨t, _, rfl, .inr (SqT.of upd_same), rfl, rfl, _, rfl, by
      show Q (inV (.str (nameOf sc)) [.str "all", .str "best"]) _
      rw [e]
      exact q _ (Same.new ht)⟩⟩
  by_cases hm : ∃ ks, sc = .all ks ∨ sc = .best ks
  · obtain ⟨ks, hks⟩ := hm
    have hat : ∃ b vs, rest = [.ref b] ∧ H b = some (.tup vs) ∧ Paired (SAt H d) ks vs := by
      rcases hks with rfl | rfl
      · cases hpp with | cons h1 h => cases h; obtain ⟨b, vs, rfl, hb, hp⟩ := h1; exact ⟨b, vs, rfl, hb, hp⟩
      · cases hpp with | cons h1 h => cases h; obtain ⟨b, vs, rfl, hb, hp⟩ := h1; exact ⟨b, vs, rfl, hb, hp⟩
    have hok : 0 < ks.length ∧ ks.length ≤ 4 ∧ ∀ s ∈ ks, OkS i M d s := by
      rcases hks with rfl | rfl
      · exact ho
      · exact ho
    have hin : inV (.str (nameOf sc)) [.str "all", .str "best"] = true := by
      rcases hks with rfl | rfl
      · show inV (.str "all") [.str "all", .str "best"] = true
        decide +kernel
      · show inV (.str "best") [.str "all", .str "best"] = true
        decide +kernel
    have htS := tS_many (i := i) (M := M) (d := d) hks hok.2.2
    obtain ⟨b, vs, rfl, eb, hk⟩ := hat
    have lk := Paired.length hk
    refine seq_new (b := true) (inn rfl ea hin) (fun _ H1 s1 => ?_) (fun z => nomatch z)
    have ea1 := s1 _ _ ea
    have eb1 := s1 _ _ eb
    refine ⟨⟨_, rfl⟩, _, rfl, a, _, 0, _, rfl, rfl, SqT.of ea1, at0, _, rfl, a, _, 1, .ref b, rfl, rfl, SqT.of ea1, at1, b, vs, rfl, .inr (SqT.of eb1), .inl ⟨_, rfl, log_small (by omega) (by omega), sz2, fun p1 hp1 => ?_⟩⟩
    have s2 := s1.trans (Same.new (o := .lst [.str (nameOf sc), .str (tx ((vs.length : Nat) : Int))]) hp1)
    have e1 : upd H1 p1 (.lst [.str (nameOf sc), .str (tx ((vs.length : Nat) : Int))]) p1 = some (.lst [.str (nameOf sc), .str (tx ((vs.length : Nat) : Int))]) := upd_same
    generalize upd H1 p1 (.lst [.str (nameOf sc), .str (tx ((vs.length : Nat) : Int))]) = H2 at s2 e1 ⊢
    refine ⟨_, rfl, a, _, 1, .ref b, rfl, rfl, SqT.of (s2 _ _ ea), at1, b, rfl, ⟨_, SqT.of (s2 _ _ eb)⟩, fun Dd hD => ?_⟩
    refine lc_it (walk_tup (K := K) (a := b) (xs := vs)) (fun k H'' => H'' Dd = some (.lst ((ks.take k).map fun s => V.str (tS d s))) ∧ Same H2 H'') ⟨upd_same, Same.new hD⟩ (fun k H'' _ ⟨_, s3⟩ => SqT.of (s3 _ _ (s2 _ _ eb))) ?_ ?_
    · rintro k y H3 H4 hkl ⟨eD, s3⟩ ⟨rfl, hy⟩
      have hk2 : k < ks.length := by omega
      have ek : ks[k]? = some (ks[k]'hk2) := List.getElem?_eq_getElem hk2
      obtain ⟨y', ey, hsy⟩ := paired_get2 hk ek
      rw [hy] at ey
      cases ey
      have ok' := hok.2.2 _ (List.getElem_mem hk2)
      have htk : ks.take (k + 1) = ks.take k ++ [ks[k]'hk2] := List.take_succ_eq_append_getElem hk2
      refine ⟨rfl, _, rfl, y, _, rfl, hsy.keep (Same.tupK (s2.trans s3)), ok', fun H5 s5 => ⟨_, s5 _ _ eD, ?_, ?_, Same.newer (s3.trans s5) hD⟩⟩
      · rw [List.length_map, List.length_take]
        exact small1000 (by omega)
      · rw [upd_same, htk, List.map_append]
        rfl
    · rintro H3 ⟨eD, s3⟩
      rw [← lk, List.take_length] at eD
      refine ⟨p1, Dd, _, _, rfl, rfl, s3 _ _ e1, eD, szN (by show 2 + _ ≤ 1000; rw [List.length_map]; omega), fun p3 hp3 => ?_⟩
      refine ⟨" ", p3, nameOf sc :: tx ((ks.length : Nat) : Int) :: ks.map (tS d), rfl, rfl, .inl (SqL.of ?_), ?_, ?_⟩
      · rw [upd_same, lk, List.map_cons, List.map_cons, List.map_map]
        rfl
      · refine join_fits (n := 6) (m := 6566) (by rw [List.length_cons, List.length_cons, List.length_map]; omega) (fun x hx => ?_) (by decide)
        rcases List.mem_cons.mp hx with rfl | hx
        · exact Nat.le_trans (name_len _) (by decide)
        · rcases List.mem_cons.mp hx with rfl | hx
          · exact Nat.le_trans (tx_len _ (by omega) (by omega)) (by decide)
          · obtain ⟨s', hs', rfl⟩ := List.mem_map.mp hx
            exact tS_len hM (by omega) (hok.2.2 s' hs')
      · rw [TL.join_eq, ← htS]
        exact q _ ((s2.trans s3).trans (Same.new hp3))
  · have hna : ∀ p ∈ partsP d sc, ∀ d' ks, p ≠ .schs d' ks := by
      intro p hp d' ks e
      subst e
      cases sc <;> simp [partsP] at hp
      · exact hm ⟨_, .inl rfl⟩
      · exact hm ⟨_, .inr rfl⟩
    have hin : inV (.str (nameOf sc)) [.str "all", .str "best"] = false := by
      cases sc with
      | all k => exact absurd ⟨_, .inl rfl⟩ hm
      | best k => exact absurd ⟨_, .inr rfl⟩ hm
      | step x p => show inV (.str "step") [.str "all", .str "best"] = false; decide +kernel
      | most n s => show inV (.str "most") [.str "all", .str "best"] = false; decide +kernel
      | half s => show inV (.str "half") [.str "all", .str "best"] = false; decide +kernel
      | seen x s => show inV (.str "seen") [.str "all", .str "best"] = false; decide +kernel
      | behind x s => show inV (.str "behind") [.str "all", .str "best"] = false; decide +kernel
      | carry s => show inV (.str "carry") [.str "all", .str "best"] = false; decide +kernel
      | fin x p s => show inV (.str "end") [.str "all", .str "best"] = false; decide +kernel
      | use n => show inV (.str "use") [.str "all", .str "best"] = false; decide +kernel
    have htS := tS_of hM ho hna
    have lps := Paired.length hpp
    have lp3 : (partsP d sc).length ≤ 3 := by
      have z : ∀ p ∈ shapesL, p.2.length ≤ 3 := by decide +kernel
      have := z _ hshape
      rw [List.length_map] at this
      exact this
    have hlen : ∀ x ∈ nameOf sc :: (partsP d sc).map (tP d), x.length ≤ 6566 := by
      intro x hx
      rcases List.mem_cons.mp hx with rfl | hx
      · exact Nat.le_trans (name_len _) (by decide)
      · obtain ⟨p, hp, rfl⟩ := List.mem_map.mp hx
        have op := hpo p hp
        cases p with
        | sch d' s' =>
          obtain rfl := (hpd _ hp).1 _ _ rfl
          exact tS_len hM (by omega) op
        | schs d' ks => exact absurd rfl (hna _ hp d' ks)
        | word x => show x.length ≤ 6566; rw [IsW.len op]; decide
        | num n k => exact Nat.le_trans (tx_len n op.1 op.2.1) (by decide)
    refine seq_new (b := false) (inn rfl ea hin) (fun z => nomatch z) (fun _ H1 s1 => ?_)
    refine ⟨⟨_, rfl⟩, _, rfl, a, rfl, ⟨_, SqT.of (s1 _ _ ea)⟩, fun Dd hD => ?_⟩
    have sz : (V.str (nameOf sc) :: rest).length = (nameOf sc :: (partsP d sc).map (tP d)).length := by
      rw [List.length_cons, List.length_cons, List.length_map, lps]
    refine lc_it (walk_tup (K := K) (a := a) (xs := V.str (nameOf sc) :: rest)) (fun k H'' => H'' Dd = some (.lst (((nameOf sc :: (partsP d sc).map (tP d)).take k).map V.str)) ∧ Same H1 H'') ⟨upd_same, Same.new hD⟩ (fun k H'' _ ⟨_, s3⟩ => SqT.of (s3 _ _ (s1 _ _ ea))) ?_ ?_
    · rintro k y H3 H4 hkl ⟨eD, s3⟩ ⟨rfl, hy⟩
      have fin : ∀ (z : Str) (H5 : Hp), (nameOf sc :: (partsP d sc).map (tP d))[k]? = some z → Same H4 H5 → ∃ acc, H5 Dd = some (.lst acc) ∧ acc.length < sizeLine ∧ (upd H5 Dd (.lst (acc ++ [V.str z])) Dd = some (.lst (((nameOf sc :: (partsP d sc).map (tP d)).take (k + 1)).map V.str)) ∧ Same H1 (upd H5 Dd (.lst (acc ++ [V.str z])))) := fun z H5 ez s5 =>
        ⟨_, s5 _ _ eD, by
          rw [List.length_map, List.length_take]
          rw [sz] at hkl
          rw [List.length_cons, List.length_map] at hkl ⊢
          exact small1000 (by omega), by rw [upd_same, List.take_succ, ez, List.map_append]; rfl, Same.newer (s3.trans s5) hD⟩
      cases k with
      | zero =>
        obtain rfl : V.str (nameOf sc) = y := by simpa using hy
        refine ⟨rfl, _, rfl, _, .ty "tuple", .type "str", .type "tuple", false, rfl, .ty _, .base (.str _), kit_ty (by decide +kernel), _, rfl, iteF ?_⟩
        exact ⟨_, rfl, .inr ⟨_, rfl, fin _ _ rfl (Same.refl _)⟩⟩
      | succ j =>
        have hy : rest[j]? = some y := by simpa using hy
        obtain ⟨p, ep, hat⟩ := paired_get' hpp hy
        have hmem := List.mem_of_getElem? ep
        have op := hpo p hmem
        have ez : (nameOf sc :: (partsP d sc).map (tP d))[j + 1]? = some (tP d p) := by
          rw [List.getElem?_cons_succ, List.getElem?_map, ep]
          rfl
        cases p with
        | schs d' ks => exact absurd rfl (hna _ hmem d' ks)
        | sch d' s' =>
          obtain rfl := (hpd _ hmem).1 _ _ rfl
          have hat4 : SAt H4 d' s' y := SAt.keep (Same.tupK (s1.trans s3)) _ _ _ hat
          have htag : ∃ a' xs', y = .ref a' ∧ H4 a' = some (.tup xs') := by
            cases d' with
            | zero => exact hat4.elim
            | succ e =>
              obtain ⟨a', rest', e1, e2, _⟩ := hat4.parts
              exact ⟨a', _, e1, e2⟩
          obtain ⟨a', xs', rfl, ea'⟩ := htag
          refine ⟨rfl, _, rfl, _, .ty "tuple", .type "tuple", .type "tuple", true, rfl, .ty _, .base (.tup ea'), kit_ty (by decide +kernel), _, rfl, iteT ?_⟩
          exact ⟨_, rfl, _, s', rfl, hat4, op, fun H5 s5 => fin _ _ ez s5⟩
        | word x =>
          obtain rfl : y = .str x := hat
          refine ⟨rfl, _, rfl, _, .ty "tuple", .type "str", .type "tuple", false, rfl, .ty _, .base (.str _), kit_ty (by decide +kernel), _, rfl, iteF ?_⟩
          exact ⟨_, rfl, .inr ⟨_, rfl, fin _ _ ez (Same.refl _)⟩⟩
        | num n k =>
          obtain rfl : y = .int n := hat
          refine ⟨rfl, _, rfl, _, .ty "tuple", .type "int", .type "tuple", false, rfl, .ty _, .base (.int _), kit_ty (by decide +kernel), _, rfl, iteF ?_⟩
          exact ⟨_, rfl, .inl ⟨_, rfl, log_small op.1 op.2.1, fin _ _ ez (Same.refl _)⟩⟩
    · rintro H3 ⟨eD, s3⟩
      rw [sz, List.take_length] at eD
      refine ⟨" ", Dd, _, rfl, rfl, .inl (SqL.of eD), join_fits (n := 6) (m := 6566) (by rw [List.length_cons, List.length_map]; omega) hlen (by decide), ?_⟩
      rw [TL.join_eq, ← htS]
      exact q _ (s1.trans s3)
theorem ok_lt {i M : Nat} (hM : M ≤ 5) (T : PTx w K mg) (D : Def K mg "_law_text" s_L_text ["_law_scheme_here"]) : ∀ d : Nat, d ≤ 5 → FnOk P w K mg base CX0 d D.f D.fd ["_law_scheme_here"] (spLT i M d)
  | 0, _ => by
    have e : spLT i M 0 = fun _ _ _ _ => False := by
      funext vs H Q E
      refine propext ⟨fun h => ?_, fun h => h.elim⟩
      obtain ⟨_, _, _, h, _⟩ := h
      exact h
    rw [e]
    exact no_sp
  | d + 1, h => lt_turn hM h T D (ok_lt hM T D d (by omega))
end
end MS
end
section
set_option maxRecDepth 100000
set_option maxHeartbeats 4000000
namespace MS
open PySem L2
/-! ### reading: what can stand, what comes -/
theorem tx_facts : ∀ n : Int, 0 ≤ n → n ≤ 30 → Txt.isdecimal (tx n) = true ∧ (tx n).length ≤ 2 ∧ PySem.intText? (tx n) = some n := by
  intro n h0 h1
  have key : ∀ k : Nat, k < 31 → Txt.isdecimal (tx ((k : Nat) : Int)) = true ∧ (tx ((k : Nat) : Int)).length ≤ 2 ∧ PySem.intText? (tx ((k : Nat) : Int)) = some ((k : Nat) : Int) := by decide +kernel
  obtain ⟨k, rfl⟩ : ∃ k : Nat, n = (k : Int) := ⟨n.toNat, by omega⟩
  exact key k (by omega)
theorem rep_map {d : Nat} : ∀ ks : List Sch, List.replicate ks.length (V.str "scheme") = ks.map ((fun q => V.str (kd q)) ∘ Pt.sch d)
  | [] => rfl
  | s :: r => congrArg (List.cons _) (rep_map r)
def spFig : Sp := fun vs H Q _ => ∃ n : Int, vs = [.str (tx n)] ∧ 0 ≤ n ∧ n ≤ 30 ∧ Q (.bl true) H
def spStand (i M : Nat) : Sp := fun vs H Q _ => ∃ p : Pt, vs = [.str (wd p), .str (kd p)] ∧ OkP i M p ∧ Q (.bl true) H
def spComing (i M : Nat) : Sp := fun vs H Q _ => ∃ p : Pt, vs = [.str (wd p), .str (kd p)] ∧ OkP i M p ∧ ∀ (f : Addr) (H' : Hp), Same H H' → H f = none → H' f = some (.lst ((nextP p).map fun q => V.str (kd q))) → Q (.ref f) H'
section
variable {P : Program} {w : World} {K : PySem.W.Frag} {mg : Str → Option Value} {base : Heap}
theorem ok_figures (T : PTx w K mg) (gF : ∃ t, mg "MOST_FIGURES" = some (.int 2 t)) (D : Def K mg "is_figures" s_is_figures ["word"]) : FnOk P w K mg base CX0 1 D.f D.fd ["word"] spFig := by
  obtain ⟨tF, gF⟩ := gF
  refine D.ok sc_is_figures (fun vs H Q E h => ?_) (fun cdv A outer s H vs Q E hr h => ?_)
  · obtain ⟨n, rfl, _⟩ := h
    rfl
  obtain ⟨n, rfl, h0, h1, q⟩ := h
  refine ⟨_, pss_one (ps_ret (pe_and (pe_m0 PySem.F.slot_str_isdecimal PySem.F.type_str_isdecimal mt_isdecimal (pv 0)) (pe_and (pe_cmpR op_le (pe_callB call_len_str rfl (T.free "len" (by decide +kernel)) PySem.boot_len (pa_cons (pv 0) pa_nil)) (pe_glob rfl gF (v := .int 2) ⟨_, rfl⟩) (nomark _))
    (pe_one (pe_cmpR op_eq (pe_callTy call_str_int rfl (T.free "str" (by decide +kernel)) (by decide +kernel) (pa_cons (pe_callTy call_int_str rfl (T.free "int" (by decide +kernel)) (by decide +kernel) (pa_cons (pv 0) pa_nil)) pa_nil)) (pv 0) (nomark _)))))), ?_⟩
  obtain ⟨f1, f2, f3⟩ := tx_facts n h0 h1
  refine ⟨_, rfl, ⟨_, rfl⟩, _, rfl, rfl, trivial, _, rfl, ?_⟩
  rw [f1]
  refine iteT ⟨_, rfl, _, rfl, szN (by omega), _, _, rfl, rfl, _, rfl, ?_⟩
  rw [decide_eq_true (by omega)]
  refine iteT ⟨_, rfl, _, n, rfl, f3, by omega, n, rfl, log_small h0 h1, _, rfl, rfl, ?_⟩
  rw [show decide (V.str (toString n) = V.str (tx n)) = true from decide_eq_true rfl]
  exact q
theorem ok_stand {i M : Nat} (hM : M ≤ 5) (T : PTx w K mg) (gF : ∃ t, mg "MOST_FIGURES" = some (.int 2 t)) (D : Def K mg "can_stand" s_can_stand ["word", "kind"]) (DF : Def K mg "is_figures" s_is_figures ["word"]) : FnOk P w K mg base CX0 2 D.f D.fd ["word", "kind"] (spStand i M) := by
  have GF : FnOk P w K mg base CX0 1 DF.f DF.fd ["word"] spFig := ok_figures T gF DF
  obtain ⟨aS, gS, low, hS⟩ := T.shapes
  obtain ⟨aW, gW, qW⟩ := T.words
  have hdict : ∃ es n, KDict K w aS es n := by
    obtain ⟨t, ⟨es, n, u, hl, hk, _⟩, _⟩ := hS ("step", ["word", "points"]) (by decide +kernel)
    exact ⟨es, n, hl, hk, low⟩
  obtain ⟨es, en, KD⟩ := hdict
  refine D.ok sc_can_stand (fun vs H Q E h => ?_) (fun cdv A outer s H vs Q E hr h => ?_)
  · obtain ⟨p, rfl, _⟩ := h
    rfl
  obtain ⟨p, rfl, o, q⟩ := h
  refine ⟨_, pss_cons (ps_if (pt_cmpR op_eq (pv 1) pe_str (nomark _)) (pss_one (ps_ret (pe_cmpR (op_in_kd KD) (pv 0) (pe_glob rfl gS (v := .ref aS) rfl) (by rfl)))) pss_nil)
    (pss_one (ps_ret (pe_ifExp (pt_cmpR op_eq (pv 1) pe_str (nomark _)) (pe_cmpR op_in_seq (pv 0) (pe_glob rfl gW (v := .ref aW) rfl) (by rfl)) (pcall DF GF hr (pa_cons (pv 0) pa_nil))))), ?_⟩
  cases p with
  | sch d s =>
    refine seq_if (b := true) (is_word rfl (by show (("scheme" : Str) == "scheme") = true; decide +kernel)) (fun _ => ?_) (fun z => nomatch z)
    obtain ⟨t, ⟨es', n', u, hl, hk, hu, _⟩, _⟩ := hS _ (shape_of (d := d) s)
    exact ⟨_, rfl, _, some u, rfl, rfl, hu, q⟩
  | schs d ks =>
    refine seq_if (b := false) (is_word rfl (by show (("schemes" : Str) == "scheme") = false; decide +kernel)) (fun z => nomatch z) (fun _ => ?_)
    refine is_word (b := false) rfl (by show (("schemes" : Str) == "word") = false; decide +kernel) _ (iteF ?_)
    have h4 := o.2.1
    exact ⟨_, rfl, _, rfl, by omega, by omega, q⟩
  | word x =>
    refine seq_if (b := false) (is_word rfl (by show (("word" : Str) == "scheme") = false; decide +kernel)) (fun z => nomatch z) (fun _ => ?_)
    refine is_word (b := true) rfl (by show (("word" : Str) == "word") = true; decide +kernel) _ (iteT ?_)
    refine ⟨_, rfl, aW, _, rfl, .inr (qW _), rfl, by decide +kernel, ?_⟩
    show Q (.bl (inV (.str x) (wordsL.map V.str))) _
    rw [inV_words o]
    exact q
  | num n k =>
    obtain ⟨n0, n1, hk⟩ := o
    refine seq_if (b := false) (is_word rfl (by show (k == "scheme") = false; rcases hk with rfl | rfl | rfl <;> decide +kernel)) (fun z => nomatch z) (fun _ => ?_)
    refine is_word (b := false) rfl (by show (k == "word") = false; rcases hk with rfl | rfl | rfl <;> decide +kernel) _ (iteF ?_)
    exact ⟨_, rfl, n, rfl, n0, n1, q⟩
theorem ok_coming {i M : Nat} (T : PTx w K mg) (D : Def K mg "coming" s_coming ["word", "kind"]) : FnOk P w K mg base CX0 1 D.f D.fd ["word", "kind"] (spComing i M) := by
  obtain ⟨aS, gS, low, hS⟩ := T.shapes
  refine D.ok sc_coming (fun vs H Q E h => ?_) (fun cdv A outer s H vs Q E hr h => ?_)
  · obtain ⟨p, rfl, _⟩ := h
    rfl
  obtain ⟨p, rfl, o, q⟩ := h
  refine ⟨_, pss_cons (ps_if (pt_cmpR op_eq (pv 1) pe_str (nomark _)) (pss_one (ps_ret (pe_callTy call_list_of rfl (T.free "list" (by decide +kernel)) (by decide +kernel) (pa_cons (pe_ix ix_kdict (pe_glob rfl gS (v := .ref aS) rfl) (pv 0) (fun _ _ => rfl)) pa_nil)))) pss_nil)
    (pss_one (ps_ret (pe_ifExp (pt_cmpR op_eq (pv 1) pe_str (nomark _)) (pe_op op_rep (pe_lst (pa_cons pe_str pa_nil)) (pe_callTy call_int_str rfl (T.free "int" (by decide +kernel)) (by decide +kernel) (pa_cons (pv 0) pa_nil))) (pe_lst pa_nil)))), ?_⟩
  cases p with
  | sch d s =>
    refine seq_if (b := true) (is_word rfl (by show (("scheme" : Str) == "scheme") = true; decide +kernel)) (fun _ => ?_) (fun z => nomatch z)
    cases d with
    | zero => exact (show False from o).elim
    | succ d =>
      obtain ⟨t, kdk, qt⟩ := hS _ (shape_of (d := d) s)
      refine ⟨_, rfl, aS, nameOf s, .ref t, rfl, rfl, kdk, t, _, rfl, .inr (qt _), fun f hf => q f _ (Same.new hf) hf ?_⟩
      rw [upd_same]
      show some (HO.lst (((partsP d s).map kd).map V.str)) = some (HO.lst ((partsP d s).map fun q => V.str (kd q)))
      rw [List.map_map]
      rfl
  | schs d ks =>
    refine seq_if (b := false) (is_word rfl (by show (("schemes" : Str) == "scheme") = false; decide +kernel)) (fun z => nomatch z) (fun _ => ?_)
    refine is_word (b := true) rfl (by show (("schemes" : Str) == "schemes") = true; decide +kernel) _ (iteT ?_)
    have h4 := o.2.1
    obtain ⟨f1, f2, f3⟩ := tx_facts ((ks.length : Nat) : Int) (by omega) (by omega)
    refine ⟨(by show 1 ≤ sizeLine; decide), fun p0 hp0 => ?_⟩
    refine ⟨_, rfl, _, _, rfl, f3, by show (tx _).length ≤ 640; omega, p0, _, _, rfl, rfl, upd_same, by omega, by omega, szN (by show 1 * _ ≤ 1000; omega), fun f hf => q f _ ((Same.new hp0).trans (Same.new hf)) ((Same.new hp0).free hf) ?_⟩
    rw [upd_same, flat_rep]
    show some (HO.lst (List.replicate ks.length (V.str "scheme"))) = some (HO.lst ((ks.map (Pt.sch d)).map fun q => V.str (kd q)))
    rw [List.map_map]
    exact congrArg (fun z => some (HO.lst z)) (rep_map ks)
  | word x =>
    refine seq_if (b := false) (is_word rfl (by show (("word" : Str) == "scheme") = false; decide +kernel)) (fun z => nomatch z) (fun _ => ?_)
    refine is_word (b := false) rfl (by show (("word" : Str) == "schemes") = false; decide +kernel) _ (iteF ?_)
    exact ⟨Nat.zero_le _, fun f hf => q f _ (Same.new hf) hf upd_same⟩
  | num n k =>
    obtain ⟨n0, n1, hk⟩ := o
    refine seq_if (b := false) (is_word rfl (by show (k == "scheme") = false; rcases hk with rfl | rfl | rfl <;> decide +kernel)) (fun z => nomatch z) (fun _ => ?_)
    refine is_word (b := false) rfl (by show (k == "schemes") = false; rcases hk with rfl | rfl | rfl <;> decide +kernel) _ (iteF ?_)
    exact ⟨Nat.zero_le _, fun f hf => q f _ (Same.new hf) hf upd_same⟩
end
end MS
end
section
set_option maxRecDepth 100000
set_option maxHeartbeats 4000000
namespace MS
open PySem L2
/-! ### taken, kinds_in -/
theorem at_last (xs : List V) (x : V) : atI (xs ++ [x]) (-1) = some x := atI_last xs x
theorem pop_last (xs : List V) (x : V) : (xs ++ [x])[(xs ++ [x]).length - 1]? = some x := by
  rw [List.length_append, List.length_singleton]
  simp
def spTaken : Sp := fun vs H Q _ => ∃ (pl : Addr) (us rs : List V), vs = [.ref pl, .int ((us.length : Nat) : Int)] ∧ H pl = some (.lst (us ++ rs).reverse) ∧ us.length ≤ 4 ∧ us ≠ [] ∧ ∀ (t : Addr) (H' : Hp), Keep [pl] H H' → H' pl = some (.lst rs.reverse) → H t = none → H' t = some (.tup us) → Q (.ref t) H'
def spKinds (i M : Nat) : Sp := fun vs H Q _ => ∃ (wl : Addr) (st : Nat) (d : Nat) (s : Sch), vs = [.ref wl, .int ((st : Nat) : Int)] ∧ st ≤ 100000 ∧ d ≤ 5 ∧ OkS i M d s ∧ H wl = some (.lst (wordsV (nS d s))) ∧ ∀ (f : Addr) (H' : Hp), Same H H' → H f = none → H' f = some (.lst ((nS d s).map fun q => V.str (kd q))) → Q (.ref f) H'
section
variable {P : Program} {w : World} {K : PySem.W.Frag} {mg : Str → Option Value} {base : Heap}
theorem ok_taken (T : PTx w K mg) (D : Def K mg "taken" s_taken ["parts", "many"]) : FnOk P w K mg base CX0 1 D.f D.fd ["parts", "many"] spTaken := by
  have nd := sc_taken.nd
  refine D.ok sc_taken (fun vs H Q E h => ?_) (fun cdv A outer s H vs Q E hr h => ?_)
  · obtain ⟨pl, us, rs, rfl, _⟩ := h
    rfl
  obtain ⟨pl, us, rs, rfl, ep, h4, hne, q⟩ := h
  refine ⟨_, pss_cons (ps_set (i := 2) nd rfl (Or.inl rfl) (pe_lst pa_nil))
    (pss_cons (ps_for PassesOwn.never rfl (pi_range1 rfl (T.free "range" (by decide +kernel)) (pa_cons (pv 1) pa_nil)) (pg_name (i := 3) nd rfl (Or.inl rfl))
      (pss_one (ps_expr (pe_bm PySem.F.plainAttrs_list PySem.F.slot_list_append PySem.F.type_list_append mt_append (pv 2) (pa_cons (pe_bm0 PySem.F.plainAttrs_list PySem.F.slot_list_pop PySem.F.type_list_pop mt_pop (pv 0)) pa_nil)))))
    (pss_one (ps_ret (pe_callTy call_tuple_of rfl (T.free "tuple" (by decide +kernel)) (by decide +kernel) (pa_cons (pv 2) pa_nil))))), ?_⟩
  refine ⟨Nat.zero_le _, fun f hf => ?_⟩
  have npf : pl ≠ f := ne_of_none ep hf
  dsimp only [gName]
  refine ⟨_, rfl, _, rfl, by omega, by omega, ?_⟩
  rw [Int.toNat_natCast]
  refine for_range (lo := 0) (n := us.length) (fun j σ H' => ∃ v3 : Option V, σ = [some (.ref pl), some (.int ((us.length : Nat) : Int)), some (.ref f), v3] ∧ H' f = some (.lst (us.take j)) ∧ H' pl = some (.lst (us.drop j ++ rs).reverse) ∧ Keep [pl] H H')
    ⟨none, rfl, upd_same, by rw [upd_ne npf]; exact ep, Keep.new hf⟩ ?_ ?_
  · rintro j σ H1 hj ⟨v3, rfl, ef, ep1, k1⟩
    have ed : (us.drop j ++ rs).reverse = (us.drop (j + 1) ++ rs).reverse ++ [us[j]'hj] := by
      rw [List.drop_eq_getElem_cons hj, List.cons_append, List.reverse_cons]
    rw [ed] at ep1
    dsimp only [gName]
    refine ⟨_, rfl, .inl ⟨rfl, _, SqL.of ef⟩, _, rfl, .inl ⟨rfl, _, SqL.of ep1⟩, pl, _, _, rfl, rfl, ep1, pop_last _ _, f, _, _, rfl, rfl, (by rw [upd_ne npf.symm]; exact ef), small1000 (by rw [List.length_take]; omega), ?_⟩
    refine ⟨_, rfl, ?_, ?_, (k1.trans (Keep.put (List.mem_singleton.mpr rfl))).newer hf⟩
    · rw [upd_same, List.take_succ_eq_append_getElem hj]
    · rw [upd_ne npf, upd_same, List.dropLast_concat]
  · rintro σ H1 ⟨v3, rfl, ef, ep1, k1⟩
    rw [List.take_length] at ef
    rw [List.drop_length, List.nil_append] at ep1
    have hS : ∀ x ∈ [pl], H x ≠ none → H1 x ≠ none := fun x hx _ => by
      rw [List.mem_singleton.mp hx, ep1]
      exact fun z => nomatch z
    exact ⟨_, rfl, f, us, rfl, .inl ⟨SqL.of ef, fun t ht => q t _ (k1.newer (k1.free ht hS)) (by rw [upd_ne (ne_of_none ep1 ht)]; exact ep1) (k1.free ht hS) upd_same⟩⟩
theorem ok_kinds {i M : Nat} (hM : M ≤ 5) (T : PTx w K mg) (gF : ∃ t, mg "MOST_FIGURES" = some (.int 2 t)) (D : Def K mg "kinds_in" s_kinds_in ["words", "start"]) (DS : Def K mg "can_stand" s_can_stand ["word", "kind"]) (DF : Def K mg "is_figures" s_is_figures ["word"]) (DC : Def K mg "coming" s_coming ["word", "kind"]) :
    FnOk P w K mg base CX0 3 D.f D.fd ["words", "start"] (spKinds i M) := by
  have GS : FnOk P w K mg base CX0 2 DS.f DS.fd ["word", "kind"] (spStand i M) := ok_stand hM T gF DS DF
  have GC : FnOk P w K mg base CX0 1 DC.f DC.fd ["word", "kind"] (spComing i M) := ok_coming T DC
  have nd := sc_kinds_in.nd
  refine D.ok sc_kinds_in (fun vs H Q E h => ?_) (fun cdv A outer s H vs Q E hr h => ?_)
  · obtain ⟨wl, st, d, s, rfl, _⟩ := h
    rfl
  obtain ⟨wl, st, d, sc, rfl, hst, hd, ho, ew, q⟩ := h
  have r1 : Room 1 _ := hr.mono (by decide)
  refine ⟨_, pss_cons (ps_set (i := 2) nd rfl (Or.inl rfl) (pe_lst pa_nil))
    (pss_cons (ps_set (i := 3) nd rfl (Or.inl rfl) (pe_lst (pa_cons pe_str pa_nil)))
    (pss_cons (ps_for PassesOwn.never rfl (XEnum.pi_enumS rfl (T.free "enumerate" (by decide +kernel)) (pa_cons (pv 0) pa_nil) (pv 1)) (pg_tup (by rfl) (pgs_cons (pg_name (i := 4) nd rfl (Or.inl rfl)) (pgs_cons (pg_name (i := 5) nd rfl (Or.inl rfl)) pgs_nil)))
      (pss_cons (ps_if (PW.pt (pw_or (pt_not (pt_truth (pv 3) (by intro _; rfl))) (pw_or1 (pt_not (pt_val (pcall DS GS hr (pa_cons (pv 5) (pa_cons (pe_ix ix_list (pv 3) (pe_un un_neg pe_int) (fun _ _ => rfl)) pa_nil)))))))) (pss_one ps_never) pss_nil)
      (pss_cons (ps_expr (pe_bm PySem.F.plainAttrs_list PySem.F.slot_list_append PySem.F.type_list_append mt_append (pv 2) (pa_cons (pe_bm0 PySem.F.plainAttrs_list PySem.F.slot_list_pop PySem.F.type_list_pop mt_pop (pv 3)) pa_nil)))
      (pss_one (ps_expr (pe_bm PySem.F.plainAttrs_list PySem.F.slot_list_extend PySem.F.type_list_extend mt_extend (pv 3) (pa_cons (pe_revL (pcall DC GC r1 (pa_cons (pv 5) (pa_cons (pe_ix ix_list (pv 2) (pe_un un_neg pe_int) (fun _ _ => rfl)) pa_nil)))) pa_nil)))))))
    (pss_cons (ps_if (pt_truth (pv 3) (by intro _; rfl)) (pss_one ps_never) pss_nil)
    (pss_one (ps_ret (pv 2)))))), ?_⟩
  obtain ⟨g, g0, g1, g2⟩ := run_chain (i := i) (M := M) hM (run_sch ho .nil) (fun q hq => by rw [List.mem_singleton.mp hq]; exact ho)
  rw [List.append_nil] at g1 g2
  have hlen : (nS d sc).length ≤ 938 := Nat.le_trans (nS_len ho) (most_mono hd)
  have lw : (wordsV (nS d sc)).length = (nS d sc).length := wordsV_len _
  generalize nS d sc = L at *
  let Kd : Pt → V := fun q => V.str (kd q)
  refine ⟨Nat.zero_le _, fun kl hkl => ?_⟩
  have s1 : Same H (upd H kl (.lst [])) := Same.new hkl
  dsimp only [gName]
  refine ⟨(by show 1 ≤ sizeLine; decide), fun dl hdl => ?_⟩
  have s2 := s1.trans (Same.new (o := .lst [.str "scheme"]) hdl)
  have ndk : dl ≠ kl := fun e => by rw [e, upd_same] at hdl; cases hdl
  have hdl0 : H dl = none := s1.free hdl
  dsimp only [gName]
  refine ⟨_, rfl, _, rfl, wl, _, _, rfl, rfl, by omega, by omega, SqL.of (s2 _ _ ew), ?_⟩
  refine for_it (XEnum.walk_enumS (K := K) (a := wl) (k := ((st : Nat) : Int)) (xs := wordsV L)) (fun j σ H' => ∃ v4 v5 : Option V, σ = [some (.ref wl), some (.int ((st : Nat) : Int)), some (.ref kl), some (.ref dl), v4, v5] ∧ H' kl = some (.lst ((L.take j).map Kd)) ∧ H' dl = some (.lst ((g j).map Kd).reverse) ∧ Same H H')
    ⟨none, none, rfl, by rw [upd_ne ndk.symm]; exact upd_same, by rw [upd_same, g0]; rfl, s2⟩ (fun j σ H' _ ⟨_, _, _, _, _, sm⟩ => SqL.of (sm _ _ ew)) ?_ ?_
  · rintro j x σ H2 H3 hj ⟨v4, v5, rfl, ek, ed, sm⟩ ⟨T1, x1, x2, rfl, hT1, rfl, ex1, ex2⟩
    rw [lw] at hj
    have ej : L[j]? = some (L[j]'hj) := List.getElem?_eq_getElem hj
    obtain ⟨op, S', e1, e2, hsl⟩ := g2 j _ ej
    have htk : L.take (j + 1) = L.take j ++ [L[j]'hj] := List.take_succ_eq_append_getElem hj
    have ex2 : (wordsV L)[j]? = some x2 := ex2
    obtain rfl : V.str (wd (L[j]'hj)) = x2 := by
      unfold wordsV at ex2
      rw [List.getElem?_map, ej] at ex2
      exact Option.some.inj ex2
    generalize L[j]'hj = pt at op e1 e2 hsl htk ex1 ex2
    have sT : Same H2 (upd H2 T1 (.tup [x1, .str (wd pt)])) := Same.new hT1
    have eT : upd H2 T1 (.tup [x1, .str (wd pt)]) T1 = some (.tup [x1, .str (wd pt)]) := upd_same
    have sm1 := sm.trans sT
    have ek1 := sT _ _ ek
    have ed1 := sT _ _ ed
    rw [e1, List.map_cons, List.reverse_cons] at ed1
    refine ⟨T1, _, rfl, SqT.of eT, rfl, _, _, rfl, _, _, rfl, rfl, ?_⟩
    dsimp only [gName]
    generalize upd H2 T1 (.tup [x1, .str (wd pt)]) = H4 at sm1 ek1 ed1
    refine seq_if (b := false || false) (ev_or (b := false) (c := false) (fun Q q => ⟨_, rfl, true, .inl ⟨_, SqL.of ed1, by simp⟩, q⟩) (fun Q q => ⟨_, rfl, _, rfl, 1, rfl, dl, _, -1, .str (kd pt), rfl, rfl, SqL.of ed1, at_last _ _, pt, rfl, op, _, rfl, q⟩)) (fun z => nomatch z) (fun _ => ?_)
    refine ⟨_, rfl, .inl ⟨rfl, _, SqL.of ek1⟩, _, rfl, .inl ⟨rfl, _, SqL.of ed1⟩, dl, _, _, rfl, rfl, ed1, pop_last _ _, kl, _, _, rfl, rfl, (by rw [upd_ne ndk.symm]; exact ek1), small1000 (by rw [List.length_map, List.length_take]; omega), ?_⟩
    have s5 : Same H (upd (upd H4 dl (.lst ((S'.map Kd).reverse ++ [Kd pt]).dropLast)) kl (.lst ((L.take j).map Kd ++ [Kd pt]))) := Same.newer (Same.newer sm1 hdl0) hkl
    have ek5 : upd (upd H4 dl (.lst ((S'.map Kd).reverse ++ [Kd pt]).dropLast)) kl (.lst ((L.take j).map Kd ++ [Kd pt])) kl = some (.lst ((L.take j).map Kd ++ [Kd pt])) := upd_same
    have ed5 : upd (upd H4 dl (.lst ((S'.map Kd).reverse ++ [Kd pt]).dropLast)) kl (.lst ((L.take j).map Kd ++ [Kd pt])) dl = some (.lst (S'.map Kd).reverse) := by rw [upd_ne ndk, upd_same, List.dropLast_concat]
    dsimp only
    refine ⟨_, rfl, .inl ⟨rfl, _, SqL.of ed5⟩, _, rfl, _, rfl, 1, rfl, kl, _, -1, .str (kd pt), rfl, rfl, SqL.of ek5, at_last _ _, pt, rfl, op, fun f H6 s6 hf ef => ⟨f, _, rfl, SqL.of ef, fun p hp => ?_⟩⟩
    have ed6 := Same.new (o := .lst ((nextP pt).map Kd).reverse) hp _ _ (s6 _ _ ed5)
    have ek6 := Same.new (o := .lst ((nextP pt).map Kd).reverse) hp _ _ (s6 _ _ ek5)
    rw [List.length_append] at hsl
    refine ⟨dl, p, _, _, rfl, rfl, ed6, upd_same, szN (by rw [List.length_reverse, List.length_reverse, List.length_map, List.length_map]; omega), ?_⟩
    refine ⟨_, _, rfl, ?_, ?_, Same.newer ((s5.trans s6).trans (Same.new hp)) hdl0⟩
    · rw [upd_ne ndk.symm, htk, List.map_append]
      exact ek6
    · rw [upd_same, e2, List.map_append, List.reverse_append]
  · rintro σ H2 ⟨v4, v5, rfl, ek, ed, sm⟩
    rw [lw, List.take_length] at ek
    rw [lw, g1] at ed
    dsimp only
    refine seq_if (b := false) (fun Q q => ⟨_, rfl, false, .inl ⟨_, SqL.of ed, rfl⟩, q⟩) (fun z => nomatch z) (fun _ => ?_)
    exact ⟨_, rfl, q kl H2 sm hkl ek⟩
end
end MS
end
section
set_option maxRecDepth 100000
set_option maxHeartbeats 4000000
namespace MS
open PySem L2
/-! ### scheme_of -/
theorem paired_split {α β : Type} {R : α → β → Prop} : ∀ {xs ys : List α} {zs : List β}, Paired R (xs ++ ys) zs → ∃ z1 z2, zs = z1 ++ z2 ∧ Paired R xs z1 ∧ Paired R ys z2
  | [], _, zs, h => ⟨[], zs, rfl, .nil, h⟩
  | x :: xs, ys, _, .cons r t => by
    obtain ⟨z1, z2, e, h1, h2⟩ := paired_split (xs := xs) (ys := ys) t
    exact ⟨_ :: z1, z2, by rw [e]; rfl, .cons r h1, h2⟩
theorem paired_sch {H : Hp} {d : Nat} : ∀ {ks : List Sch} {us : List V}, Paired (PAt H) (ks.map (Pt.sch d)) us → Paired (SAt H d) ks us
  | [], _, .nil => .nil
  | _ :: _, _, .cons r t => .cons r (paired_sch t)
def spSchemeOf (i M : Nat) : Sp := fun vs H Q _ => ∃ (wl kl : Addr) (d : Nat) (s : Sch), vs = [.ref wl, .ref kl] ∧ d ≤ 5 ∧ OkS i M d s ∧ H wl = some (.lst (wordsV (nS d s))) ∧ H kl = some (.lst ((nS d s).map fun q => V.str (kd q))) ∧ ∀ (v : V) (H' : Hp), Same H H' → SAt H' d s v → Q v H'
section
variable {P : Program} {w : World} {K : PySem.W.Frag} {mg : Str → Option Value} {base : Heap}
theorem ok_scheme_of {i M : Nat} (hM : M ≤ 5) (T : PTx w K mg) (D : Def K mg "scheme_of" s_scheme_of ["words", "kinds"]) (DT : Def K mg "taken" s_taken ["parts", "many"]) : FnOk P w K mg base CX0 2 D.f D.fd ["words", "kinds"] (spSchemeOf i M) := by
  have GT : FnOk P w K mg base CX0 1 DT.f DT.fd ["parts", "many"] spTaken := ok_taken T DT
  obtain ⟨aS, gS, low, hS⟩ := T.shapes
  have nd := sc_scheme_of.nd
  refine D.ok sc_scheme_of (fun vs H Q E h => ?_) (fun cdv A outer s H vs Q E hr h => ?_)
  · obtain ⟨wl, kl, d, s, rfl, _⟩ := h
    rfl
  obtain ⟨wl, kl, d, sc, rfl, hd, ho, ew, ek, q⟩ := h
  refine ⟨_, pss_cons (ps_set (i := 2) nd rfl (Or.inl rfl) (pe_lst pa_nil))
    (pss_cons (ps_for PassesOwn.never rfl (pi_reversed rfl (T.free "reversed" (by decide +kernel)) (pa_cons (XZip.pe_listZip rfl (pa_cons (pv 0) (pa_cons (pv 1) pa_nil)) rfl (T.free "list" (by decide +kernel)) rfl (T.free "zip" (by decide +kernel))) pa_nil))
        (pg_tup (by rfl) (pgs_cons (pg_name (i := 3) nd rfl (Or.inl rfl)) (pgs_cons (pg_name (i := 4) nd rfl (Or.inl rfl)) pgs_nil)))
      (pss_one (ps_if (pt_cmpR op_eq (pv 4) pe_str (nomark _))
        (pss_one (ps_expr (pe_bm PySem.F.plainAttrs_list PySem.F.slot_list_append PySem.F.type_list_append mt_append (pv 2) (pa_cons (pe_op op_catA (pe_tup (pa_cons (pv 3) pa_nil)) (pcall DT GT hr (pa_cons (pv 2) (pa_cons (pe_callB call_len_seq rfl (T.free "len" (by decide +kernel)) PySem.boot_len (pa_cons (pe_ix ix_kdict (pe_glob rfl gS (v := .ref aS) rfl) (pv 3) (fun _ _ => rfl)) pa_nil)) pa_nil)))) pa_nil))))
        (pss_one (ps_if (pt_cmpR op_eq (pv 4) pe_str (nomark _))
          (pss_one (ps_expr (pe_bm PySem.F.plainAttrs_list PySem.F.slot_list_append PySem.F.type_list_append mt_append (pv 2) (pa_cons (pcall DT GT hr (pa_cons (pv 2) (pa_cons (pe_callTy call_int_str rfl (T.free "int" (by decide +kernel)) (by decide +kernel) (pa_cons (pv 3) pa_nil)) pa_nil))) pa_nil))))
          (pss_one (ps_expr (pe_bm PySem.F.plainAttrs_list PySem.F.slot_list_append PySem.F.type_list_append mt_append (pv 2) (pa_cons (pe_ifExp (pt_cmpR op_eq (pv 4) pe_str (nomark _)) (pv 3) (pe_callTy call_int_str rfl (T.free "int" (by decide +kernel)) (by decide +kernel) (pa_cons (pv 3) pa_nil))) pa_nil)))))))))
    (pss_one (ps_ret (pe_ix ix_list (pv 2) pe_int (fun _ _ => rfl))))), ?_⟩
  obtain ⟨g, g0, g1, g2⟩ := run_chain (i := i) (M := M) hM (run_sch ho .nil) (fun q hq => by rw [List.mem_singleton.mp hq]; exact ho)
  rw [List.append_nil] at g1 g2
  have hlen : (nS d sc).length ≤ 938 := Nat.le_trans (nS_len ho) (most_mono hd)
  have lw : (wordsV (nS d sc)).length = (nS d sc).length := wordsV_len _
  generalize hL : nS d sc = L at *
  have lk : (L.map fun q => V.str (kd q)).length = L.length := List.length_map _
  refine ⟨Nat.zero_le _, fun pl hpl => ?_⟩
  have s1 : Same H (upd H pl (.lst [])) := Same.new hpl
  have e1 : upd H pl (.lst []) pl = some (.lst []) := upd_same
  dsimp only [gName]
  generalize upd H pl (.lst []) = H1 at s1 e1 ⊢
  refine ⟨_, rfl, _, rfl, wl, kl, _, _, rfl, SqL.of (s1 _ _ ew), SqL.of (s1 _ _ ek), by rw [lw, lk], by omega, fun H2 zl ts s2 hzl ezl lts hts => ?_⟩
  rw [lw] at lts
  have e2 := s2 _ _ e1
  have nzp : zl ≠ pl := fun e => by rw [e, e1] at hzl; cases hzl
  refine ⟨zl, _, rfl, SqL.of ezl, ?_⟩
  have lzs : (ts.map V.ref).length = L.length := by rw [List.length_map, lts]
  refine for_it (walk_rev (K := K) (a := zl) (xs := ts.map V.ref)) (fun j σ H' => ∃ (v3 v4 : Option V) (us : List V), σ = [some (.ref wl), some (.ref kl), some (.ref pl), v3, v4] ∧ Paired (PAt H') (g (L.length - j)) us ∧ us.length ≤ 939 ∧ H' pl = some (.lst us.reverse) ∧ Keep [pl] H2 H')
    ⟨none, none, [], rfl, by rw [Nat.sub_zero, g1]; exact .nil, Nat.zero_le _, e2, Keep.refl _ _⟩ (fun j σ H' _ ⟨_, _, _, _, _, _, _, k⟩ => SqL.of (k _ _ ezl (by simp [nzp]))) ?_ ?_
  · rintro j x σ H3 H4 hj ⟨v3, v4, us, rfl, hus, hul, ep, k3⟩ ⟨rfl, hx⟩
    rw [lzs] at hj hx
    have hm : L.length - 1 - j < L.length := by omega
    have em : L.length - j = L.length - 1 - j + 1 := by omega
    have em2 : L.length - (j + 1) = L.length - 1 - j := by omega
    rw [em] at hus
    rw [em2]
    generalize L.length - 1 - j = m at hm hus hx
    have ej : L[m]? = some (L[m]'hm) := List.getElem?_eq_getElem hm
    obtain ⟨op, S', g3, g4, hsl⟩ := g2 m _ ej
    rw [g4] at hus
    have etm : ts[m]? = some (ts[m]'(by omega)) := List.getElem?_eq_getElem (by omega)
    obtain rfl : x = .ref (ts[m]'(by omega)) := by
      rw [List.getElem?_map, etm] at hx
      exact (Option.some.inj hx).symm
    have eT := hts m _ (V.str (wd (L[m]'hm))) (V.str (kd (L[m]'hm))) etm (by unfold wordsV; rw [List.getElem?_map, ej]; rfl) (by rw [List.getElem?_map, ej]; rfl)
    generalize ts[m]'(by omega) = T1 at eT
    have npT : T1 ≠ pl := fun e => by
      rw [e, e2] at eT
      cases eT
    have eT4 := k3 _ _ eT (by simp [npT])
    generalize L[m]'hm = pt at op g3 hsl hus eT eT4
    obtain ⟨us1, us2, rfl, h1, h2⟩ := paired_split hus
    have l1 := Paired.length h1
    have l2 := Paired.length h2
    rw [List.length_append] at hul hsl
    refine ⟨T1, _, rfl, SqT.of eT4, rfl, _, _, rfl, _, _, rfl, rfl, ?_⟩
    dsimp only [gName]
    have fin : ∀ (v : V) (H5 : Hp), Keep [pl] H4 H5 → H5 pl = some (.lst us2.reverse) → PAt H5 pt v → ∃ (v3 v4 : Option V) (us : List V), ([some (.ref wl), some (.ref kl), some (.ref pl), some (.str (wd pt)), some (.str (kd pt))] : St) = [some (.ref wl), some (.ref kl), some (.ref pl), v3, v4] ∧
        Paired (PAt (upd H5 pl (.lst (us2.reverse ++ [v])))) (g m) us ∧ us.length ≤ 939 ∧ upd H5 pl (.lst (us2.reverse ++ [v])) pl = some (.lst us.reverse) ∧ Keep [pl] H2 (upd H5 pl (.lst (us2.reverse ++ [v]))) := fun v H5 k5 e5 hv => by
      have t4 : TupK H4 H5 := k5.tup fun a ha => by rw [List.mem_singleton.mp ha]; exact ⟨_, ep⟩
      have t5 : TupK H5 (upd H5 pl (.lst (us2.reverse ++ [v]))) := TupK.put e5
      refine ⟨_, _, v :: us2, rfl, ?_, by rw [List.length_cons]; omega, by rw [upd_same, List.reverse_cons], (k3.trans k5).trans (Keep.put (List.mem_singleton.mpr rfl))⟩
      rw [g3]
      exact .cons (hv.keep t5) (paired_imp h2 fun a b hab => (hab.keep t4).keep t5)
    have sz5 : us2.reverse.length < sizeLine := small1000 (by rw [List.length_reverse]; omega)
    cases pt with
    | sch d' s' =>
      refine is_word (b := true) rfl (by show (("scheme" : Str) == "scheme") = true; decide +kernel) _ (iteT ?_)
      cases d' with
      | zero => exact (show False from op).elim
      | succ d' =>
        obtain ⟨t, kdk, qt⟩ := hS _ (shape_of (d := d') s')
        have lp : (partsP d' s').length = us1.length := l1
        have lp3 : (partsP d' s').length ≤ 3 := by
          have z : ∀ p ∈ shapesL, p.2.length ≤ 3 := by decide +kernel
          have := z _ (shape_of (d := d') s')
          rw [List.length_map] at this
          exact this
        have lp0 : 0 < (partsP d' s').length := by cases s' <;> exact Nat.succ_pos _
        refine ⟨_, rfl, .inl ⟨rfl, _, SqL.of ep⟩, _, rfl, (by show 1 ≤ sizeLine; decide), fun tw htw => ?_⟩
        have ep5 := Same.new (o := .tup [.str (wd (.sch (d' + 1) s'))]) htw _ _ ep
        have k45 : Keep [pl] H4 (upd H4 tw (.tup [.str (wd (.sch (d' + 1) s'))])) := Keep.new htw
        have etw : upd H4 tw (.tup [.str (wd (.sch (d' + 1) s'))]) tw = some (.tup [.str (wd (.sch (d' + 1) s'))]) := upd_same
        generalize upd H4 tw (.tup [.str (wd (.sch (d' + 1) s'))]) = H5 at ep5 k45 etw
        refine ⟨_, rfl, _, rfl, aS, nameOf s', .ref t, rfl, rfl, kdk, t, _, rfl, .inr (qt _), ?_⟩
        refine ⟨pl, us1, us2, by rw [List.length_map, List.length_map, lp]; rfl, ep5, by omega, fun z => by rw [z] at lp; rw [lp] at lp0; exact absurd lp0 (by decide), fun tt H6 k6 e6 htt ett => ?_⟩
        have ntp : tw ≠ pl := fun e => by rw [e, ep5] at etw; cases etw
        refine ⟨tw, tt, _, _, rfl, rfl, SqT.of (k6 _ _ etw (by simp [ntp])), SqT.of ett, szN (by show 1 + _ ≤ 1000; omega), (fun z => nomatch z), fun _ z => absurd z (fun z => by rw [z] at lp; rw [lp] at lp0; exact absurd lp0 (by decide)), fun _ _ p hp => ?_⟩
        have npp : p ≠ pl := fun e => by rw [e, e6] at hp; cases hp
        have k7 : Keep [pl] H4 (upd H6 p (.tup ([.str (wd (.sch (d' + 1) s'))] ++ us1))) := (k45.trans k6).trans (Keep.new hp)
        have e7 : upd H6 p (.tup ([.str (wd (.sch (d' + 1) s'))] ++ us1)) pl = some (.lst us2.reverse) := by rw [upd_ne npp.symm]; exact e6
        refine ⟨pl, _, _, rfl, rfl, e7, sz5, fin _ _ k7 e7 ?_⟩
        refine parts_at (rest := us1) upd_same ?_
        have t47 : TupK H4 (upd H6 p (.tup ([.str (wd (.sch (d' + 1) s'))] ++ us1))) := k7.tup fun a ha => by rw [List.mem_singleton.mp ha]; exact ⟨_, ep⟩
        exact paired_imp h1 fun a b hab => hab.keep t47
    | schs d' ks =>
      refine is_word (b := false) rfl (by show (("schemes" : Str) == "scheme") = false; decide +kernel) _ (iteF ?_)
      refine is_word (b := true) rfl (by show (("schemes" : Str) == "schemes") = true; decide +kernel) _ (iteT ?_)
      have lp : ks.length = us1.length := by rw [← l1]; exact (List.length_map _).symm
      have o4 : 0 < ks.length ∧ ks.length ≤ 4 := ⟨op.1, op.2.1⟩
      obtain ⟨f1, f2, f3⟩ := tx_facts ((ks.length : Nat) : Int) (by omega) (by omega)
      refine ⟨_, rfl, .inl ⟨rfl, _, SqL.of ep⟩, _, rfl, _, rfl, _, _, rfl, f3, by show (tx _).length ≤ 640; omega, ?_⟩
      refine ⟨pl, us1, us2, by rw [lp]; rfl, ep, by omega, fun z => by rw [z] at lp; exact absurd (lp ▸ o4.1) (by decide), fun tt H6 k6 e6 htt ett => ?_⟩
      refine ⟨pl, _, _, rfl, rfl, e6, sz5, fin _ _ k6 e6 ?_⟩
      have t46 : TupK H4 H6 := k6.tup fun a ha => by rw [List.mem_singleton.mp ha]; exact ⟨_, ep⟩
      exact ⟨tt, us1, rfl, ett, paired_sch (paired_imp h1 fun a b hab => hab.keep t46)⟩
    | word x =>
      refine is_word (b := false) rfl (by show (("word" : Str) == "scheme") = false; decide +kernel) _ (iteF ?_)
      refine is_word (b := false) rfl (by show (("word" : Str) == "schemes") = false; decide +kernel) _ (iteF ?_)
      obtain rfl : us1 = [] := List.eq_nil_of_length_eq_zero l1.symm
      refine ⟨_, rfl, .inl ⟨rfl, _, SqL.of ep⟩, ?_⟩
      refine is_word (b := true) rfl (by show (("word" : Str) == "word") = true; decide +kernel) _ (iteT ?_)
      exact ⟨_, rfl, pl, _, _, rfl, rfl, ep, sz5, fin _ _ (Keep.refl _ _) ep rfl⟩
    | num n k =>
      obtain ⟨n0, n1, hk⟩ := op
      obtain ⟨f1, f2, f3⟩ := tx_facts n n0 n1
      refine is_word (b := false) rfl (by show (k == "scheme") = false; rcases hk with rfl | rfl | rfl <;> decide +kernel) _ (iteF ?_)
      refine is_word (b := false) rfl (by show (k == "schemes") = false; rcases hk with rfl | rfl | rfl <;> decide +kernel) _ (iteF ?_)
      obtain rfl : us1 = [] := List.eq_nil_of_length_eq_zero l1.symm
      refine ⟨_, rfl, .inl ⟨rfl, _, SqL.of ep⟩, ?_⟩
      refine is_word (b := false) rfl (by show (k == "word") = false; rcases hk with rfl | rfl | rfl <;> decide +kernel) _ (iteF ?_)
      exact ⟨_, rfl, _, _, rfl, f3, by show (tx n).length ≤ 640; omega, pl, _, _, rfl, rfl, ep, sz5, fin _ _ (Keep.refl _ _) ep rfl⟩
  · rintro σ H3 ⟨v3, v4, us, rfl, hus, hul, ep, k3⟩
    rw [lzs, Nat.sub_self, g0] at hus
    cases hus with
    | cons r t =>
      cases t
      refine ⟨_, rfl, pl, _, 0, _, rfl, rfl, SqL.of ep, at0, q _ H3 (fun b o e => k3 _ _ (s2 _ _ (s1 _ _ e)) ?_) r⟩
      simp only [List.mem_singleton]
      exact ne_of_none e hpl
end
end MS
end
section
set_option maxRecDepth 100000
set_option maxHeartbeats 4000000
namespace MS
open PySem L2
/-! ### read, written, works written and read -/
def okc (x : Str) : Bool := (TL.tl x).all fun c => c != 10 && c != 32
theorem okc_of {x : Str} (h : okc x = true) : 10 ∉ TL.tl x ∧ 32 ∉ TL.tl x := by
  unfold okc at h
  rw [List.all_eq_true] at h
  refine ⟨fun hm => ?_, fun hm => ?_⟩
  · exact absurd (h _ hm) (by decide)
  · exact absurd (h _ hm) (by decide)
theorem name_okc (s : Sch) : okc (nameOf s) = true := by
  cases s <;> first
    | exact (by decide +kernel : okc "step" = true)
    | exact (by decide +kernel : okc "all" = true)
    | exact (by decide +kernel : okc "best" = true)
    | exact (by decide +kernel : okc "most" = true)
    | exact (by decide +kernel : okc "half" = true)
    | exact (by decide +kernel : okc "seen" = true)
    | exact (by decide +kernel : okc "behind" = true)
    | exact (by decide +kernel : okc "carry" = true)
    | exact (by decide +kernel : okc "end" = true)
    | exact (by decide +kernel : okc "use" = true)
theorem tx_okc {n : Int} (h0 : 0 ≤ n) (h1 : n ≤ 30) : okc (tx n) = true := by
  have key : ∀ k : Nat, k < 31 → okc (tx ((k : Nat) : Int)) = true := by decide +kernel
  obtain ⟨k, rfl⟩ : ∃ k : Nat, n = (k : Int) := ⟨n.toNat, by omega⟩
  exact key k (by omega)
theorem wd_okc {i M : Nat} {p : Pt} (o : OkP i M p) : okc (wd p) = true := by
  cases p with
  | sch d s => exact name_okc s
  | schs d ks =>
    have h := o.2.1
    exact tx_okc (by omega) (by omega)
  | word x =>
    have key : ∀ x ∈ wordsL, okc x = true := by decide +kernel
    exact key x o
  | num n k => exact tx_okc o.1 o.2.1
theorem step_okc {p : StepT} (h : IsStep p) : okc (stepS p) = true := by
  have key : ∀ x ∈ wordsL, ∀ m ∈ marksL, okc (stepS (x, m)) = true := by decide +kernel
  exact key p.1 h.1 p.2 h.2
theorem tl_in_join {z : Str} {c : Nat} : ∀ {l : List Str}, c ∈ TL.tl (Str.join z l) → c ∈ TL.tl z ∨ ∃ x ∈ l, c ∈ TL.tl x
  | [], h => by cases h
  | [x], h => .inr ⟨x, List.mem_singleton.mpr rfl, h⟩
  | x :: y :: r, h => by
    have h : c ∈ TL.tl (x ++ z ++ Str.join z (y :: r)) := h
    rw [TL.tl_append, TL.tl_append] at h
    rcases List.mem_append.mp h with h | h
    · rcases List.mem_append.mp h with h | h
      · exact .inr ⟨x, List.mem_cons_self, h⟩
      · exact .inl h
    · rcases tl_in_join h with h | ⟨q, hq, h⟩
      · exact .inl h
      · exact .inr ⟨q, List.mem_cons_of_mem _ hq, h⟩
def tPp (ps : List Sch) : Str := Str.join "\n" (ps.map (tS 5))
theorem split_sp {l : List Str} (hne : l ≠ []) (h : ∀ x ∈ l, okc x = true) : Txt.split (Str.join " " l) " " = l := by
  have := TL.split_join (y := " ") (s := 32) (S := []) (by decide +kernel) (by decide +kernel) hne (fun p hp => (okc_of (h p hp)).2)
  rw [TL.join_eq] at this
  exact this
theorem row_split {i M : Nat} (hM : M ≤ 5) {d : Nat} {s : Sch} (o : OkS i M d s) : Txt.split (tS d s) " " = (nS d s).map wd :=
  split_sp (fun e => nS_ne o (List.map_eq_nil_iff.mp e)) fun x hx => by
    obtain ⟨p, hp, rfl⟩ := List.mem_map.mp hx
    exact wd_okc (nS_ok hM o p hp)
theorem text_split {ps : List Sch} (hP : PaperOk ps) : Txt.split (tPp ps) "\n" = ps.map (tS 5) ∧ (tPp ps).length ≤ 40000 := by
  obtain ⟨ce, hf, _, _⟩ := hP.facts
  have hM := hP.2.1
  have each : ∀ x ∈ ps.map (tS 5), x.length ≤ 6566 ∧ 10 ∉ TL.tl x := fun x hx => by
    obtain ⟨s, hs, rfl⟩ := List.mem_map.mp hx
    obtain ⟨j, hj⟩ := List.mem_iff_getElem?.mp hs
    have o := (hf j s hj).1
    refine ⟨tS_len hM (by decide) o, fun hm => ?_⟩
    rcases tl_in_join hm with hm | ⟨q, hq, hm⟩
    · exact absurd hm (by decide +kernel)
    · obtain ⟨p, hp, rfl⟩ := List.mem_map.mp hq
      exact (okc_of (wd_okc (nS_ok hM o p hp))).1 hm
  refine ⟨?_, ?_⟩
  · have := TL.split_join (y := "\n") (s := 10) (S := []) (by decide +kernel) (by decide +kernel) (parts := ps.map (tS 5)) (fun e => by
      have h0 := hP.1
      rw [List.map_eq_nil_iff.mp e] at h0
      exact absurd h0 (by decide)) (fun p hp => (each p hp).2)
    rw [TL.join_eq] at this
    exact this
  · have := join_len (z := "\n") (m := 6566) (by decide) fun x hx => (each x hx).1
    rw [List.length_map] at this
    unfold tPp
    omega
def IMx : Type := { x : Nat × Nat // x.2 ≤ 5 }
def spKindsA : Sp := fun vs H Q E => ∃ x : IMx, spKinds x.1.1 x.1.2 vs H Q E
def spSchemeA : Sp := fun vs H Q E => ∃ x : IMx, spSchemeOf x.1.1 x.1.2 vs H Q E
def spWWA : Sp := fun vs H Q E => ∃ x : IMx, spWW x.1.1 x.1.2 5 vs H Q E
def spLTA : Sp := fun vs H Q E => ∃ x : IMx, spLT x.1.1 x.1.2 5 vs H Q E
def spRead : Sp := fun vs H Q _ => ∃ ps : List Sch, vs = [.str (tPp ps)] ∧ PaperOk ps ∧ ∀ (p : Addr) (pv : List V) (H' : Hp), Same H H' → H' p = some (.tup pv) → Paired (SAt H' 5) ps pv → Q (.ref p) H'
def spWritten : Sp := fun vs H Q _ => ∃ (pa : Addr) (ps : List Sch) (pv : List V), vs = [.ref pa] ∧ H pa = some (.tup pv) ∧ Paired (SAt H 5) ps pv ∧ PaperOk ps ∧ ∀ H', Same H H' → Q (.str (tPp ps)) H'
def lineOf (ws : List StepT) : Str := Str.join " " (ws.map stepS)
def spWrittenW : Sp := fun vs H Q _ => ∃ (a : Addr) (ws : List StepT), vs = [.ref a] ∧ H a = some (.lst (stepsV ws)) ∧ WorkOk ws ∧ ∀ H', Same H H' → Q (.str (lineOf ws)) H'
def spReadW : Sp := fun vs H Q _ => ∃ ws : List StepT, vs = [.str (lineOf ws)] ∧ WorkOk ws ∧ ∀ (f : Addr) (H' : Hp), Same H H' → H f = none → H' f = some (.lst (stepsV ws)) → Q (.ref f) H'
section
variable {P : Program} {w : World} {K : PySem.W.Frag} {mg : Str → Option Value} {base : Heap}
theorem ok_read (T : PTx w K mg) (gF : ∃ t, mg "MOST_FIGURES" = some (.int 2 t)) (DP : DPaper K mg) (D : Def K mg "read" s_read ["text"]) (DK : Def K mg "kinds_in" s_kinds_in ["words", "start"]) (DO : Def K mg "scheme_of" s_scheme_of ["words", "kinds"]) (DT : Def K mg "taken" s_taken ["parts", "many"]) (DS : Def K mg "can_stand" s_can_stand ["word", "kind"]) (DF : Def K mg "is_figures" s_is_figures ["word"]) (DC : Def K mg "coming" s_coming ["word", "kind"]) :
    FnOk P w K mg base CX0 6 D.f D.fd ["text"] spRead := by
  have GK : FnOk P w K mg base CX0 3 DK.f DK.fd ["words", "start"] spKindsA := fn_any fun x : IMx => ok_kinds x.2 T gF DK DS DF DC
  have GO : FnOk P w K mg base CX0 2 DO.f DO.fd ["words", "kinds"] spSchemeA := fn_any fun x : IMx => ok_scheme_of x.2 T DO DT
  have GP : FnOk P w K mg base CX0 5 DP.DC.f DP.DC.fd ["paper"] spCheckPaper := ok_check_paper T DP
  have nd := sc_read.nd
  refine D.ok sc_read (fun vs H Q E h => ?_) (fun cdv A outer s H vs Q E hr h => ?_)
  · obtain ⟨ps, rfl, _⟩ := h
    rfl
  obtain ⟨ps, rfl, hP, q⟩ := h
  have r2 : Room 2 _ := hr.mono (by decide)
  have r3 : Room 3 _ := hr.mono (by decide)
  refine ⟨_, pss_cons (ps_set (i := 1) nd rfl (Or.inl rfl) (pe_lst pa_nil))
    (pss_cons (ps_set (i := 2) nd rfl (Or.inl rfl) pe_int)
    (pss_cons (ps_for PassesOwn.never rfl (pi_list (pe_split (pv 0) pe_str)) (pg_name (i := 3) nd rfl (Or.inl rfl))
      (pss_cons (ps_set (i := 4) nd rfl (Or.inl rfl) (pe_split (pv 3) pe_str))
      (pss_cons (ps_expr (pe_bm PySem.F.plainAttrs_list PySem.F.slot_list_append PySem.F.type_list_append mt_append (pv 1) (pa_cons (pcall DO GO r2 (pa_cons (pv 4) (pa_cons (pcall DK GK r3 (pa_cons (pv 4) (pa_cons (pv 2) pa_nil))) pa_nil))) pa_nil)))
      (pss_one (ps_aug (i := 2) nd rfl (Or.inl rfl) (pe_callB call_len_seq rfl (T.free "len" (by decide +kernel)) PySem.boot_len (pa_cons (pv 4) pa_nil)) ip_add)))))
    (pss_cons (ps_set (i := 5) nd rfl (Or.inl rfl) (pe_callTy call_tuple_of rfl (T.free "tuple" (by decide +kernel)) (by decide +kernel) (pa_cons (pv 1) pa_nil)))
    (pss_cons (ps_expr (pcall DP.DC GP hr (pa_cons (pv 5) pa_nil)))
    (pss_one (ps_ret (pv 5))))))), ?_⟩
  obtain ⟨hsplit, hlen⟩ := text_split hP
  obtain ⟨ce, hfacts, _, _⟩ := hP.facts
  have hM := hP.2.1
  refine ⟨Nat.zero_le _, fun sl hsl => ?_⟩
  have s1 : Same H (upd H sl (.lst [])) := Same.new hsl
  have e1 : upd H sl (.lst []) sl = some (.lst []) := upd_same
  dsimp only [gName]
  generalize upd H sl (.lst []) = H1 at s1 e1 ⊢
  refine ⟨_, rfl, ⟨_, rfl⟩, _, "\n", rfl, rfl, by decide, by rw [sizeLine_eq]; omega, fun rl hrl => ?_⟩
  rw [hsplit]
  have s2 := s1.trans (Same.new (o := .lst ((ps.map (tS 5)).map V.str)) hrl)
  have nrs : rl ≠ sl := fun e => by rw [e, e1] at hrl; cases hrl
  refine ⟨rl, rfl, ⟨_, SqL.of upd_same⟩, ?_⟩
  have lrows : ((ps.map (tS 5)).map V.str).length = ps.length := by rw [List.length_map, List.length_map]
  refine for_list (K := K) (a := rl) (xs := (ps.map (tS 5)).map V.str) (fun j σ H' => ∃ (st : Nat) (v3 v4 : Option V) (us : List V), σ = [some (.str (tPp ps)), some (.ref sl), some (.int ((st : Nat) : Int)), v3, v4, none] ∧ st ≤ 938 * j ∧ H' sl = some (.lst us) ∧ Paired (SAt H' 5) (ps.take j) us ∧ H' rl = some (.lst ((ps.map (tS 5)).map V.str)) ∧ Same H H')
    ⟨0, none, none, [], rfl, Nat.zero_le _, by rw [upd_ne nrs.symm]; exact e1, .nil, upd_same, s2⟩ (fun j σ H' _ ⟨_, _, _, _, _, _, _, _, e, _⟩ => SqL.of e) ?_ ?_
  · rintro j y σ H3 hy ⟨st, v3, v4, us, rfl, hst, esl, hus, erl, sm⟩
    have hj : j < ps.length := by
      have := (List.getElem?_eq_some_iff.mp hy).1
      rw [lrows] at this
      exact this
    have ej : ps[j]? = some (ps[j]'hj) := List.getElem?_eq_getElem hj
    have o := (hfacts j _ ej).1
    have htk : ps.take (j + 1) = ps.take j ++ [ps[j]'hj] := List.take_succ_eq_append_getElem hj
    obtain rfl : V.str (tS 5 (ps[j]'hj)) = y := by
      rw [List.getElem?_map, List.getElem?_map, ej] at hy
      exact Option.some.inj hy
    generalize ps[j]'hj = sc at o htk hy
    have hl5 := Paired.length hus
    rw [List.length_take] at hl5
    dsimp only [gName]
    have hrow := row_split hM o
    have hn : (nS 5 sc).length ≤ 938 := Nat.le_trans (nS_len o) (most_mono (by decide))
    refine ⟨_, rfl, ⟨_, rfl⟩, _, " ", rfl, rfl, by decide, by have := tS_len hM (by decide) o; rw [sizeLine_eq]; omega, fun wl hwl => ?_⟩
    rw [hrow]
    have ewv : ((nS 5 sc).map wd).map V.str = wordsV (nS 5 sc) := by rw [List.map_map]; rfl
    rw [ewv]
    have s4 : Same H3 (upd H3 wl (.lst (wordsV (nS 5 sc)))) := Same.new hwl
    have ew4 : upd H3 wl (.lst (wordsV (nS 5 sc))) wl = some (.lst (wordsV (nS 5 sc))) := upd_same
    have nws : wl ≠ sl := fun e => by rw [e, esl] at hwl; cases hwl
    generalize upd H3 wl (.lst (wordsV (nS 5 sc))) = H4 at s4 ew4 ⊢
    dsimp only [gName]
    let x : IMx := ⟨(j, ps.length), hM⟩
    refine ⟨_, rfl, .inl ⟨rfl, _, SqL.of (s4 _ _ esl)⟩, _, rfl, _, rfl, _, rfl, x, wl, st, 5, sc, rfl, by omega, by decide, o, ew4, fun kl H6 s6 hkl ekl => ?_⟩
    refine ⟨x, wl, kl, 5, sc, rfl, by decide, o, s6 _ _ ew4, ekl, fun v H7 s7 hv => ?_⟩
    have s37 := (s4.trans s6).trans s7
    refine ⟨sl, _, _, rfl, rfl, s37 _ _ esl, small1000 (by omega), ?_⟩
    have t8 : TupK H7 (upd H7 sl (.lst (us ++ [v]))) := TupK.put (s37 _ _ esl)
    dsimp only
    refine ⟨_, rfl, _, rfl, wl, _, rfl, .inl (SqL.of (by rw [upd_ne nws]; exact (s6.trans s7) _ _ ew4)), _, _, rfl, rfl, ?_⟩
    refine ⟨st + (wordsV (nS 5 sc)).length, some (.str (tS 5 sc)), some (.ref wl), us ++ [v], ?_, ?_, upd_same, ?_, ?_, Same.newer (sm.trans s37) hsl⟩
    · rfl
    · rw [wordsV_len]; omega
    · rw [htk]
      exact paired_snoc (paired_imp hus fun a b hab => SAt.keep (fun c xs e => t8 _ _ (s37 _ _ e)) _ _ _ hab) (SAt.keep t8 _ _ _ hv)
    · rw [upd_ne nrs]
      exact s37 _ _ erl
  · rintro σ H3 ⟨st, v3, v4, us, rfl, hst, esl, hus, erl, sm⟩
    rw [lrows, List.take_length] at hus
    dsimp only
    refine ⟨_, rfl, sl, us, rfl, .inl ⟨SqL.of esl, fun p hp => ?_⟩⟩
    have s5 : Same H3 (upd H3 p (.tup us)) := Same.new hp
    dsimp only [gName]
    have hus' := paired_imp hus fun a b hab => SAt.keep (Same.tupK s5) _ _ _ hab
    refine ⟨_, rfl, p, ps, us, rfl, upd_same, hus', hP, fun H4 s6 => ?_⟩
    exact ⟨_, rfl, q p us H4 (sm.trans (s5.trans s6)) (s6 _ _ upd_same) (paired_imp hus' fun a b hab => SAt.keep (Same.tupK s6) _ _ _ hab)⟩
theorem ok_written (T : PTx w K mg) (DP : DPaper K mg) (D : Def K mg "written" s_written ["paper"]) (DW : Def K mg "words_written" s_words_written ["scheme"]) : FnOk P w K mg base CX0 6 D.f D.fd ["paper"] spWritten := by
  have GP : FnOk P w K mg base CX0 5 DP.DC.f DP.DC.fd ["paper"] spCheckPaper := ok_check_paper T DP
  have GW : FnOk P w K mg base CX0 5 DW.f DW.fd ["scheme"] spWWA := fn_any fun x : IMx => ok_ww x.2 T DW 5 (by decide)
  have nd := sc_written.nd
  refine D.ok sc_written (fun vs H Q E h => ?_) (fun cdv A outer s H vs Q E hr h => ?_)
  · obtain ⟨pa, ps, pv0, rfl, _⟩ := h
    rfl
  obtain ⟨pa, ps, pv0, rfl, ep, hp, hP, q⟩ := h
  refine ⟨_, pss_cons (ps_expr (pcall DP.DC GP hr (pa_cons (pv 0) pa_nil)))
    (pss_one (ps_ret (pe_join pe_str (pe_lc (own := [("scheme", 1)]) (g := gName 1) (tt := tYes) (te := tM1 (fun x xs H Q => ∃ a p, ∃ ys : List Str, x = .str a ∧ xs = [.ref p] ∧ (SqL K H p (ys.map V.str) ∨ SqT K H p (ys.map V.str)) ∧ (ys.map (·.length)).sum + ys.length * a.length ≤ 16777216 ∧ Q (.str (Txt.join a ys)) H) (tC (.str " ")) (tCall spWWA [] E0 (tCons (tVar 1) tNil))) rfl nd (pi_tup (pv 0)) (blkOk_by (N := ["paper", "scheme"]) (sc := defScope s_written) (by decide +kernel)) (fun _ _ _ _ _ => pg_name (i := 1) nd rfl (Or.inl rfl)) (fun _ _ _ _ _ => pts_nil)
      (fun _ _ _ _ _ => pe_join pe_str (pcall DW GW hr (pa_cons (pv 1) pa_nil))))))), ?_⟩
  obtain ⟨ce, hfacts, _, _⟩ := hP.facts
  have hM := hP.2.1
  have lp := Paired.length hp
  refine ⟨_, rfl, pa, ps, pv0, rfl, ep, hp, hP, fun H1 s1 => ?_⟩
  refine ⟨⟨_, rfl⟩, _, rfl, pa, rfl, ⟨_, SqT.of (s1 _ _ ep)⟩, fun Dd hD => ?_⟩
  refine lc_it (walk_tup (K := K) (a := pa) (xs := pv0)) (fun k H'' => H'' Dd = some (.lst ((ps.take k).map fun s => V.str (tS 5 s))) ∧ Same H1 H'') ⟨upd_same, Same.new hD⟩ (fun k H'' _ ⟨_, s3⟩ => SqT.of (s3 _ _ (s1 _ _ ep))) ?_ ?_
  · rintro k y H3 H4 hkl ⟨eD, s3⟩ ⟨rfl, hy⟩
    have hk2 : k < ps.length := by omega
    have ek : ps[k]? = some (ps[k]'hk2) := List.getElem?_eq_getElem hk2
    obtain ⟨y', ey, hsy⟩ := paired_get2 hp ek
    rw [hy] at ey
    cases ey
    have o := (hfacts k _ ek).1
    have htk : ps.take (k + 1) = ps.take k ++ [ps[k]'hk2] := List.take_succ_eq_append_getElem hk2
    generalize ps[k]'hk2 = sc at hsy o htk
    have hn : (nS 5 sc).length ≤ 938 := Nat.le_trans (nS_len o) (most_mono (by decide))
    let x : IMx := ⟨(k, ps.length), hM⟩
    refine ⟨rfl, ⟨_, rfl⟩, _, rfl, x, y, sc, rfl, SAt.keep (Same.tupK (s1.trans s3)) _ _ _ hsy, o, fun f H5 s5 hf e5 => ?_⟩
    refine ⟨" ", f, (nS 5 sc).map wd, rfl, rfl, .inl (SqL.of (by rw [e5, List.map_map]; rfl)), join_fits (n := 938) (m := 6) (by rw [List.length_map]; exact hn) (words_ok hM o) (by decide), ?_⟩
    refine ⟨_, s5 _ _ eD, ?_, ?_, Same.newer (s3.trans s5) hD⟩
    · rw [List.length_map, List.length_take]
      exact small1000 (by omega)
    · rw [upd_same, htk, List.map_append, TL.join_eq]
      rfl
  · rintro H3 ⟨eD, s3⟩
    rw [← lp, List.take_length] at eD
    refine ⟨"\n", Dd, ps.map (tS 5), rfl, rfl, .inl (SqL.of (by rw [eD, List.map_map]; rfl)), ?_, ?_⟩
    · refine join_fits (n := 5) (m := 6566) (by rw [List.length_map]; omega) (fun x hx => ?_) (by decide)
      obtain ⟨s', hs', rfl⟩ := List.mem_map.mp hx
      obtain ⟨j, hj⟩ := List.mem_iff_getElem?.mp hs'
      exact tS_len hM (by decide) (hfacts j s' hj).1
    · rw [TL.join_eq]
      exact q _ (s1.trans s3)
end
end MS
end
section
set_option maxRecDepth 100000
set_option maxHeartbeats 4000000
namespace MS
open PySem L2
/-! ### works written and read -/
theorem WorkFrom.steps : ∀ {ws : List StepT} {b : Bool}, WorkFrom b ws → ∀ p ∈ ws, IsStep p
  | [], _, _, _, h => nomatch h
  | q :: r, _, h, p, hp => by
    rcases List.mem_cons.mp hp with rfl | hp
    · exact h.1
    · exact WorkFrom.steps h.2.2 p hp
theorem line_facts {ws : List StepT} (h : WorkOk ws) : (lineOf ws).length ≤ 40 ∧ (ws = [] → (lineOf ws).length = 0) ∧ (ws ≠ [] → (lineOf ws).length ≠ 0 ∧ Txt.split (lineOf ws) " " = ws.map stepS) := by
  have hs := WorkFrom.steps h.1
  have l2 : ∀ x ∈ ws.map stepS, x.length ≤ 2 := fun x hx => by
    obtain ⟨p, hp, rfl⟩ := List.mem_map.mp hx
    rw [(hs p hp).len]
    decide
  refine ⟨?_, ?_, ?_⟩
  · have := join_len (z := " ") (m := 2) rfl l2
    have h12 := h.2
    rw [List.length_map] at this
    unfold lineOf
    omega
  · rintro rfl
    rfl
  · intro hne
    refine ⟨?_, split_sp (fun e => hne (List.map_eq_nil_iff.mp e)) fun x hx => ?_⟩
    · cases ws with
      | nil => exact absurd rfl hne
      | cons p r =>
        have hp := (hs p List.mem_cons_self).len
        unfold lineOf
        rw [List.map_cons]
        cases r with
        | nil =>
          show (stepS p).length ≠ 0
          omega
        | cons p2 r =>
          show (stepS p ++ " " ++ Str.join " " ((p2 :: r).map stepS)).length ≠ 0
          rw [Str.length_append, Str.length_append]
          omega
    · obtain ⟨p, hp, rfl⟩ := List.mem_map.mp hx
      exact step_okc (hs p hp)
section
variable {P : Program} {w : World} {K : PySem.W.Frag} {mg : Str → Option Value} {base : Heap}
theorem ok_written_work (T : PTx w K mg) (D : Def K mg "written_work" s_written_work ["work"]) (DC : Def K mg "check_work" s_check_work ["work"]) (DI : Def K mg "is_step" s_is_step ["thing"]) : FnOk P w K mg base CX0 3 D.f D.fd ["work"] spWrittenW := by
  have GC : FnOk P w K mg base CX0 2 DC.f DC.fd ["work"] spCheckWork := ok_check_work T DC DI
  refine D.ok sc_written_work (fun vs H Q E h => ?_) (fun cdv A outer s H vs Q E hr h => ?_)
  · obtain ⟨a, ws, rfl, _⟩ := h
    rfl
  obtain ⟨a, ws, rfl, ea, hw, q⟩ := h
  refine ⟨_, pss_cons (ps_expr (pcall DC GC hr (pa_cons (pv 0) pa_nil))) (pss_one (ps_ret (pe_join pe_str (pv 0)))), ?_⟩
  refine ⟨_, rfl, a, ws, rfl, ea, hw, fun H1 s1 => ?_⟩
  have h12 := hw.2
  refine ⟨⟨_, rfl⟩, _, rfl, " ", a, ws.map stepS, rfl, rfl, .inl (SqL.of (by rw [s1 _ _ ea]; unfold stepsV; rw [List.map_map]; rfl)), join_fits (n := 12) (m := 2) (by rw [List.length_map]; exact h12) (fun x hx => ?_) (by decide), ?_⟩
  · obtain ⟨p, hp, rfl⟩ := List.mem_map.mp hx
    rw [(WorkFrom.steps hw.1 p hp).len]
    decide
  · rw [TL.join_eq]
    exact q _ s1
theorem ok_read_work (T : PTx w K mg) (D : Def K mg "read_work" s_read_work ["text"]) (DC : Def K mg "check_work" s_check_work ["work"]) (DI : Def K mg "is_step" s_is_step ["thing"]) : FnOk P w K mg base CX0 3 D.f D.fd ["text"] spReadW := by
  have GC : FnOk P w K mg base CX0 2 DC.f DC.fd ["work"] spCheckWork := ok_check_work T DC DI
  have GI : FnOk P w K mg base CX0 1 DI.f DI.fd ["thing"] spIsStep := ok_is_step T DI
  have nd := sc_read_work.nd
  refine D.ok sc_read_work (fun vs H Q E h => ?_) (fun cdv A outer s H vs Q E hr h => ?_)
  · obtain ⟨ws, rfl, _⟩ := h
    rfl
  obtain ⟨ws, rfl, hw, q⟩ := h
  have r1 : Room 1 _ := hr.mono (by decide)
  refine ⟨_, pss_cons (ps_set (i := 1) nd rfl (Or.inl rfl) (pe_ifExp (pt_truth (pv 0) (by intro _; rfl)) (pe_split (pv 0) pe_str) (pe_lst pa_nil)))
    (pss_cons (ps_for PassesOwn.never rfl (pi_enum rfl (T.free "enumerate" (by decide +kernel)) (pa_cons (pv 1) pa_nil)) (pg_tup (by rfl) (pgs_cons (pg_name (i := 2) nd rfl (Or.inl rfl)) (pgs_cons (pg_name (i := 3) nd rfl (Or.inl rfl)) pgs_nil)))
      (pss_one (ps_if (pt_not (pt_val (pcall DI GI r1 (pa_cons (pv 3) pa_nil)))) (pss_one ps_never) pss_nil)))
    (pss_cons (ps_expr (pcall DC GC hr (pa_cons (pv 1) pa_nil)))
    (pss_one (ps_ret (pv 1))))), ?_⟩
  obtain ⟨h40, h0, h1⟩ := line_facts hw
  have hst := WorkFrom.steps hw.1
  have lws : (stepsV ws).length = ws.length := List.length_map _
  have key : ∀ R : VK, (∀ f, H f = none → R (.ref f) (upd H f (.lst (stepsV ws)))) → tIf (fun σ H Q => tVar 0 σ H fun x H' => ∃ k, TruV K x H' k ∧ Q k H') (tM1 (fun x xs H Q => ∃ a b, x = .str a ∧ xs = [.str b] ∧ (b.length == 0) = false ∧ a.length + 2 ≤ sizeLine ∧ rNewStrs (Txt.split a b) H Q) (tVar 0) (tC (.str " "))) (tLst tNil) (start ["text", "work", "place", "word"] [.str (lineOf ws)]) H R := fun R hR => by
    refine ⟨_, rfl, _, ⟨szN (by omega), rfl⟩, ?_⟩
    by_cases z : ws = []
    · have hz := h0 z
      rw [hz]
      refine iteF ⟨Nat.zero_le _, fun p hp => ?_⟩
      have := hR p hp
      rw [z] at this
      exact this
    · obtain ⟨h2, h3⟩ := h1 z
      rw [show ((((lineOf ws).length : Nat) : Int) != 0) = true from bne_iff_ne.mpr (by omega)]
      refine iteT ⟨_, rfl, ⟨_, rfl⟩, _, " ", rfl, rfl, by decide, szN (by omega), fun p hp => ?_⟩
      rw [h3, List.map_map]
      exact hR p hp
  refine key _ fun f hf => ?_
  have s1 : Same H (upd H f (.lst (stepsV ws))) := Same.new hf
  have ef : upd H f (.lst (stepsV ws)) f = some (.lst (stepsV ws)) := upd_same
  dsimp only [gName]
  generalize upd H f (.lst (stepsV ws)) = H1 at s1 ef ⊢
  refine ⟨_, rfl, f, _, rfl, SqL.of ef, for_it (walk_enum (K := K) (a := f) (xs := stepsV ws)) (fun i σ H' => ∃ v2 v3 : Option V, σ = [some (.str (lineOf ws)), some (.ref f), v2, v3] ∧ Same H1 H') ⟨none, none, rfl, Same.refl _⟩ (fun i σ H' _ ⟨_, _, _, sm⟩ => SqL.of (sm _ _ ef)) ?_ ?_⟩
  · rintro i x σ H2 H3 hi ⟨v2, v3, rfl, sm⟩ ⟨T1, x1, x2, rfl, hT1, rfl, ex1, ex2⟩
    rw [lws] at hi
    obtain rfl : V.str (stepS (ws[i]'hi)) = x2 := Option.some.inj ((get_map (fun p => V.str (stepS p)) ws hi).symm.trans ex2)
    have hp := hst _ (List.getElem_mem hi)
    have sm1 : Same H1 (upd H2 T1 (.tup [x1, .str (stepS (ws[i]'hi))])) := sm.trans (Same.new hT1)
    refine ⟨T1, _, rfl, SqT.of upd_same, rfl, _, _, rfl, _, _, rfl, rfl, ?_⟩
    refine ⟨_, rfl, _, rfl, hp, fun H4 s4 => ⟨_, rfl, iteF ?_⟩⟩
    exact ⟨_, _, rfl, sm1.trans s4⟩
  · rintro σ H2 ⟨v2, v3, rfl, sm⟩
    exact ⟨_, rfl, f, ws, rfl, sm _ _ ef, hw, fun H3 s3 => ⟨_, rfl, q f H3 (s1.trans (sm.trans s3)) hf ((sm.trans s3) _ _ ef)⟩⟩
end
end MS
end
section
set_option maxRecDepth 100000
set_option maxHeartbeats 4000000
namespace MS
open PySem L2
/-! ### the law -/
abbrev s_law : Stmt := topS 57
abbrev nmLaw : List Str := ["_law_script", "_law_box", "_law_turn", "_law_letters_here", "_law_paper_here", "_law_text_here", "_law_work_here", "_law_handed", "_law_line", "_law_again", "_law_found", "_law_scheme_here"]
theorem sc_law : FnScope nmLaw ["_law_script"] (defScope s_law) := ⟨rfl, rfl, rfl, by decide +kernel, rfl, by decide +kernel, by decide +kernel⟩
theorem alk_le {H : Hp} {n : Nat} {x y : V} (h : Alk H n x y) : ∀ m, Alk H (n + m) x y
  | 0 => h
  | m + 1 => (alk_le h m).up
theorem alk_lt {H : Hp} {n m : Nat} {x y : V} (h : Alk H n x y) (e : n ≤ m) : Alk H m x y := by
  have := alk_le h (m - n)
  rw [show n + (m - n) = m by omega] at this
  exact this
theorem paired2 {α : Type} {R S : α → V → Prop} {T : V → V → Prop} : ∀ {xs : List α} {us vs : List V}, Paired R xs us → Paired S xs vs → (∀ x ∈ xs, ∀ u v, R x u → S x v → T u v) → Paired T us vs
  | _, _, _, .nil, .nil, _ => .nil
  | _, _, _, .cons r t, .cons r' t', h => .cons (h _ List.mem_cons_self _ _ r r') (paired2 t t' fun x hx => h x (List.mem_cons_of_mem _ hx))
theorem alk_sch {H : Hp} {i M : Nat} : ∀ {d : Nat} {s : Sch} {v v' : V}, OkS i M d s → SAt H d s v → SAt H d s v' → Alk H (2 * d) v v'
  | 0, _, _, _, o, _, _ => o.elim
  | d + 1, s, v, v', o, h, h' => by
    obtain ⟨a, rest, rfl, ea, hp, hsh⟩ := h.parts
    obtain ⟨a', rest', rfl, ea', hp', _⟩ := h'.parts
    have lp := Paired.length hp
    have lp3 : (partsP d s).length ≤ 3 := by
      have z : ∀ p ∈ shapesL, p.2.length ≤ 3 := by decide +kernel
      have := z _ hsh
      rw [List.length_map] at this
      exact this
    have kid : ∀ s', OkS i M d s' → ∀ u u', SAt H d s' u → SAt H d s' u' → Alk H (2 * d) u u' := fun s' o' u u' h1 h2 => alk_sch o' h1 h2
    have ok : ∀ s' , (.sch d s' ∈ partsP d s → OkS i M d s') := fun s' hm => by
      cases s <;> simp only [partsP, List.mem_cons, List.not_mem_nil, or_false, reduceCtorEq, false_or, Pt.sch.injEq, true_and] at hm
      all_goals first | (subst hm; first | exact o.2 | exact o) | exact hm.elim
    have oks : ∀ ks, (.schs d ks ∈ partsP d s → ks.length ≤ 4 ∧ ∀ s' ∈ ks, OkS i M d s') := fun ks hm => by
      cases s <;> simp only [partsP, List.mem_cons, List.not_mem_nil, or_false, reduceCtorEq, false_or, Pt.schs.injEq, true_and] at hm
      all_goals first | (subst hm; exact o.2) | exact hm.elim
    show Alk H (2 * d + 1 + 1) (.ref a) (.ref a')
    refine .inr ⟨a, a', _, _, rfl, rfl, .inr ⟨ea, ea'⟩, by rw [List.length_cons]; omega, .cons (alk_lt (n := 0) (.inr ⟨_, rfl, rfl⟩) (Nat.zero_le _)) (paired2 hp hp' fun p hm u u' h1 h2 => ?_)⟩
    cases p with
    | sch d' s' =>
      obtain rfl := (parts_d _ hm).1 _ _ rfl
      exact (kid s' (ok s' hm) u u' h1 h2).up
    | schs d' ks =>
      obtain rfl := (parts_d _ hm).2 _ _ rfl
      obtain ⟨b, vs, rfl, eb, hk⟩ := h1
      obtain ⟨b', vs', rfl, eb', hk'⟩ := h2
      have lk := Paired.length hk
      obtain ⟨o4, o5⟩ := oks ks hm
      exact .inr ⟨b, b', _, _, rfl, rfl, .inr ⟨eb, eb'⟩, by omega, paired2 hk hk' fun s' hs' x y h1 h2 => kid s' (o5 s' hs') x y h1 h2⟩
    | word x =>
      obtain rfl := h1
      obtain rfl := h2
      exact alk_lt (n := 0) (.inr ⟨_, rfl, rfl⟩) (Nat.zero_le _)
    | num n k =>
      obtain rfl := h1
      obtain rfl := h2
      exact alk_lt (n := 0) (.inl ⟨_, rfl, rfl⟩) (Nat.zero_le _)
theorem alk_steps {H : Hp} : ∀ ws : List StepT, Paired (Alk H 0) (stepsV ws) (stepsV ws)
  | [] => .nil
  | p :: r => .cons (.inr ⟨stepS p, rfl, rfl⟩) (alk_steps r)
theorem steps_dp {K : PySem.W.Frag} {H : Hp} : ∀ ws : List StepT, DpAll K H (stepsV ws) (ws.map fun p => PyData.str (stepS p))
  | [] => .nil
  | p :: r => .cons (.str (stepS p)) (steps_dp r)
theorem steps_sh {ws : List StepT} (h : ∀ p ∈ ws, IsStep p) : ShAll 0 (ws.map fun p => PyData.str (stepS p)) := ShAll.of fun d hd => by
  obtain ⟨p, hp, rfl⟩ := List.mem_map.mp hd
  exact .str (h p hp).ok
theorem steps_same : ∀ ws : List StepT, PyData.eqvAll (ws.map fun p => PyData.str (stepS p)) (ws.map fun p => PyData.str (stepS p)) = true
  | [] => by simp [PyData.eqvAll]
  | p :: r => by
    rw [List.map_cons]
    simp only [PyData.eqvAll, PyData.eqv, steps_same r, beq_self_eq_true, Bool.and_self]
structure D12 (K : PySem.W.Frag) (mg : Str → Option Value) where
  DBg : Def K mg "_law_begun" s_L_begun ["_law_script"]
  DT : Def K mg "_law_take" s_L_take ["_law_box", "_law_many"]
  DAl : Def K mg "_law_alike" s_L_alike psAlike
  DLe : Def K mg "_law_letters" s_L_letters ["_law_box"]
  DSc : Def K mg "_law_scheme" s_L_scheme psScheme
  DCo : Def K mg "_law_counted" s_L_counted psCounted
  DPa : Def K mg "_law_paper" s_L_paper ["_law_box", "_law_letters_here"]
  DSt : Def K mg "_law_step" s_L_step ["_law_box", "_law_letters_here", "_law_was_wrong"]
  DWk : Def K mg "_law_work" s_L_work ["_law_box", "_law_letters_here", "_law_most"]
  DTe : Def K mg "_law_text" s_L_text ["_law_scheme_here"]
  DI : Def K mg "is_step" s_is_step ["thing"]
  DC : Def K mg "check_work" s_check_work ["work"]
  DWW : Def K mg "words_written" s_words_written ["scheme"]
  DWr : Def K mg "written" s_written ["paper"]
  DWo : Def K mg "written_work" s_written_work ["work"]
  DFi : Def K mg "is_figures" s_is_figures ["word"]
  DCs : Def K mg "can_stand" s_can_stand ["word", "kind"]
  DCm : Def K mg "coming" s_coming ["word", "kind"]
  DKi : Def K mg "kinds_in" s_kinds_in ["words", "start"]
  DTk : Def K mg "taken" s_taken ["parts", "many"]
  DSo : Def K mg "scheme_of" s_scheme_of ["words", "kinds"]
  DRd : Def K mg "read" s_read ["text"]
  DRw : Def K mg "read_work" s_read_work ["text"]
def spLaw (K : PySem.W.Frag) : Sp := fun vs H Q _ => ∃ (a : Addr) (ns : List Int), vs = [.ref a] ∧ SqL K H a (ns.map V.int) ∧ ns.length ≤ 63 ∧ ∀ H', Q (.bl true) H'
section
variable {P : Program} {w : World} {K : PySem.W.Frag} {mg : Str → Option Value} {base : Heap}
theorem ok_law (T : PTx w K mg) (gF : ∃ t, mg "MOST_FIGURES" = some (.int 2 t)) (DP : DPaper K mg) (DL : D12 K mg) (DW : Def K mg "law" s_law ["_law_script"]) : FnOk P w K mg base CX0 13 DW.f DW.fd ["_law_script"] (spLaw K) := by
  have ml : mg "len" = none := T.free "len" (by decide +kernel)
  have mli : mg "list" = none := T.free "list" (by decide +kernel)
  have mi : mg "int" = none := T.free "int" (by decide +kernel)
  have mr : mg "range" = none := T.free "range" (by decide +kernel)
  have mt : mg "tuple" = none := T.free "tuple" (by decide +kernel)
  have mis : mg "isinstance" = none := T.free "isinstance" (by decide +kernel)
  have ma : mg "any" = none := T.free "any" (by decide +kernel)
  have ms : mg "str" = none := T.free "str" (by decide +kernel)
  have mb : mg "bool" = none := T.free "bool" (by decide +kernel)
  have GBg : FnOk P w K mg base CX0 1 DL.DBg.f DL.DBg.fd ["_law_script"] (spBegun K) := ok_begun DL.DBg ml mli mi
  have GLe : FnOk P w K mg base CX0 2 DL.DLe.f DL.DLe.fd ["_law_box"] spLetters := ok_letters DL.DLe DL.DT ml mli mr
  have GPa : FnOk P w K mg base CX0 7 DL.DPa.f DL.DPa.fd ["_law_box", "_law_letters_here"] spPaper := ok_paper DL.DPa DL.DT DL.DSc DL.DCo ml mr mt mi mis mli
  have GWk : FnOk P w K mg base CX0 3 DL.DWk.f DL.DWk.fd ["_law_box", "_law_letters_here", "_law_most"] spWork := ok_work DL.DWk DL.DT DL.DSt ml mr ma
  have GA : FnOk P w K mg base CX0 12 DL.DAl.f DL.DAl.fd psAlike (spAlike 11) := ok_alike DL.DAl mis mb mi ms mt mli ml mr 11
  have GTe : FnOk P w K mg base CX0 5 DL.DTe.f DL.DTe.fd ["_law_scheme_here"] spLTA := fn_any fun x : IMx => ok_lt x.2 T DL.DTe 5 (by decide)
  have GWr : FnOk P w K mg base CX0 6 DL.DWr.f DL.DWr.fd ["paper"] spWritten := ok_written T DP DL.DWr DL.DWW
  have GRd : FnOk P w K mg base CX0 6 DL.DRd.f DL.DRd.fd ["text"] spRead := ok_read T gF DP DL.DRd DL.DKi DL.DSo DL.DTk DL.DCs DL.DFi DL.DCm
  have GWo : FnOk P w K mg base CX0 3 DL.DWo.f DL.DWo.fd ["work"] spWrittenW := ok_written_work T DL.DWo DL.DC DL.DI
  have GRw : FnOk P w K mg base CX0 3 DL.DRw.f DL.DRw.fd ["text"] spReadW := ok_read_work T DL.DRw DL.DC DL.DI
  have nd := sc_law.nd
  refine DW.ok sc_law (fun vs H Q E h => ?_) (fun cdv A outer s H vs Q E hr h => ?_)
  · obtain ⟨a, ns, rfl, _⟩ := h
    rfl
  obtain ⟨a, ns, rfl, hS, hlen, q⟩ := h
  have r1 : Room 1 _ := hr.mono (by decide)
  have r2 : Room 2 _ := hr.mono (by decide)
  have r3 : Room 3 _ := hr.mono (by decide)
  have r5 : Room 5 _ := hr.mono (by decide)
  have r6 : Room 6 _ := hr.mono (by decide)
  have r7 : Room 7 _ := hr.mono (by decide)
  refine ⟨_, pss_cons (ps_set (i := 1) nd rfl (Or.inl rfl) (pcall DL.DBg GBg r1 (pa_cons (pv 0) pa_nil)))
    (pss_cons (ps_for PassesOwn.never rfl (pi_range1 rfl mr (pa_cons pe_int pa_nil)) (pg_name (i := 2) nd rfl (Or.inl rfl))
      (pss_cons (ps_set (i := 3) nd rfl (Or.inl rfl) (pcall DL.DLe GLe r2 (pa_cons (pv 1) pa_nil)))
      (pss_cons (ps_set (i := 4) nd rfl (Or.inl rfl) (pcall DL.DPa GPa r7 (pa_cons (pv 1) (pa_cons (pv 3) pa_nil))))
      (pss_cons (ps_set (i := 5) nd rfl (Or.inl rfl) (pe_join pe_str (pe_lc (own := [("_law_scheme_here", 11)]) (g := gName 11) (tt := tYes) (te := tCall spLTA [] E0 (tCons (tVar 11) tNil)) rfl nd (pi_tup (pv 4)) (blkOk_by (N := nmLaw) (sc := defScope s_law) (by decide +kernel)) (fun _ _ _ _ _ => pg_name (i := 11) nd rfl (Or.inl rfl)) (fun _ _ _ _ _ => pts_nil) (fun _ _ _ _ _ => pcall DL.DTe GTe r5 (pa_cons (pv 11) pa_nil)))))
      (pss_cons (ps_if (PW.pt (pw_or (pt_not (pt_val (pcall DL.DAl GA hr (pa_cons (pcall DL.DWr GWr r6 (pa_cons (pv 4) pa_nil)) (pa_cons (pv 5) pa_nil))))) (pw_or1 (pt_not (pt_val (pcall DL.DAl GA hr (pa_cons (pcall DL.DRd GRd r6 (pa_cons (pv 5) pa_nil)) (pa_cons (pv 4) pa_nil)))))))) (pss_one (ps_ret pe_bl)) pss_nil)
      (pss_cons (ps_set (i := 6) nd rfl (Or.inl rfl) (pcall DL.DWk GWk r3 (pa_cons (pv 1) (pa_cons (pv 3) (pa_cons pe_int pa_nil)))))
      (pss_cons (ps_set (i := 7) nd rfl (Or.inl rfl) (pe_callTy call_list_of rfl mli (by decide +kernel) (pa_cons (pv 6) pa_nil)))
      (pss_cons (ps_set (i := 8) nd rfl (Or.inl rfl) (pe_join pe_str (pv 6)))
      (pss_cons (ps_if (PW.pt (pw_or (pt_not (pt_val (pcall DL.DAl GA hr (pa_cons (pcall DL.DWo GWo r3 (pa_cons (pv 7) pa_nil)) (pa_cons (pv 8) pa_nil))))) (pw_or1 (pt_cmpR (op_neD hr.units) (pv 7) (pv 6) (nomark _))))) (pss_one (ps_ret pe_bl)) pss_nil)
      (pss_one (ps_for PassesOwn.never rfl (pi_range1 rfl mr (pa_cons pe_int pa_nil)) (pg_name (i := 9) nd rfl (Or.inl rfl))
        (pss_cons (ps_set (i := 10) nd rfl (Or.inl rfl) (pcall DL.DRw GRw r3 (pa_cons (pv 8) pa_nil)))
        (pss_cons (ps_if (pt_not (pt_val (pcall DL.DAl GA hr (pa_cons (pv 10) (pa_cons (pv 6) pa_nil))))) (pss_one (ps_ret pe_bl)) pss_nil)
        (pss_one (ps_expr (pe_bm PySem.F.plainAttrs_list PySem.F.slot_list_append PySem.F.type_list_append mt_append (pv 10) (pa_cons pe_str pa_nil)))))))))))))))))
    (pss_one (ps_ret (pe_and (pe_cmpR (op_eqD hr.units) (pcall DL.DRw GRw r3 (pa_cons pe_str pa_nil)) (pe_lst pa_nil) (nomark _)) (pe_one (pe_cmpR op_eq (pcall DL.DWo GWo r3 (pa_cons (pe_lst pa_nil) pa_nil)) pe_str (nomark _))))))), ?_⟩
  refine ⟨_, rfl, a, ns, rfl, hS, hlen, fun b l H1 hb hl B1 s1 => ?_⟩
  dsimp only [gName]
  have toB : ∀ {H H' : Hp}, Box H b l → Same H H' → Box H' b l := fun B k => B.keep (Same.keep (S := []) k) (by simp) (by simp)
  refine ⟨4, rfl, by decide, by decide, ?_⟩
  refine for_range (lo := 0) (n := 4) (fun i σ H' => ∃ v2 v3 v4 v5 v6 v7 v8 v9 v10 : Option V, σ = [some (.ref a), some (.ref b), v2, v3, v4, v5, v6, v7, v8, v9, v10, none] ∧ Box H' b l)
    ⟨none, none, none, none, none, none, none, none, none, rfl, B1⟩ ?_ ?_
  · rintro i σ H2 hi ⟨v2, v3, v4, v5, v6, v7, v8, v9, v10, rfl, B2⟩
    dsimp only [gName]
    refine ⟨_, rfl, b, l, rfl, B2, fun L F H3 hL eL w1 l0 l1 B3 k3 => ?_⟩
    dsimp only [gName]
    have nL := B2.ne_new hL
    have nLi : L ∉ [b, l] := by simp [nL.1, nL.2]
    refine ⟨_, rfl, _, rfl, b, l, L, F, rfl, B3, nL.1, nL.2, eL, w1, l0, l1, fun v ps H4 hp hP B4 k4 => ?_⟩
    dsimp only [gName]
    obtain ⟨pa, pv0, rfl, epv, pp⟩ := hp
    have eL4 := k4 L _ eL nLi
    obtain ⟨ce, hfacts, _, _⟩ := hP.facts
    have hM := hP.2.1
    have lp := Paired.length pp
    refine ⟨⟨_, rfl⟩, _, rfl, pa, rfl, ⟨_, SqT.of epv⟩, fun Dd hD => ?_⟩
    refine lc_it (walk_tup (K := K) (a := pa) (xs := pv0)) (fun k H'' => H'' Dd = some (.lst ((ps.take k).map fun s => V.str (tS 5 s))) ∧ Same H4 H'') ⟨upd_same, Same.new hD⟩ (fun k H'' _ ⟨_, s3⟩ => SqT.of (s3 _ _ epv)) ?_ ?_
    · rintro k y H5 H6 hkl ⟨eD, s3⟩ ⟨rfl, hy⟩
      have hk2 : k < ps.length := by omega
      have ek : ps[k]? = some (ps[k]'hk2) := List.getElem?_eq_getElem hk2
      obtain ⟨y', ey, hsy⟩ := paired_get2 pp ek
      rw [hy] at ey
      cases ey
      have o := (hfacts k _ ek).1
      have htk : ps.take (k + 1) = ps.take k ++ [ps[k]'hk2] := List.take_succ_eq_append_getElem hk2
      generalize ps[k]'hk2 = sc at hsy o htk
      let x : IMx := ⟨(k, ps.length), hM⟩
      refine ⟨rfl, _, rfl, x, y, sc, rfl, SAt.keep (Same.tupK s3) _ _ _ hsy, o, fun H7 s7 => ⟨_, s7 _ _ eD, ?_, ?_, Same.newer (s3.trans s7) hD⟩⟩
      · rw [List.length_map, List.length_take]
        exact small1000 (by omega)
      · rw [upd_same, htk, List.map_append]
        rfl
    rintro H5 ⟨eD, s5⟩
    rw [← lp, List.take_length] at eD
    refine ⟨"\n", Dd, ps.map (tS 5), rfl, rfl, .inl (SqL.of (by rw [eD, List.map_map]; rfl)), ?_, ?_⟩
    · refine join_fits (n := 5) (m := 6566) (by rw [List.length_map]; omega) (fun x hx => ?_) (by decide)
      obtain ⟨s', hs', rfl⟩ := List.mem_map.mp hx
      obtain ⟨j, hj⟩ := List.mem_iff_getElem?.mp hs'
      exact tS_len hM (by decide) (hfacts j s' hj).1
    rw [TL.join_eq]
    show gName 5 (.str (tPp ps)) _ H5 _
    dsimp only [gName]
    have pp5 := paired_imp pp fun x y h => SAt.keep (Same.tupK s5) _ _ _ h
    refine seq_new (b := false || false) (ev_or_new (b := false) (c := false) (fun Q q => ⟨_, rfl, pa, ps, pv0, rfl, s5 _ _ epv, pp5, hP, fun H6 s6 => ⟨_, rfl, _, _, rfl, alk_lt (n := 0) (.inr ⟨_, rfl, rfl⟩) (Nat.zero_le _), fun H7 s7 => ⟨_, rfl, q H7 (s6.trans s7)⟩⟩⟩)
      (fun _ H6 s6 Q q => ⟨_, rfl, ps, rfl, hP, fun p pv1 H7 s7 ep1 pp1 => ⟨_, rfl, _, _, rfl, ?_, fun H8 s8 => ⟨_, rfl, q H8 (s7.trans s8)⟩⟩⟩)) (fun z => nomatch z) (fun _ H6 s6 => ?_)
    · have h57 := s6.trans s7
      refine .inr ⟨p, pa, pv1, pv0, rfl, rfl, .inr ⟨ep1, h57 _ _ (s5 _ _ epv)⟩, ?_, ?_⟩
      · have := Paired.length pp1
        omega
      · refine paired2 pp1 (paired_imp pp5 fun x y h => SAt.keep (Same.tupK h57) _ _ _ h) fun s' hs' x y h1 h2 => ?_
        obtain ⟨j, hj⟩ := List.mem_iff_getElem?.mp hs'
        exact alk_sch (hfacts j s' hj).1 h1 h2
    have s46 := s5.trans s6
    have B6 := toB B4 s46
    refine ⟨_, rfl, _, rfl, b, l, L, F, rfl, B6, nL.1, nL.2, s46 _ _ eL4, w1, l0, l1, fun wa ws H7 hwa ewa hW B7 k7 => ?_⟩
    dsimp only [gName]
    have nwa := B6.ne_new hwa
    have lws : (stepsV ws).length = ws.length := List.length_map _
    have h12 := hW.2
    refine ⟨_, rfl, wa, _, rfl, .inl (SqL.of ewa), fun ha hha => ?_⟩
    have s8 : Same H7 (upd H7 ha (.lst (stepsV ws))) := Same.new hha
    have eha : upd H7 ha (.lst (stepsV ws)) ha = some (.lst (stepsV ws)) := upd_same
    have ewa8 := s8 _ _ ewa
    have B8 := toB B7 s8
    dsimp only [gName]
    generalize upd H7 ha (.lst (stepsV ws)) = H8 at s8 eha ewa8 B8 ⊢
    refine ⟨⟨_, rfl⟩, _, rfl, " ", wa, ws.map stepS, rfl, rfl, .inl (SqL.of (by rw [ewa8]; unfold stepsV; rw [List.map_map]; rfl)), join_fits (n := 12) (m := 2) (by rw [List.length_map]; exact h12) (fun x hx => ?_) (by decide), ?_⟩
    · obtain ⟨p, hp, rfl⟩ := List.mem_map.mp hx
      rw [(WorkFrom.steps hW.1 p hp).len]
      decide
    rw [TL.join_eq]
    show gName 8 (.str (lineOf ws)) _ H8 _
    dsimp only [gName]
    have hst := WorkFrom.steps hW.1
    refine seq_new (b := false || false) (ev_or_new (b := false) (c := false) (fun Q q => ⟨_, rfl, ha, ws, rfl, eha, hW, fun H9 s9 => ⟨_, rfl, _, _, rfl, alk_lt (n := 0) (.inr ⟨_, rfl, rfl⟩) (Nat.zero_le _), fun H10 s10 => ⟨_, rfl, q H10 (s9.trans s10)⟩⟩⟩)
      (fun _ H9 s9 Q q => ⟨_, rfl, _, rfl, .list _, .list _, .lst (SqL.of (s9 _ _ eha)) (steps_dp ws), .lst (SqL.of (s9 _ _ ewa8)) (steps_dp ws), (ShN.lst (steps_sh hst)).ok (by decide), (ShN.lst (steps_sh hst)).ok (by decide), _, rfl, ?_⟩)) (fun z => nomatch z) (fun _ H9 s9 => ?_)
    · rw [show PyData.eqv (.list (ws.map fun p => PyData.str (stepS p))) (.list (ws.map fun p => PyData.str (stepS p))) = true by rw [PyData.eqv]; exact steps_same ws]
      exact q H9 (Same.refl _)
    refine ⟨2, rfl, by decide, by decide, ?_⟩
    refine for_range (lo := 0) (n := 2) (fun j σ H' => ∃ v9 v10 : Option V, σ = [some (.ref a), some (.ref b), some (.int (0 + (i : Int))), some (.ref L), some (.ref pa), some (.str (tPp ps)), some (.ref wa), some (.ref ha), some (.str (lineOf ws)), v9, v10, none] ∧ Box H' b l ∧ H' wa = some (.lst (stepsV ws)))
      ⟨v9, v10, rfl, toB B8 s9, s9 _ _ ewa8⟩ ?_ ?_
    · rintro j σ H10 hj ⟨v9, v10, rfl, B10, ewa10⟩
      dsimp only [gName]
      refine ⟨_, rfl, ws, rfl, hW, fun f H11 s11 hf ef => ?_⟩
      dsimp only [gName]
      have ewa11 := s11 _ _ ewa10
      have B11 := toB B10 s11
      have nfb : f ≠ b ∧ f ≠ l := B10.ne_new hf
      have nfw : wa ≠ f := ne_of_none ewa10 hf
      refine seq_new (b := false) (fun Q q => ⟨_, rfl, _, rfl, _, _, rfl, alk_lt (n := 1) (.inr ⟨f, wa, _, _, rfl, rfl, .inl ⟨ef, ewa11⟩, by rw [lws]; omega, alk_steps ws⟩) (by decide), fun H12 s12 => ⟨_, rfl, q H12 s12⟩⟩) (fun z => nomatch z) (fun _ H12 s12 => ?_)
      refine ⟨_, rfl, .inl ⟨rfl, _, SqL.of (s12 _ _ ef)⟩, f, _, _, rfl, rfl, s12 _ _ ef, small1000 (by rw [lws]; omega), ?_⟩
      exact ⟨_, _, rfl, (toB B11 s12).put nfb.1 nfb.2, by rw [upd_ne nfw]; exact s12 _ _ ewa11⟩
    · rintro σ H10 ⟨v9, v10, rfl, B10, ewa10⟩
      exact ⟨_, _, _, _, _, _, _, _, _, rfl, B10⟩
  · rintro σ H2 ⟨v2, v3, v4, v5, v6, v7, v8, v9, v10, rfl, B2⟩
    dsimp only
    have w0 : WorkOk [] := ⟨trivial, by decide⟩
    refine ⟨[], rfl, w0, fun f H3 s3 hf ef => ⟨Nat.zero_le _, fun p hp => ⟨.list [], .list [], .lst (SqL.of (Same.new hp _ _ ef)) .nil, .lst (SqL.of upd_same) .nil, (ShN.lst (n := 0) .nil).ok (by decide), (ShN.lst (n := 0) .nil).ok (by decide), _, rfl, ?_⟩⟩⟩
    refine iteT ⟨Nat.zero_le _, fun p2 hp2 => ⟨p2, [], rfl, upd_same, w0, fun H5 s5 => ⟨rfl, ?_⟩⟩⟩
    rw [show decide (V.str (lineOf []) = V.str "") = true from decide_eq_true rfl]
    exact q H5
end
end MS
end
section
set_option maxRecDepth 100000
set_option maxHeartbeats 0
namespace K3H
open PySem PySem.W PySem.Calls PyProof.Rows
abbrev R : OpenRow := OpenLaw.row PySem.Challenge.rw_markscript_k12_papers_and_works_written
abbrev qv : Program := view R.prog [57]
def names0 : List PySem.Str := ["MarkError", "BadPaper", "BadWork", "BadText", "WORDS", "RIGHT", "WRONG", "CARRIED", "MOST_STEPS", "is_step", "check_work", "SHAPES", "BOUNDS", "MOST_WITHIN", "is_number", "fits", "can_be", "within", "MOST_IN_PAPER", "MOST_IN_SCHEME", "LONGEST_PLACE", "EARNERS", "MOST_EARNERS", "WATCHERS", "MOST_WATCHERS", "placed", "schemes_in"]
def names1 : List PySem.Str := ["many_of", "check_paper", "MOST_FIGURES", "words_written", "written", "written_work", "is_figures", "can_stand", "coming", "kinds_in", "taken", "scheme_of", "read", "read_work", "_law_begun", "_law_take", "_law_alike", "_law_letters", "_law_scheme", "_law_counted", "_law_paper", "_law_step", "_law_work", "_law_text"]
def names : List PySem.Str := names0 ++ names1
/-- a def of the top -/
def dG (x : PySem.Str) (st : Stmt) : He.DefD := ⟨(x, none), x, x, L2.defArgs st, L2.defBody st, L2.defScope st, [], []⟩
def dM (m q : PySem.Str) (st : Stmt) : He.DefD := ⟨("View", some m), m, q, L2.defArgs st, L2.defBody st, L2.defScope st, [], []⟩
def fn0 : List He.DefD := [dG "is_step" MS.s_is_step, dG "check_work" MS.s_check_work, dG "is_number" MS.s_is_number, dG "fits" MS.s_fits, dG "can_be" MS.s_can_be, dG "within" MS.s_within, dG "placed" MS.s_placed, dG "schemes_in" MS.s_schemes_in, dG "many_of" MS.s_many_of, dG "check_paper" MS.s_check_paper, dG "words_written" MS.s_words_written, dG "written" MS.s_written, dG "written_work" MS.s_written_work, dG "is_figures" MS.s_is_figures, dG "can_stand" MS.s_can_stand, dG "coming" MS.s_coming, dG "kinds_in" MS.s_kinds_in, dG "taken" MS.s_taken]
def fn1 : List He.DefD := [dG "scheme_of" MS.s_scheme_of, dG "read" MS.s_read, dG "read_work" MS.s_read_work, dG "_law_begun" MS.s_L_begun, dG "_law_take" MS.s_L_take, dG "_law_alike" MS.s_L_alike, dG "_law_letters" MS.s_L_letters, dG "_law_scheme" MS.s_L_scheme, dG "_law_counted" MS.s_L_counted, dG "_law_paper" MS.s_L_paper, dG "_law_step" MS.s_L_step, dG "_law_work" MS.s_L_work, dG "_law_text" MS.s_L_text, dG "law" MS.s_law]
def fnM : List He.DefD := []
def fn : List He.DefD := fn0 ++ (fn1 ++ (fnM))
def glo0 : List PySem.Str := ["WORDS", "is_step", "check_work", "SHAPES", "BOUNDS", "is_number", "fits", "can_be", "within", "EARNERS", "WATCHERS", "placed", "schemes_in", "many_of", "check_paper", "words_written", "written", "written_work", "is_figures", "can_stand", "coming", "kinds_in"]
def glo1 : List PySem.Str := ["taken", "scheme_of", "read", "read_work", "_law_begun", "_law_take", "_law_alike", "_law_letters", "_law_scheme", "_law_counted", "_law_paper", "_law_step", "_law_work", "_law_text", "law"]
def gloL : List PySem.Str := glo0 ++ glo1
def freeL : List PySem.Str := ["len", "list", "range", "tuple", "int", "isinstance", "any", "all", "zip", "enumerate", "str", "bool", "min", "max", "sum", "sorted", "set", "reversed"]
def restF : List He.Fa := [.str "RIGHT" "r", .str "WRONG" "w", .str "CARRIED" "c", .int "MOST_STEPS" 12, .int "MOST_WITHIN" 4, .int "MOST_IN_PAPER" 5, .int "MOST_IN_SCHEME" 12, .int "LONGEST_PLACE" 4, .int "MOST_EARNERS" 7, .int "MOST_WATCHERS" 3, .int "MOST_FIGURES" 2]
def methF : List He.Fa := []
def fa : List He.Fa := gloL.map .glo ++ (freeL.map .free ++ (restF ++ methF))
/-- what stands at a key of a dict of the top, if it is an object -/
def inD (x k : PySem.Str) (K : Frag) : Addr := match nsIn K (He.ga K x) k with
  | some (some (.ref a)) => a
  | _ => 0
/-- a tuple of these stands there -/
def tupAt (K : Frag) (a : Addr) (vs : List L2.V) : Bool := match K.lookup a with
  | some ⟨.type c, _, .seq its _, _⟩ => decide (c = "tuple") && (decide (its.size ≤ sizeLine) && He.relAll vs its.toList)
  | _ => false
def entB (x : PySem.Str) (k : PySem.Str) (vs : List L2.V) (K : Frag) : Bool := He.eqO (nsIn K (He.ga K x) k) (some (some (.ref (inD x k K)))) && tupAt K (inD x k K) vs
def shapesV : List (PySem.Str × List L2.V) := [("step", [.str "word", .str "points"]), ("all", [.str "schemes"]), ("best", [.str "schemes"]), ("most", [.str "limit", .str "scheme"]), ("half", [.str "scheme"]), ("seen", [.str "word", .str "scheme"]), ("behind", [.str "word", .str "scheme"]), ("carry", [.str "scheme"]), ("end", [.str "word", .str "points", .str "scheme"]), ("use", [.str "later"])]
def boundsV : List (PySem.Str × List L2.V) := [("points", [.int 1, .int 9]), ("limit", [.int 0, .int 30])]
def wordsD : List He.Dv := [.str "a", .str "b", .str "c", .str "d", .str "e", .str "f", .str "g", .str "h"]
def ex (K : Frag) : Bool := He.tupB K "WORDS" wordsD && (He.tupB K "EARNERS" [.str "step", .str "end"] && (He.tupB K "WATCHERS" [.str "seen", .str "behind"] && (shapesV.all (fun p => entB "SHAPES" p.1 p.2 K) && boundsV.all (fun p => entB "BOUNDS" p.1 p.2 K))))
def ts : List He.Tab := [(fun K => He.ga K "SHAPES", shapesV.map (·.1)), (fun K => He.ga K "BOUNDS", boundsV.map (·.1))]
abbrev hk : Hook := He.hookX 5 fa fn ts [] ex
def ob (s : SharedT) : He.AlX := He.obsX 5 fa fn ts [] ex (HandSHeadRun.getT s)
theorem ob_eq (s : SharedT) : ob s = hk.obs s.abs := He.obsX_eq (HandSHeadRun.getT_eq s)
theorem run (w : World) : HandSHeadRun.RunEq R qv hk ob 4000 names w :=
  byRow2 "special-get-raises" (P := fun w => HandSHeadRun.RunEq R qv hk ob 4000 names w) (fun w os => by kernel_rfl) (fun w os => by kernel_rfl) w
end K3H
end
section
set_option maxRecDepth 100000
set_option maxHeartbeats 4000000
namespace MS
open PySem L2
/-! ### the head: what the top has left -/
theorem tupAt_ok {K : PySem.W.Frag} {a : Addr} {vs : List V} (h : K3H.tupAt K a vs = true) (H : Hp) : SqT K H a vs := by
  unfold K3H.tupAt at h
  cases q : K.lookup a with
  | none =>
    rw [q] at h
    cases h
  | some o =>
    obtain ⟨oc, od, dt, osl⟩ := o
    rw [q] at h
    cases oc with
    | type c =>
      cases dt with
      | seq its n =>
        obtain ⟨g1, g2⟩ := He.ba (show (decide (c = "tuple") && (decide (its.size ≤ sizeLine) && He.relAll vs its.toList)) = true from h)
        obtain ⟨g3, g4⟩ := He.ba g2
        exact .inr ⟨_, its, n, q, congrArg Value.type (of_decide_eq_true g1), rfl, of_decide_eq_true g3, He.relAll_ok g4⟩
      | _ => cases h
    | _ => cases dt <;> cases h
theorem ent_ok {w : World} {K : PySem.W.Frag} {x k : Str} {vs : List V} (hd : ∃ es n, KDict K w (He.ga K x) es n) (h : K3H.entB x k vs K = true) : ∃ t, KDct K w (He.ga K x) k (.ref t) ∧ ∀ H, SqT K H t vs := by
  obtain ⟨h1, h2⟩ := He.ba h
  obtain ⟨es, n, l, kl, _⟩ := hd
  exact ⟨K3H.inD x k K, ⟨es, n, _, l, kl, He.eqO_ok h1, rfl⟩, fun H => tupAt_ok h2 H⟩
section
variable {w : World} {K : PySem.W.Frag} {h : Heap} {mg : Str → Option Value}
theorem fa_glo (c : He.SaysD K3H.fa K3H.fn K) {x : Str} (hx : x ∈ K3H.gloL) : (He.Fa.glo x).ok K = true := c.facts (List.mem_append_left _ (List.mem_map_of_mem hx))
theorem fa_free (c : He.SaysD K3H.fa K3H.fn K) {x : Str} (hx : x ∈ K3H.freeL) : (He.Fa.free x).ok K = true := c.facts (List.mem_append_right _ (List.mem_append_left _ (List.mem_map_of_mem hx)))
theorem fa_rest (c : He.SaysD K3H.fa K3H.fn K) (i : Nat) {f : He.Fa} (hi : K3H.restF[i]? = some f := by rfl) : f.ok K = true := c.facts (List.mem_append_right _ (List.mem_append_right _ (List.mem_append_left _ (List.mem_of_getElem? hi))))
theorem fa_meth (c : He.SaysD K3H.fa K3H.fn K) (i : Nat) {f : He.Fa} (hi : K3H.methF[i]? = some f := by rfl) : f.ok K = true := c.facts (List.mem_append_right _ (List.mem_append_right _ (List.mem_append_right _ (List.mem_of_getElem? hi))))
theorem fn_0 (c : He.SaysD K3H.fa K3H.fn K) (i : Nat) {d : He.DefD} (hi : K3H.fn0[i]? = some d := by rfl) : ∃ fd, FunD K d.name d.qual d.params d.body d.scope (d.dvs K) (d.kws K) (He.fAd K d.at_) fd := c.defs (List.mem_append_left _ (List.mem_of_getElem? hi))
theorem fn_1 (c : He.SaysD K3H.fa K3H.fn K) (i : Nat) {d : He.DefD} (hi : K3H.fn1[i]? = some d := by rfl) : ∃ fd, FunD K d.name d.qual d.params d.body d.scope (d.dvs K) (d.kws K) (He.fAd K d.at_) fd := c.defs (List.mem_append_right _ (List.mem_append_left _ (List.mem_of_getElem? hi)))
theorem fn_M (c : He.SaysD K3H.fa K3H.fn K) (i : Nat) {d : He.DefD} (hi : K3H.fnM[i]? = some d := by rfl) : ∃ fd, FunD K d.name d.qual d.params d.body d.scope (d.dvs K) (d.kws K) (He.fAd K d.at_) fd := c.defs (List.mem_append_right _ (List.mem_append_right _ (List.mem_of_getElem? hi)))
noncomputable def mkDef (X : K.In h) (G : h.Ns mainGlobals mg) (x : Str) (st : Stmt) (ps : List Str) (hg : (He.Fa.glo x).ok K = true) (hd : ∃ fd, FnP K x st (He.ga K x) fd) (hb : ∀ fd, FnP K x st (He.ga K x) fd → Binds K fd ps []) : Def K mg x st ps :=
  ⟨He.ga K x, hd.choose, hd.choose_spec, He.glo_ok X G hg, hb _ hd.choose_spec⟩
theorem ptx (X : K.In h) (G : h.Ns mainGlobals mg) (c : He.SaysT K3H.fa K3H.fn K3H.ts w K) (e : K3H.ex K = true) : PTx w K mg := by
  have d := c.d
  obtain ⟨e1, e⟩ := He.ba e
  obtain ⟨e2, e⟩ := He.ba e
  obtain ⟨e3, e⟩ := He.ba e
  obtain ⟨e4, e5⟩ := He.ba e
  have tS := c.tab 0 (t := (fun K => He.ga K "SHAPES", K3H.shapesV.map (·.1))) rfl
  have tB := c.tab 1 (t := (fun K => He.ga K "BOUNDS", K3H.boundsV.map (·.1))) rfl
  have bS : ∀ p ∈ K3H.boundsV, ∃ t, KDct K w (He.ga K "BOUNDS") p.1 (.ref t) ∧ ∀ H, SqT K H t p.2 := fun p hp => ent_ok tB (List.all_eq_true.mp e5 p hp)
  obtain ⟨t1, k1, q1⟩ := bS ("points", [.int 1, .int 9]) List.mem_cons_self
  obtain ⟨t2, k2, q2⟩ := bS ("limit", [.int 0, .int 30]) (List.mem_cons_of_mem _ List.mem_cons_self)
  have hSh : ∀ p ∈ shapesL, ∃ t, KDct K w (He.ga K "SHAPES") p.1 (.ref t) ∧ ∀ H, SqT K H t (p.2.map V.str) := fun p hp => by
    have hm : (p.1, p.2.map V.str) ∈ K3H.shapesV := by
      have hp' : (p.1, p.2.map V.str) ∈ shapesL.map fun p => (p.1, p.2.map V.str) := List.mem_map_of_mem (f := fun p : Str × List Str => (p.1, p.2.map V.str)) hp
      exact hp'
    exact ent_ok (x := "SHAPES") (k := p.1) (vs := p.2.map V.str) tS (List.all_eq_true.mp e4 _ hm)
  exact {
    words := ⟨_, He.glo_ok X G (fa_glo d (x := "WORDS") (by decide +kernel)), fun H => He.tupB_ok e1 H⟩
    right := He.str_ok X G (fa_rest d 0)
    wrong := He.str_ok X G (fa_rest d 1)
    carried := He.str_ok X G (fa_rest d 2)
    mostSteps := He.int_ok X G (fa_rest d 3)
    mostWithin := He.int_ok X G (fa_rest d 4)
    mostInPaper := He.int_ok X G (fa_rest d 5)
    mostInScheme := He.int_ok X G (fa_rest d 6)
    longest := He.int_ok X G (fa_rest d 7)
    mostE := He.int_ok X G (fa_rest d 8)
    mostW := He.int_ok X G (fa_rest d 9)
    earners := ⟨_, He.glo_ok X G (fa_glo d (x := "EARNERS") (by decide +kernel)), fun H => He.tupB_ok e2 H⟩
    watchers := ⟨_, He.glo_ok X G (fa_glo d (x := "WATCHERS") (by decide +kernel)), fun H => He.tupB_ok e3 H⟩
    shapes := ⟨_, He.glo_ok X G (fa_glo d (x := "SHAPES") (by decide +kernel)), by
      obtain ⟨_, _, _, _, z⟩ := tS
      exact z, hSh⟩
    bounds := ⟨_, He.glo_ok X G (fa_glo d (x := "BOUNDS") (by decide +kernel)), t1, t2, k1, q1, k2, q2⟩
    free := fun x hx => He.free_ok X G (fa_free d hx) }
end
end MS
end
section
set_option maxRecDepth 100000
set_option maxHeartbeats 4000000
namespace MS
open PySem L2
section
set_option maxHeartbeats 0
theorem facts {P : Program} {w : World} {K : PySem.W.Frag} {h : Heap} {mg : Str → Option Value} {f : Addr} (X : K.In h) (G : h.Ns mainGlobals mg) (hfa : mg ("law" : Str) = some (.ref f)) (c : He.SaysX K3H.fa K3H.fn K3H.ts [] K3H.ex w h K) :
    ∃ fd : FuncData, (∀ (s : Shared) (v : Value), BindsTo s fd ⟨[v], []⟩ [("_law_script", v)]) ∧ ∀ base : Heap, K.In base → base.Ns mainGlobals mg → FnOk P w K mg base CX0 13 f fd ["_law_script"] (spLaw K) := by
  have d := c.t.d
  have T := ptx X G c.t c.more
  let DP : DPaper K mg := {
    DN := (mkDef X G "is_number" s_is_number ["thing"] (fa_glo d (by decide +kernel)) (fn_0 d 2 (d := K3H.dG "is_number" s_is_number)) fun fd F => F.bindsN fun _ _ _ _ _ _ us hl => match us, hl with | [_], _ => rfl)
    DF := (mkDef X G "fits" s_fits ["part", "kind", "number", "many"] (fa_glo d (by decide +kernel)) (fn_0 d 3 (d := K3H.dG "fits" s_fits)) fun fd F => F.bindsN fun _ _ _ _ _ _ us hl => match us, hl with | [_, _, _, _], _ => rfl)
    DB := (mkDef X G "can_be" s_can_be ["thing", "number", "many"] (fa_glo d (by decide +kernel)) (fn_0 d 4 (d := K3H.dG "can_be" s_can_be)) fun fd F => F.bindsN fun _ _ _ _ _ _ us hl => match us, hl with | [_, _, _], _ => rfl)
    DI := (mkDef X G "within" s_within ["scheme"] (fa_glo d (by decide +kernel)) (fn_0 d 5 (d := K3H.dG "within" s_within)) fun fd F => F.bindsN fun _ _ _ _ _ _ us hl => match us, hl with | [_], _ => rfl)
    DP := (mkDef X G "placed" s_placed ["schemes", "place"] (fa_glo d (by decide +kernel)) (fn_0 d 6 (d := K3H.dG "placed" s_placed)) fun fd F => F.bindsN fun _ _ _ _ _ _ us hl => match us, hl with | [_, _], _ => rfl)
    DS := (mkDef X G "schemes_in" s_schemes_in ["paper", "number"] (fa_glo d (by decide +kernel)) (fn_0 d 7 (d := K3H.dG "schemes_in" s_schemes_in)) fun fd F => F.bindsN fun _ _ _ _ _ _ us hl => match us, hl with | [_, _], _ => rfl)
    DM := (mkDef X G "many_of" s_many_of ["names", "parts"] (fa_glo d (by decide +kernel)) (fn_0 d 8 (d := K3H.dG "many_of" s_many_of)) fun fd F => F.bindsN fun _ _ _ _ _ _ us hl => match us, hl with | [_, _], _ => rfl)
    DC := (mkDef X G "check_paper" s_check_paper ["paper"] (fa_glo d (by decide +kernel)) (fn_0 d 9 (d := K3H.dG "check_paper" s_check_paper)) fun fd F => F.bindsN fun _ _ _ _ _ _ us hl => match us, hl with | [_], _ => rfl) }
  let DL : D12 K mg := {
    DBg := (mkDef X G "_law_begun" s_L_begun ["_law_script"] (fa_glo d (by decide +kernel)) (fn_1 d 3 (d := K3H.dG "_law_begun" s_L_begun)) fun fd F => F.bindsN fun _ _ _ _ _ _ us hl => match us, hl with | [_], _ => rfl)
    DT := (mkDef X G "_law_take" s_L_take ["_law_box", "_law_many"] (fa_glo d (by decide +kernel)) (fn_1 d 4 (d := K3H.dG "_law_take" s_L_take)) fun fd F => F.bindsN fun _ _ _ _ _ _ us hl => match us, hl with | [_, _], _ => rfl)
    DAl := (mkDef X G "_law_alike" s_L_alike ["_law_found", "_law_due"] (fa_glo d (by decide +kernel)) (fn_1 d 5 (d := K3H.dG "_law_alike" s_L_alike)) fun fd F => F.bindsN fun _ _ _ _ _ _ us hl => match us, hl with | [_, _], _ => rfl)
    DLe := (mkDef X G "_law_letters" s_L_letters ["_law_box"] (fa_glo d (by decide +kernel)) (fn_1 d 6 (d := K3H.dG "_law_letters" s_L_letters)) fun fd F => F.bindsN fun _ _ _ _ _ _ us hl => match us, hl with | [_], _ => rfl)
    DSc := (mkDef X G "_law_scheme" s_L_scheme ["_law_box", "_law_letters_here", "_law_left", "_law_deep", "_law_uses"] (fa_glo d (by decide +kernel)) (fn_1 d 7 (d := K3H.dG "_law_scheme" s_L_scheme)) fun fd F => F.bindsN fun _ _ _ _ _ _ us hl => match us, hl with | [_, _, _, _, _], _ => rfl)
    DCo := (mkDef X G "_law_counted" s_L_counted ["_law_scheme_here", "_law_uses"] (fa_glo d (by decide +kernel)) (fn_1 d 8 (d := K3H.dG "_law_counted" s_L_counted)) fun fd F => F.bindsN fun _ _ _ _ _ _ us hl => match us, hl with | [_, _], _ => rfl)
    DPa := (mkDef X G "_law_paper" s_L_paper ["_law_box", "_law_letters_here"] (fa_glo d (by decide +kernel)) (fn_1 d 9 (d := K3H.dG "_law_paper" s_L_paper)) fun fd F => F.bindsN fun _ _ _ _ _ _ us hl => match us, hl with | [_, _], _ => rfl)
    DSt := (mkDef X G "_law_step" s_L_step ["_law_box", "_law_letters_here", "_law_was_wrong"] (fa_glo d (by decide +kernel)) (fn_1 d 10 (d := K3H.dG "_law_step" s_L_step)) fun fd F => F.bindsN fun _ _ _ _ _ _ us hl => match us, hl with | [_, _, _], _ => rfl)
    DWk := (mkDef X G "_law_work" s_L_work ["_law_box", "_law_letters_here", "_law_most"] (fa_glo d (by decide +kernel)) (fn_1 d 11 (d := K3H.dG "_law_work" s_L_work)) fun fd F => F.bindsN fun _ _ _ _ _ _ us hl => match us, hl with | [_, _, _], _ => rfl)
    DTe := (mkDef X G "_law_text" s_L_text ["_law_scheme_here"] (fa_glo d (by decide +kernel)) (fn_1 d 12 (d := K3H.dG "_law_text" s_L_text)) fun fd F => F.bindsN fun _ _ _ _ _ _ us hl => match us, hl with | [_], _ => rfl)
    DI := (mkDef X G "is_step" s_is_step ["thing"] (fa_glo d (by decide +kernel)) (fn_0 d 0 (d := K3H.dG "is_step" s_is_step)) fun fd F => F.bindsN fun _ _ _ _ _ _ us hl => match us, hl with | [_], _ => rfl)
    DC := (mkDef X G "check_work" s_check_work ["work"] (fa_glo d (by decide +kernel)) (fn_0 d 1 (d := K3H.dG "check_work" s_check_work)) fun fd F => F.bindsN fun _ _ _ _ _ _ us hl => match us, hl with | [_], _ => rfl)
    DWW := (mkDef X G "words_written" s_words_written ["scheme"] (fa_glo d (by decide +kernel)) (fn_0 d 10 (d := K3H.dG "words_written" s_words_written)) fun fd F => F.bindsN fun _ _ _ _ _ _ us hl => match us, hl with | [_], _ => rfl)
    DWr := (mkDef X G "written" s_written ["paper"] (fa_glo d (by decide +kernel)) (fn_0 d 11 (d := K3H.dG "written" s_written)) fun fd F => F.bindsN fun _ _ _ _ _ _ us hl => match us, hl with | [_], _ => rfl)
    DWo := (mkDef X G "written_work" s_written_work ["work"] (fa_glo d (by decide +kernel)) (fn_0 d 12 (d := K3H.dG "written_work" s_written_work)) fun fd F => F.bindsN fun _ _ _ _ _ _ us hl => match us, hl with | [_], _ => rfl)
    DFi := (mkDef X G "is_figures" s_is_figures ["word"] (fa_glo d (by decide +kernel)) (fn_0 d 13 (d := K3H.dG "is_figures" s_is_figures)) fun fd F => F.bindsN fun _ _ _ _ _ _ us hl => match us, hl with | [_], _ => rfl)
    DCs := (mkDef X G "can_stand" s_can_stand ["word", "kind"] (fa_glo d (by decide +kernel)) (fn_0 d 14 (d := K3H.dG "can_stand" s_can_stand)) fun fd F => F.bindsN fun _ _ _ _ _ _ us hl => match us, hl with | [_, _], _ => rfl)
    DCm := (mkDef X G "coming" s_coming ["word", "kind"] (fa_glo d (by decide +kernel)) (fn_0 d 15 (d := K3H.dG "coming" s_coming)) fun fd F => F.bindsN fun _ _ _ _ _ _ us hl => match us, hl with | [_, _], _ => rfl)
    DKi := (mkDef X G "kinds_in" s_kinds_in ["words", "start"] (fa_glo d (by decide +kernel)) (fn_0 d 16 (d := K3H.dG "kinds_in" s_kinds_in)) fun fd F => F.bindsN fun _ _ _ _ _ _ us hl => match us, hl with | [_, _], _ => rfl)
    DTk := (mkDef X G "taken" s_taken ["parts", "many"] (fa_glo d (by decide +kernel)) (fn_0 d 17 (d := K3H.dG "taken" s_taken)) fun fd F => F.bindsN fun _ _ _ _ _ _ us hl => match us, hl with | [_, _], _ => rfl)
    DSo := (mkDef X G "scheme_of" s_scheme_of ["words", "kinds"] (fa_glo d (by decide +kernel)) (fn_1 d 0 (d := K3H.dG "scheme_of" s_scheme_of)) fun fd F => F.bindsN fun _ _ _ _ _ _ us hl => match us, hl with | [_, _], _ => rfl)
    DRd := (mkDef X G "read" s_read ["text"] (fa_glo d (by decide +kernel)) (fn_1 d 1 (d := K3H.dG "read" s_read)) fun fd F => F.bindsN fun _ _ _ _ _ _ us hl => match us, hl with | [_], _ => rfl)
    DRw := (mkDef X G "read_work" s_read_work ["text"] (fa_glo d (by decide +kernel)) (fn_1 d 2 (d := K3H.dG "read_work" s_read_work)) fun fd F => F.bindsN fun _ _ _ _ _ _ us hl => match us, hl with | [_], _ => rfl) }
  let DW : Def K mg "law" s_law ["_law_script"] := (mkDef X G "law" s_law ["_law_script"] (fa_glo d (by decide +kernel)) (fn_1 d 13 (d := K3H.dG "law" s_law)) fun fd F => F.bindsN fun _ _ _ _ _ _ us hl => match us, hl with | [_], _ => rfl)
  have e : f = DW.f := by
    have e := hfa.symm.trans DW.g
    cases e
    rfl
  subst e
  exact ⟨DW.fd, fun s v => FunD.bindsA (ps := ["_law_script"]) DW.F (fun _ _ _ _ _ _ us hl => match us, hl with | [_], _ => rfl) s [v] rfl, fun base _ _ => ok_law T (He.int_ok X G (fa_rest d 10)) DP DL DW⟩
end
end MS
end
set_option Elab.async false
open PySem PySem.W PySem.Calls PyProof.Rows
set_option maxRecDepth 100000 in
set_option maxHeartbeats 0 in
theorem PySem.Challenge.cw_markscript_k12_papers_and_works_written_holds : PySem.Challenge.rw_markscript_k12_papers_and_works_written.Holds := by
  w_on; o_law
  refine HandSHeadRun.head_any (r := OpenLaw.row PySem.Challenge.rw_markscript_k12_papers_and_works_written) (q := view (OpenLaw.row PySem.Challenge.rw_markscript_k12_papers_and_works_written).prog [57]) (H := K3H.hk) (ob := K3H.ob) (M := 4000) (loose := K3H.names) (d := HandSHeadRun.topDef (OpenLaw.row PySem.Challenge.rw_markscript_k12_papers_and_works_written).prog 57) (kwd := []) K3H.ob_eq
    (by kernel_rfl) (fun s => by kernel_rfl) K3H.run (by kernel_rfl) (by kernel_rfl) (by kernel_rfl) (by rfl) (by first | assumption | decide +kernel) (by decide +kernel) ⟨rfl, rfl, rfl, rfl, rfl, by decide +kernel⟩ ?hw ?hc
  case hw => w_witness2
  case hc =>
    refine L2.walk_ofE (l := PySem.Challenge.rw_markscript_k12_papers_and_works_written) (n := 63) (k := 13) (x := "_law_script") (CX := L2.CX0) rfl (by decide) (by kernel_rfl) ⟨rfl, by decide, by decide⟩ ?F (fun _ _ _ _ z => z)
    intro w mg fa h Y G hmg0
    obtain ⟨K, KX, c⟩ := Y
    have hmg : mg ("law" : PySem.Str) = some (.ref fa) := by
      have e : (HandSHeadRun.topDef (OpenLaw.row PySem.Challenge.rw_markscript_k12_papers_and_works_written).prog 57).name = ("law" : PySem.Str) := by kernel_rfl
      rw [← e]
      exact hmg0
    obtain ⟨fd, hb, hF⟩ := MS.facts (P := (PySem.Challenge.rw_markscript_k12_papers_and_works_written).prog) (w := w) KX G hmg c
    exact ⟨K, fd, MS.spLaw K, KX, hb, fun H a ns hl _ hS => ⟨a, ns, rfl, hS, hl, fun _ => rfl⟩, hF⟩
#print axioms PySem.Challenge.cw_markscript_k12_papers_and_works_written_holds
