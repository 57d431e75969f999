import PyProof.Rows.All
import Wide.All
import OpenK.AllK
import Wide.FinOn
import KE.KStateDown
import HandS.Walk
import HandS.Conv
import HandS.Head0
import HandS.Head1
import HandS.Head2
import HandS.HeadEnd
import HandS.HeadHook1
import HandS.HeadHook2
import HandS.HeadHook3
import HandS.HeadHook4
import HandS.NestedK
import HandS.EndTab
import HandS.HeadWalk
import Lean
import KE.DataMinKey
import HandS.ForMost
import HandS.Exc
import HandS.TryOnly
import HandS.ExcOwn
import HandS.WordsExc
import HandS.Defaults
import HandS.Flow
import HandS.Style
import HandS.TupAny
import HandS.Zip
import HandS.IsInst
import HandS.RevRange
import HandS.SetKeys
import HandS.WrittenGet
import HandS.Strs
import HandS.SortKw
import KE.GoesEnum
import KE.KExcSuper
import HandS.ExcInit
import HandS.ExcSuper
import HandS.Nested
import HandS.FStr
import KE.KExcIs
import HandS.ExcIs
import HandS.ExcField
import KE.KDictZip
import KE.KItemsList
import KE.KTurns
import HandS.Base
import HandS.Call
import HandS.List
import HandS.Iter
import HandS.Dict
import HandS.ListItems
import KE.GoesEnumKw
import PyProof.EqAt
import PyProof.EqKinds
import PyProof.TupleCall
import HandS.FStrTup
import PyProof.NeKinds
import PyProof.StrOps2
import HandS.Text
import HandS.Lambda
import HandS.RaiseMore
import HandS.StrMore
import PySem.Challenge.RW_markscript_k13_texts_refused
set_option Elab.async false
set_option linter.all false
set_option maxRecDepth 100000
section
set_option maxRecDepth 100000
set_option maxHeartbeats 4000000
namespace MS
open PySem L2
def topS (i : Nat) : Stmt := PySem.Challenge.pw_markscript_k13_texts_refused.main.body.getD i (.Pass ⟨0, 0, 0, 0⟩)
abbrev s_is_number : Stmt := topS 13
/-- slots: 0 thing -/
theorem sc_is_number : FnScope ["thing"] ["thing"] (defScope s_is_number) := ⟨rfl, rfl, rfl, by decide +kernel, rfl, by decide +kernel, by decide +kernel⟩
abbrev s_fits : Stmt := topS 14
/-- slots: 0 part, 1 kind, 2 number, 3 many, 4 least, 5 most -/
theorem sc_fits : FnScope ["part", "kind", "number", "many", "least", "most"] ["part", "kind", "number", "many"] (defScope s_fits) := ⟨rfl, rfl, rfl, by decide +kernel, rfl, by decide +kernel, by decide +kernel⟩
abbrev s_can_be : Stmt := topS 15
/-- slots: 0 thing, 1 number, 2 many, 3 shape, 4 part, 5 kind -/
theorem sc_can_be : FnScope ["thing", "number", "many", "shape", "part", "kind"] ["thing", "number", "many"] (defScope s_can_be) := ⟨rfl, rfl, rfl, by decide +kernel, rfl, by decide +kernel, by decide +kernel⟩
abbrev s_within : Stmt := topS 16
/-- slots: 0 scheme, 1 last -/
theorem sc_within : FnScope ["scheme", "last"] ["scheme"] (defScope s_within) := ⟨rfl, rfl, rfl, by decide +kernel, rfl, by decide +kernel, by decide +kernel⟩
abbrev s_placed : Stmt := topS 25
/-- slots: 0 schemes, 1 place, 2 at, 3 scheme -/
theorem sc_placed : FnScope ["schemes", "place", "at", "scheme"] ["schemes", "place"] (defScope s_placed) := ⟨rfl, rfl, rfl, by decide +kernel, rfl, by decide +kernel, by decide +kernel⟩
abbrev s_schemes_in : Stmt := topS 26
/-- slots: 0 paper, 1 number, 2 found, 3 waiting, 4 place, 5 scheme -/
theorem sc_schemes_in : FnScope ["paper", "number", "found", "waiting", "place", "scheme"] ["paper", "number"] (defScope s_schemes_in) := ⟨rfl, rfl, rfl, by decide +kernel, rfl, by decide +kernel, by decide +kernel⟩
abbrev s_many_of : Stmt := topS 27
/-- slots: 0 names, 1 parts, 2 many, 3 number, 4 scheme -/
theorem sc_many_of : FnScope ["names", "parts", "many", "number", "scheme"] ["names", "parts"] (defScope s_many_of) := ⟨rfl, rfl, rfl, by decide +kernel, rfl, by decide +kernel, by decide +kernel⟩
abbrev s_check_paper : Stmt := topS 28
/-- slots: 0 paper, 1 parts, 2 number -/
theorem sc_check_paper : FnScope ["paper", "parts", "number"] ["paper"] (defScope s_check_paper) := ⟨rfl, rfl, rfl, by decide +kernel, rfl, by decide +kernel, by decide +kernel⟩
abbrev s_L_begun : Stmt := topS 39
/-- slots: 0 _law_script, 1 _law_stirred, 2 _law_cell -/
theorem sc_L_begun : FnScope ["_law_script", "_law_stirred", "_law_cell"] ["_law_script"] (defScope s_L_begun) := ⟨rfl, rfl, rfl, by decide +kernel, rfl, by decide +kernel, by decide +kernel⟩
abbrev s_L_take : Stmt := topS 40
/-- slots: 0 _law_box, 1 _law_many, 2 _law_number -/
theorem sc_L_take : FnScope ["_law_box", "_law_many", "_law_number_here"] ["_law_box", "_law_many"] (defScope s_L_take) := ⟨rfl, rfl, rfl, by decide +kernel, rfl, by decide +kernel, by decide +kernel⟩
abbrev s_L_alike : Stmt := topS 41
/-- slots: 0 _law_found, 1 _law_due, 2 _law_k -/
theorem sc_L_alike : FnScope ["_law_found", "_law_due_here", "_law_k"] ["_law_found", "_law_due_here"] (defScope s_L_alike) := ⟨rfl, rfl, rfl, by decide +kernel, rfl, by decide +kernel, by decide +kernel⟩
abbrev s_L_letters : Stmt := topS 43
/-- slots: 0 _law_box, 1 _law_left, 2 _law_found, 3 _law_turn -/
theorem sc_L_letters : FnScope ["_law_box", "_law_left", "_law_found", "_law_turn"] ["_law_box"] (defScope s_L_letters) := ⟨rfl, rfl, rfl, by decide +kernel, rfl, by decide +kernel, by decide +kernel⟩
abbrev s_L_scheme : Stmt := topS 44
/-- slots: 0 _law_box, 1 _law_letters_here, 2 _law_left, 3 _law_deep, 4 _law_uses, 5 _law_word, 6 _law_way, 7 _law_one, 8 _law_some, 9 _law_kids, 10 _law_turn -/
theorem sc_L_scheme : FnScope ["_law_box", "_law_letters_here", "_law_left", "_law_deep", "_law_uses", "_law_word", "_law_way", "_law_one", "_law_some", "_law_kids", "_law_turn"] ["_law_box", "_law_letters_here", "_law_left", "_law_deep", "_law_uses"] (defScope s_L_scheme) := ⟨rfl, rfl, rfl, by decide +kernel, rfl, by decide +kernel, by decide +kernel⟩
abbrev s_L_counted : Stmt := topS 45
/-- slots: 0 _law_scheme_here, 1 _law_uses, 2 _law_found, 3 _law_kid, 4 _law_more, 5 _law_one -/
theorem sc_L_counted : FnScope ["_law_scheme_here", "_law_uses", "_law_found", "_law_kid", "_law_more", "_law_one"] ["_law_scheme_here", "_law_uses"] (defScope s_L_counted) := ⟨rfl, rfl, rfl, by decide +kernel, rfl, by decide +kernel, by decide +kernel⟩
abbrev s_L_paper : Stmt := topS 46
/-- slots: 0 _law_box, 1 _law_letters_here, 2 _law_left, 3 _law_words, 4 _law_turn, 5 _law_steps, 6 _law_whole, 7 _law_many, 8 _law_found, 9 _law_uses, 10 _law_number, 11 _law_scheme_here, 12 _law_word -/
theorem sc_L_paper : FnScope ["_law_box", "_law_letters_here", "_law_left", "_law_words", "_law_turn", "_law_steps", "_law_whole", "_law_many", "_law_found", "_law_uses", "_law_number_here", "_law_scheme_here", "_law_word"] ["_law_box", "_law_letters_here"] (defScope s_L_paper) := ⟨rfl, rfl, rfl, by decide +kernel, rfl, by decide +kernel, by decide +kernel⟩
abbrev FnP (K : PySem.W.Frag) (x : Str) (st : Stmt) (f : Addr) (fd : FuncData) : Prop := FunD K x x (defArgs st) (defBody st) (defScope st) [] [] f fd
/-- a def of the text: where it stands, by which name it is called -/
structure Def (K : PySem.W.Frag) (mg : Str → Option Value) (x : Str) (st : Stmt) (ps : List Str) where
  f : Addr
  fd : FuncData
  F : FnP K x st f fd
  g : mg x = some (.ref f)
  b : Binds K fd ps []
theorem pcall {X : Cx} {x : Str} {st : Stmt} {ps : List Str} {k : Nat} {sp : Sp} {e : Expr} {es : List Expr} {t : TA} {p pos : Pos} (D : Def X.K X.mg x st ps) (G : FnOk X.prog X.w X.K X.mg X.base CX0 k D.f D.fd ps sp) (hr : Room k X.A)
    (ha : PA X (e :: es) t) (hg : Gl X x := by rfl) (hdb : (x == ("__debug__" : Str)) = false := by decide) (he : starEach (e :: es) X.env = (false, eval e X.env) :: starEach es X.env := by rfl) (hpl : (backTo pos (starEach es X.env)).any (·.1) = false := by rfl) : PE X (.Call (.Name x p) (e :: es) [] pos) (tCall sp [] E0 t) :=
  pe_call G hr hg D.g D.F.kp D.b .nil pass0 ha hdb he hpl

/-- THE RULE for a def that lets nothing out -/
theorem Def.ok {P : Program} {w : World} {K : PySem.W.Frag} {mg : Str → Option Value} {base : Heap} {x : Str} {st : Stmt} {ps N : List Str} {k : Nat} {sp : Sp} (D : Def K mg x st ps) (S : FnScope N ps (defScope st)) (len : ∀ vs H Q E, sp vs H Q E → vs.length = ps.length)
    (hbody : ∀ (cdv : Value) (A : Around) (outer : List Env) (s : Shared) (H : Hp) (vs : List V) (Q : VK) (E : XK), Room k (A.deeper (PyProof.Rows.envOfC x (defScope st) s.heap.objs.size D.f cdv)) → sp vs H Q E →
      ∃ t, PSs (cxOf CX0 P w K mg base N x (defScope st) D.f cdv A outer s H E).nox (defBody st) t ∧ t { nx := fun _ H' => Q .non H', rt := Q } (start N vs) H) : FnOk P w K mg base CX0 (k + 1) D.f D.fd ps sp :=
  D.F.ok S len fun cdv A outer s H vs Q E hr hsp => by
    obtain ⟨t, h, q⟩ := hbody cdv A outer s H vs Q E hr hsp
    exact ⟨t, h.nox, q⟩

/-! ### what stays -/
/-- all but what stands at these addresses is as it was -/
def Keep (S : List Addr) (H H' : Hp) : Prop := ∀ a o, H a = some o → a ∉ S → H' a = some o
theorem Keep.refl (S : List Addr) (H : Hp) : Keep S H H := fun _ _ h _ => h
theorem Keep.trans {S : List Addr} {H H1 H2 : Hp} (a : Keep S H H1) (b : Keep S H1 H2) : Keep S H H2 := fun c o h n => b c o (a c o h n) n
theorem Keep.mono {S T : List Addr} {H H' : Hp} (a : Keep S H H') (h : ∀ x ∈ S, x ∈ T) : Keep T H H' := fun c o e n => a c o e fun z => n (h c z)
theorem Keep.same {H H' : Hp} (a : Keep [] H H') : Same H H' := fun b o h => a b o h (by simp)
theorem Same.keep {S : List Addr} {H H' : Hp} (a : Same H H') : Keep S H H' := fun b o h _ => a b o h
theorem Keep.new {S : List Addr} {H : Hp} {p : Addr} {o : HO} (h : H p = none) : Keep S H (upd H p o) := fun b u q _ => by rw [upd_ne (ne_of_none q h)]; exact q
theorem Same.new {H : Hp} {p : Addr} {o : HO} (h : H p = none) : Same H (upd H p o) := fun b u q => by rw [upd_ne (ne_of_none q h)]; exact q
theorem Keep.put {S : List Addr} {H : Hp} {p : Addr} {o : HO} (h : p ∈ S) : Keep S H (upd H p o) := fun b u q n => by rw [upd_ne (fun z => n (by rw [z]; exact h))]; exact q
theorem Keep.free {S : List Addr} {H H' : Hp} (e : Keep S H H') {l : Addr} (h : H' l = none) (hS : ∀ x ∈ S, H x ≠ none → H' x ≠ none) : H l = none := by
  cases q : H l with
  | none => rfl
  | some o =>
    by_cases m : l ∈ S
    · exact absurd h (hS l m (by rw [q]; exact fun z => nomatch z))
    · rw [e l o q m] at h; cases h

/-! ### data that may be compared -/
def ShN (n : Nat) (d : PyData) : Prop := d.canLay0 = true ∧ d.depth ≤ n
def ShAll (n : Nat) (ds : List PyData) : Prop := PyData.canLayAll0 ds = true ∧ PyData.depthAll ds ≤ n
theorem ShAll.nil {n : Nat} : ShAll n [] := ⟨rfl, Nat.zero_le _⟩
theorem ShAll.cons {n : Nat} {d : PyData} {ds : List PyData} (h : ShN n d) (r : ShAll n ds) : ShAll n (d :: ds) :=
  ⟨by rw [PyData.canLayAll0, h.1, r.1]; rfl, by rw [PyData.depthAll]; exact Nat.max_le.mpr ⟨h.2, r.2⟩⟩
theorem ShN.int {n : Nat} (i : Int) : ShN n (.int i) := ⟨by rw [PyData.canLay0], by rw [PyData.depth]; exact Nat.zero_le _⟩
theorem ShN.str {n : Nat} {x : Str} (h : PyData.strOk x = true) : ShN n (.str x) := ⟨by rw [PyData.canLay0]; exact h, by rw [PyData.depth]; exact Nat.zero_le _⟩
theorem ShN.lst {n : Nat} {ds : List PyData} (h : ShAll n ds) : ShN (n + 1) (.list ds) := ⟨by rw [PyData.canLay0]; exact h.1, by rw [PyData.depth]; exact Nat.succ_le_succ h.2⟩
theorem ShN.tup {n : Nat} {ds : List PyData} (h : ShAll n ds) : ShN (n + 1) (.tuple ds) := ⟨by rw [PyData.canLay0]; exact h.1, by rw [PyData.depth]; exact Nat.succ_le_succ h.2⟩
theorem ShN.mono {n m : Nat} {d : PyData} (h : ShN n d) (hm : n ≤ m) : ShN m d := ⟨h.1, Nat.le_trans h.2 hm⟩
theorem ShN.ok {n : Nat} {d : PyData} (h : ShN n d) (hn : n ≤ 64) : SeqAt.shaped d = true := by
  unfold SeqAt.shaped
  rw [h.1, decide_eq_true (Nat.le_trans h.2 hn)]
  rfl
theorem ShAll.of {n : Nat} : ∀ {ds : List PyData}, (∀ d ∈ ds, ShN n d) → ShAll n ds
  | [], _ => .nil
  | d :: r, h => .cons (h d List.mem_cons_self) (ShAll.of fun e he => h e (List.mem_cons_of_mem _ he))
theorem sh_ints (n : Nat) (ns : List Int) : ShAll n (ns.map PyData.int) := ShAll.of fun d h => by
  obtain ⟨i, _, rfl⟩ := List.mem_map.mp h
  exact .int i
/-! ### the box of draws: the script's numbers left, and the number behind them -/
def Box (H : Hp) (b l : Addr) : Prop := b ≠ l ∧ (∃ n : Int, H b = some (.lst [.ref l, .int n])) ∧ ∃ ns : List Int, H l = some (.lst (ns.map V.int))
theorem Box.keep {S : List Addr} {H H' : Hp} {b l : Addr} (h : Box H b l) (k : Keep S H H') (hb : b ∉ S) (hl : l ∉ S) : Box H' b l := by
  obtain ⟨ne, ⟨n, e1⟩, ns, e2⟩ := h
  exact ⟨ne, ⟨n, k _ _ e1 hb⟩, ns, k _ _ e2 hl⟩
def spTake : Sp := fun vs H Q _ => ∃ (b l : Addr) (m : Int), vs = [.ref b, .int m] ∧ 0 < m ∧ m < 1073741824 ∧ Box H b l ∧
  ∀ (r : Int) (H' : Hp), 0 ≤ r → r < m → Box H' b l → Keep [b, l] H H' → Q (.int r) H'
section
variable {P : Program} {w : World} {K : PySem.W.Frag} {mg : Str → Option Value} {base : Heap}
theorem dp_ints {K : PySem.W.Frag} {H : Hp} : ∀ ns : List Int, DpAll K H (ns.map V.int) (ns.map PyData.int)
  | [] => .nil
  | n :: r => .cons (.int n) (dp_ints r)
theorem at0 {x : V} {xs : List V} : atI (x :: xs) 0 = some x := at_of rfl rfl
theorem at1 {x y : V} {xs : List V} : atI (x :: y :: xs) 1 = some y := at_of rfl rfl
theorem at2 {x y z : V} {xs : List V} : atI (x :: y :: z :: xs) 2 = some z := at_of rfl rfl
theorem ix0 {n : Nat} : ixN (n + 1) 0 = some 0 := by
  unfold ixN
  rw [if_pos (by omega), if_pos (by omega)]
  rfl
theorem seq0 {n : Nat} : seqIndex? 0 (n + 1) = some 0 := (ixN_seq ix0).1
theorem ok_take (D : Def K mg "_law_take" s_L_take ["_law_box", "_law_many"]) : FnOk P w K mg base CX0 1 D.f D.fd ["_law_box", "_law_many"] spTake := by
  refine D.ok sc_L_take (fun vs H Q E h => ?_) (fun cdv A outer s H vs Q E hr h => ?_)
  · obtain ⟨b, l, m, rfl, _⟩ := h
    rfl
  obtain ⟨b, l, m, rfl, m0, m1, ⟨nbl, ⟨n, eb⟩, ns, el⟩, q⟩ := h
  refine ⟨_, pss_cons (ps_if (pt_cmpR (op_eqD hr.units) (pe_ix ix_list (pv 0) pe_int (fun _ _ => rfl)) (pe_lst pa_nil) (nomark _))
      (pss_cons (ps_asg (pe_op op_mod (pe_op op_mul (pe_ix ix_list (pv 0) pe_int (fun _ _ => rfl)) pe_int) pe_int) (pg_sub (pv 0) pe_int set_list))
        (pss_one (ps_ret (pe_op op_mod (pe_op op_fdiv (pe_ix ix_list (pv 0) pe_int (fun _ _ => rfl)) pe_int) (pv 1))))) pss_nil)
    (pss_cons (ps_set (i := 2) sc_L_take.nd rfl (Or.inl rfl) (pe_ix ix_list (pe_ix ix_list (pv 0) pe_int (fun _ _ => rfl)) pe_int (fun _ _ => rfl)))
    (pss_cons (ps_asg (pe_op op_fdiv (pv 2) (pv 1)) (pg_sub (pe_ix ix_list (pv 0) pe_int (fun _ _ => rfl)) pe_int set_list))
    (pss_cons (ps_if (PW.pt (pw_or (pt_cmpR op_eq (pe_ix ix_list (pe_ix ix_list (pv 0) pe_int (fun _ _ => rfl)) pe_int (fun _ _ => rfl)) pe_int (nomark _))
        (pw_or1 (pt_cmpR op_eq (pe_ix ix_list (pe_ix ix_list (pv 0) pe_int (fun _ _ => rfl)) pe_int (fun _ _ => rfl)) (pe_un un_neg pe_int) (nomark _)))))
        (pss_one (ps_expr (pe_bm PySem.F.plainAttrs_list PySem.F.slot_list_pop PySem.F.type_list_pop mt_popAt (pe_ix ix_list (pv 0) pe_int (fun _ _ => rfl)) (pa_cons pe_int pa_nil)))) pss_nil)
    (pss_one (ps_ret (pe_op op_mod (pv 2) (pv 1))))))), ?_⟩
  refine ⟨_, rfl, b, _, 0, .ref l, rfl, rfl, SqL.of eb, rfl, ?_⟩
  refine ⟨Nat.zero_le _, fun p hp => ?_⟩
  have nlp : l ≠ p := ne_of_none el hp
  have nbp : b ≠ p := ne_of_none eb hp
  have eb1 : upd H p (.lst []) b = some (.lst [.ref l, .int n]) := by rw [upd_ne nbp]; exact eb
  have el1 : upd H p (.lst []) l = some (.lst (ns.map V.int)) := by rw [upd_ne nlp]; exact el
  have k1 : Keep [b, l] H (upd H p (.lst [])) := Keep.new hp
  refine ⟨.list (ns.map PyData.int), .list [], .lst (SqL.of el1) (dp_ints ns), .lst (SqL.of upd_same) .nil, ?_, rfl, ?_⟩
  · exact (ShN.lst (sh_ints 0 ns)).ok (by decide)
  refine ⟨_, rfl, ?_⟩
  refine ite2 (fun c => ?_) (fun c => ?_)
  · refine ⟨_, rfl, b, _, 1, .int n, rfl, rfl, SqL.of eb1, rfl, _, _, rfl, rfl, .inr ⟨by decide, by decide⟩, _, _, rfl, rfl, (by show (0 : Int) < 2147483647; decide), ?_⟩
    refine ⟨_, rfl, b, _, 1, 1, rfl, rfl, eb1, rfl, ?_⟩
    refine ⟨_, rfl, b, _, 1, _, rfl, rfl, SqL.of upd_same, rfl, _, _, rfl, rfl, ⟨by decide, by decide⟩, _, rfl, _, _, rfl, rfl, m0, ?_⟩
    refine q _ _ (Int.emod_nonneg _ (by omega)) (Int.emod_lt_of_pos _ m0) ⟨nbl, ⟨_, upd_same⟩, ns, ?_⟩ (k1.trans (Keep.put (by simp)))
    rw [upd_ne nbl.symm]
    exact el1
  · have hne : ns ≠ [] := fun z => c (by rw [z]; rfl)
    obtain ⟨z, r, rfl⟩ : ∃ z r, ns = z :: r := by
      cases ns with
      | nil => exact absurd rfl hne
      | cons z r => exact ⟨z, r, rfl⟩
    refine ⟨_, rfl, b, _, 0, .ref l, rfl, rfl, SqL.of eb1, rfl, l, _, 0, .int z, rfl, rfl, SqL.of el1, at0, ?_⟩
    refine ⟨_, rfl, _, rfl, _, _, rfl, rfl, ⟨m0, m1⟩, _, rfl, b, _, 0, .ref l, rfl, rfl, SqL.of eb1, rfl, l, _, 0, 0, rfl, rfl, el1, ix0, ?_⟩
    have eb2 : ∀ o, upd (upd H p (.lst [])) l o b = some (.lst [.ref l, .int n]) := fun o => by rw [upd_ne nbl]; exact eb1
    refine ⟨_, rfl, b, _, 0, .ref l, rfl, rfl, SqL.of (eb2 _), rfl, l, _, 0, .int (z / m), rfl, rfl, SqL.of upd_same, at0, rfl, _, rfl, ?_⟩
    have fin : ∀ (H' : Hp), Box H' b l → Keep [b, l] H H' → Q (.int (z % m)) H' := fun H' B k => q _ _ (Int.emod_nonneg _ (by omega)) (Int.emod_lt_of_pos _ m0) B k
    have k2 : ∀ o, Keep [b, l] H (upd (upd H p (.lst [])) l o) := fun o => k1.trans (Keep.put (by simp))
    refine ite2 (fun c2 => ?_) (fun c2 => ?_)
    · refine iteT ⟨_, rfl, b, _, 0, .ref l, rfl, rfl, SqL.of (eb2 _), rfl, .inl ⟨rfl, _, SqL.of upd_same⟩, l, _, 0, 0, _, rfl, rfl, upd_same, by decide, by decide, seq0, rfl, ?_⟩
      refine ⟨_, rfl, _, rfl, _, _, rfl, rfl, m0, fin _ ⟨nbl, ⟨n, by rw [upd_ne nbl]; exact eb2 _⟩, r, upd_same⟩ ((k2 _).trans (Keep.put (by simp)))⟩
    · refine ⟨_, rfl, b, _, 0, .ref l, rfl, rfl, SqL.of (eb2 _), rfl, l, _, 0, .int (z / m), rfl, rfl, SqL.of upd_same, at0, _, rfl, rfl, _, rfl, ?_⟩
      by_cases c3 : decide (V.int (z / m) = V.int (-1)) = true
      · show (if decide (V.int (z / m) = V.int (-1)) = true then _ else _)
        rw [if_pos c3]
        refine ⟨_, rfl, b, _, 0, .ref l, rfl, rfl, SqL.of (eb2 _), rfl, .inl ⟨rfl, _, SqL.of upd_same⟩, l, _, 0, 0, _, rfl, rfl, upd_same, by decide, by decide, seq0, rfl, ?_⟩
        refine ⟨_, rfl, _, rfl, _, _, rfl, rfl, m0, fin _ ⟨nbl, ⟨n, by rw [upd_ne nbl]; exact eb2 _⟩, r, upd_same⟩ ((k2 _).trans (Keep.put (by simp)))⟩
      · show (if decide (V.int (z / m) = V.int (-1)) = true then _ else _)
        rw [if_neg c3]
        refine ⟨_, rfl, _, rfl, _, _, rfl, rfl, m0, fin _ ⟨nbl, ⟨n, eb2 _⟩, (z / m) :: r, upd_same⟩ (k2 _)⟩
end
end MS
end
section
set_option maxRecDepth 100000
set_option maxHeartbeats 4000000
namespace MS
open PySem L2
/-! ### words, steps -/
def wordsL : List Str := ["a", "b", "c", "d", "e", "f", "g", "h"]
def marksL : List Str := ["r", "w", "c"]
def IsW (x : Str) : Prop := x ∈ wordsL
def IsM (x : Str) : Prop := x ∈ marksL
theorem IsW.len {x : Str} (h : IsW x) : x.length = 1 := by
  have h' : x ∈ wordsL := h
  have q : ∀ y ∈ wordsL, y.length = 1 := by decide +kernel
  exact q x h'
theorem IsM.len {x : Str} (h : IsM x) : x.length = 1 := by
  have h' : x ∈ marksL := h
  have q : ∀ y ∈ marksL, y.length = 1 := by decide +kernel
  exact q x h'
theorem IsW.ok {x : Str} (h : IsW x) : PyData.strOk x = true := by
  have h' : x ∈ wordsL := h
  have q : ∀ y ∈ wordsL, PyData.strOk y = true := by decide +kernel
  exact q x h'
/-- a step: its word, how it was done -/
abbrev StepT := Str × Str
def stepS (p : StepT) : Str := p.1 ++ p.2
def IsStep (p : StepT) : Prop := IsW p.1 ∧ IsM p.2
theorem step_look : ∀ x ∈ wordsL, ∀ m ∈ marksL, (∃ c, atI (stepS (x, m)).cps.toList 0 = some c ∧ (⟨#[c]⟩ : Str) = x) ∧ (∃ c, atI (stepS (x, m)).cps.toList 1 = some c ∧ (⟨#[c]⟩ : Str) = m) ∧ (stepS (x, m)).length = 2 ∧ PyData.strOk (stepS (x, m)) = true := by
  intro x hx m hm
  simp only [wordsL, marksL, List.mem_cons, List.not_mem_nil, or_false] at hx hm
  rcases hx with rfl | rfl | rfl | rfl | rfl | rfl | rfl | rfl <;> rcases hm with rfl | rfl | rfl <;> exact ⟨⟨_, rfl, by decide +kernel⟩, ⟨_, rfl, by decide +kernel⟩, by decide +kernel, by decide +kernel⟩
theorem IsStep.at0 {p : StepT} (h : IsStep p) : ∃ c, atI (stepS p).cps.toList 0 = some c ∧ (⟨#[c]⟩ : Str) = p.1 := (step_look p.1 h.1 p.2 h.2).1
theorem IsStep.at1 {p : StepT} (h : IsStep p) : ∃ c, atI (stepS p).cps.toList 1 = some c ∧ (⟨#[c]⟩ : Str) = p.2 := (step_look p.1 h.1 p.2 h.2).2.1
theorem IsStep.len {p : StepT} (h : IsStep p) : (stepS p).length = 2 := (step_look p.1 h.1 p.2 h.2).2.2.1
theorem IsStep.ok {p : StepT} (h : IsStep p) : PyData.strOk (stepS p) = true := (step_look p.1 h.1 p.2 h.2).2.2.2
/-- steps of which none is carried on without a wrong one ahead; w: there was one -/
def WorkFrom : Bool → List StepT → Prop
  | _, [] => True
  | w, p :: r => IsStep p ∧ (p.2 = "c" → w = true) ∧ WorkFrom (w || p.2 == "w") r
def WorkOk (ws : List StepT) : Prop := WorkFrom false ws ∧ ws.length ≤ 12
def anyWrong (ws : List StepT) : Bool := ws.any fun p => p.2 == "w"
theorem WorkFrom.snoc : ∀ {ws : List StepT} {w : Bool} {p : StepT}, WorkFrom w ws → IsStep p → (p.2 = "c" → (w || anyWrong ws) = true) → WorkFrom w (ws ++ [p])
  | [], w, p, _, hp, hc => ⟨hp, fun e => by
      have z := hc e
      rw [show anyWrong [] = false from rfl, Bool.or_false] at z
      exact z, trivial⟩
  | q :: r, w, p, h, hp, hc => ⟨h.1, h.2.1, WorkFrom.snoc h.2.2 hp fun e => by
      have z := hc e
      rw [show anyWrong (q :: r) = ((q.2 == "w") || anyWrong r) from rfl] at z
      rw [Bool.or_assoc]
      exact z⟩
theorem WorkFrom.all : ∀ {ws : List StepT} {w : Bool}, WorkFrom w ws → ∀ p ∈ ws, IsStep p
  | [], _, _, p, h => by cases h
  | q :: r, _, h, p, hp => by
    rcases List.mem_cons.mp hp with rfl | hp
    · exact h.1
    · exact WorkFrom.all h.2.2 p hp
def stepsV (ws : List StepT) : List V := ws.map fun p => V.str (stepS p)

/-! ### list(text) -/
def rListS : List V → Hp → VK → Prop := fun xs H Q => ∃ x : Str, xs = [.str x] ∧ x.cps.size ≤ sizeLine ∧ ∀ p, H p = none → Q (.ref p) (upd H p (.lst (x.cps.toList.map fun c => V.str ⟨#[c]⟩)))
theorem cr_listStr {X : Cx} (hc : X.calm = true) : CallR X (.type "list") rListS := by
  intro pins s σ H xs us Q I r h
  obtain ⟨x, rfl, hz, q⟩ := h
  obtain ⟨u, rfl, ru⟩ := vals1 r
  obtain ⟨t, rfl⟩ := ru
  refine call_list_str (hn := hz) (I.ok.hd hc) x t fun h' tk acc c' hk e hi => ?_
  refine (fun (hv : Vals (x.cps.toList.map fun c => V.str ⟨#[c]⟩) acc.toList) => ?_) ?_
  · exact ⟨.ref s.heap.objs.size, upd H s.heap.objs.size (.lst (x.cps.toList.map fun c => V.str ⟨#[c]⟩)), I.laid hk (Nat.le_refl _) ⟨by rw [List.length_map, Array.length_toList]; exact hz, acc.toList, c', hv, by rw [Array.toArray_toList]; exact e⟩, rfl, q _ (I.hok.fresh (Nat.le_refl _))⟩
  refine vals_of_idx _ _ (by rw [List.length_map, Array.length_toList, Array.length_toList]; exact hi.1) fun j u hj => ?_
  obtain ⟨c, t', hc, rfl⟩ := hi.2 j u (by rw [← Array.getElem?_toList]; exact hj)
  exact ⟨.str ⟨#[c]⟩, by simp [hc], ⟨_, rfl⟩⟩
theorem letters_of : (("abcdefgh" : Str).cps.toList.map fun c => V.str ⟨#[c]⟩) = wordsL.map V.str := by decide +kernel

/-! ### the draws' begin -/
def spBegun (K : PySem.W.Frag) : Sp := fun vs H Q _ => ∃ (a : Addr) (ns : List Int), vs = [.ref a] ∧ SqL K H a (ns.map V.int) ∧ ns.length ≤ 63 ∧
  ∀ (b l : Addr) (H' : Hp), H b = none → H l = none → Box H' b l → Same H H' → Q (.ref b) H'
section
variable {P : Program} {w : World} {K : PySem.W.Frag} {mg : Str → Option Value} {base : Heap}
theorem ok_begun (D : Def K mg "_law_begun" s_L_begun ["_law_script"]) (ml : mg "len" = none) (mli : mg "list" = none) (mi : mg "int" = none) : FnOk P w K mg base CX0 1 D.f D.fd ["_law_script"] (spBegun K) := by
  refine D.ok sc_L_begun (fun vs H Q E h => ?_) (fun cdv A outer s H vs Q E hr h => ?_)
  · obtain ⟨a, ns, rfl, _⟩ := h
    rfl
  obtain ⟨a, ns, rfl, hS, hlen, q⟩ := h
  refine ⟨_, pss_cons (ps_set (i := 1) sc_L_begun.nd rfl (Or.inl rfl) pe_int)
    (pss_cons (ps_for PassesOwn.never rfl (pi_list (pv 0)) (pg_name (i := 2) sc_L_begun.nd rfl (Or.inl rfl))
      (pss_one (ps_set (i := 1) sc_L_begun.nd rfl (Or.inl rfl) (pe_op op_mod (pe_op op_add (pe_op op_add (pe_op op_mul (pv 1) pe_int) (pe_op op_mul (pv 2) pe_int)) pe_int) pe_int))))
    (pss_one (ps_ret (pe_lst (pa_cons (pe_callTy call_list_of rfl mli (by decide +kernel) (pa_cons (pv 0) pa_nil))
      (pa_cons (pe_op op_mul (pv 1) (pe_callTy call_int1 rfl mi (by decide +kernel) (pa_cons (pe_cmpR op_gt (pe_callB call_len_seq rfl ml PySem.boot_len (pa_cons (pv 0) pa_nil)) pe_int (nomark _)) pa_nil))) pa_nil)))))), ?_⟩
  refine ⟨_, rfl, a, rfl, ⟨_, hS⟩, for_list (K := K) (a := a) (xs := ns.map V.int) (fun i σ H' => ∃ (z : Int) (v : Option V), σ = [some (.ref a), some (.int z), v] ∧ H' = H)
    ⟨0, none, rfl, rfl⟩ (fun i σ H' _ ⟨_, _, _, e⟩ => by rw [e]; exact hS) ?_ ?_⟩
  · rintro i y σ H' hi ⟨z, v, rfl, rfl⟩
    obtain ⟨u, rfl⟩ : ∃ u, y = V.int u := by
      obtain ⟨u, _, e⟩ := List.mem_map.mp (List.mem_of_getElem? hi)
      exact ⟨u, e.symm⟩
    exact ⟨_, rfl, _, _, rfl, rfl, .inr ⟨by decide, by decide⟩, _, rfl, _, _, rfl, rfl, .inr ⟨by decide, by decide⟩, _, _, rfl, rfl, _, _, rfl, rfl, _, _, rfl, rfl, (by show (0 : Int) < 2147483647; decide), _, _, rfl, rfl⟩
  · rintro σ H' ⟨z, v, rfl, rfl⟩
    refine ⟨_, rfl, a, _, rfl, .inl hS, fun l hl => ?_⟩
    have s1 : Same H' (upd H' l (.lst (ns.map V.int))) := Same.new hl
    refine ⟨_, rfl, _, rfl, a, _, rfl, .inl (s1.seq hS), _, _, rfl, rfl, .inr ⟨_, rfl, ?_⟩⟩
    refine ⟨_, _, rfl, rfl, .inr ?_, ?_⟩
    · split <;> exact ⟨by decide, by decide⟩
    refine ⟨(by show 2 ≤ sizeLine; decide), fun b hb => ?_⟩
    have nb : l ≠ b := ne_of_none upd_same hb
    have hb0 : H' b = none := s1.free hb
    refine q b l _ hb0 hl ⟨nb.symm, ⟨_, upd_same⟩, ns, by rw [upd_ne nb]; exact upd_same⟩ (s1.trans (Same.new hb))
/-! ### the letters -/
def spLetters : Sp := fun vs H Q _ => ∃ (b l : Addr), vs = [.ref b] ∧ Box H b l ∧
  ∀ (p : Addr) (F : List Str) (H' : Hp), H p = none → H' p = some (.lst (F.map V.str)) → (∀ x ∈ F, IsW x) → 0 < F.length → F.length ≤ 8 → Box H' b l → Keep [b, l] H H' → Q (.ref p) H'
end
end MS
end
section
set_option maxRecDepth 100000
set_option maxHeartbeats 4000000
namespace MS
open PySem L2
theorem mem_eraseIdx {α : Type} {l : List α} {k : Nat} {x : α} (h : x ∈ l.eraseIdx k) : x ∈ l := List.mem_of_mem_eraseIdx h
theorem map_erase {α β : Type} (f : α → β) : ∀ (l : List α) (k : Nat), (l.map f).eraseIdx k = (l.eraseIdx k).map f
  | [], _ => rfl
  | _ :: _, 0 => rfl
  | a :: r, k + 1 => congrArg (f a :: ·) (map_erase f r k)
theorem seq_of {n : Nat} {i : Int} (h0 : 0 ≤ i) (h1 : i < n) : seqIndex? i n = some i.toNat := by
  have e : ixN n i = some i.toNat := by
    unfold ixN
    rw [if_pos h0, if_pos h1]
  exact (ixN_seq e).1
theorem atI_of {α : Type} {l : List α} {i : Int} {x : α} (h0 : 0 ≤ i) (h : l[i.toNat]? = some x) : atI l i = some x := by
  have e : i = ((i.toNat : Nat) : Int) := by omega
  rw [e]
  exact atI_nat h
theorem get_map {α β : Type} (f : α → β) (l : List α) {i : Nat} (h : i < l.length) : (l.map f)[i]? = some (f (l[i]'h)) := by
  rw [List.getElem?_map, List.getElem?_eq_getElem h]
  rfl
theorem Keep.newer {S : List Addr} {H H1 : Hp} {p : Addr} {o : HO} (k : Keep S H H1) (h : H p = none) : Keep S H (upd H1 p o) := fun b u q n => by
  rw [upd_ne (ne_of_none q h)]
  exact k b u q n
theorem Box.ne_new {H : Hp} {b l x : Addr} (B : Box H b l) (hx : H x = none) : x ≠ b ∧ x ≠ l := by
  obtain ⟨_, ⟨n, e1⟩, ns, e2⟩ := B
  exact ⟨(ne_of_none e1 hx).symm, (ne_of_none e2 hx).symm⟩
theorem Box.nin {H : Hp} {b l x : Addr} (B : Box H b l) (hx : H x = none) : x ∉ [b, l] := fun hm => by
  rcases List.mem_cons.mp hm with e | hm
  · exact (B.ne_new hx).1 e
  · exact (B.ne_new hx).2 (List.mem_singleton.mp hm)
theorem Box.put {H : Hp} {b l x : Addr} {o : HO} (B : Box H b l) (hb : x ≠ b) (hl : x ≠ l) : Box (upd H x o) b l := by
  obtain ⟨ne, ⟨n, e1⟩, ns, e2⟩ := B
  exact ⟨ne, ⟨n, by rw [upd_ne hb.symm]; exact e1⟩, ns, by rw [upd_ne hl.symm]; exact e2⟩
theorem Box.new {H : Hp} {b l x : Addr} {o : HO} (B : Box H b l) (hx : H x = none) : Box (upd H x o) b l := B.put (B.ne_new hx).1 (B.ne_new hx).2
theorem sz2 : 2 ≤ sizeLine := by decide
theorem szN {n : Nat} (h : n ≤ 1000) : n ≤ sizeLine := Nat.le_of_lt (small1000 h)
/-- one of two numbers, by a draw -/
theorem pick2 {x y r m : Int} (hx : 0 ≤ x ∧ x < m) (hy : 0 ≤ y ∧ y < m) (h0 : 0 ≤ r) (h1 : r < 2) : ∃ z, atI [V.int x, V.int y] r = some (.int z) ∧ 0 ≤ z ∧ z < m := by
  have e : r = 0 ∨ r = 1 := by omega
  rcases e with rfl | rfl
  · exact ⟨x, at0, hx⟩
  · exact ⟨y, at1, hy⟩
section
variable {P : Program} {w : World} {K : PySem.W.Frag} {mg : Str → Option Value} {base : Heap}
theorem ok_letters (D : Def K mg "_law_letters" s_L_letters ["_law_box"]) (DT : Def K mg "_law_take" s_L_take ["_law_box", "_law_many"]) (ml : mg "len" = none) (mli : mg "list" = none) (mr : mg "range" = none) : FnOk P w K mg base CX0 2 D.f D.fd ["_law_box"] spLetters := by
  have GT : FnOk P w K mg base CX0 1 DT.f DT.fd ["_law_box", "_law_many"] spTake := ok_take DT
  refine D.ok sc_L_letters (fun vs H Q E h => ?_) (fun cdv A outer s H vs Q E hr h => ?_)
  · obtain ⟨b, l, rfl, _⟩ := h
    rfl
  obtain ⟨b, l, rfl, B, q⟩ := h
  refine ⟨_, pss_cons (ps_par (i := 1) (j := 2) (by rfl) sc_L_letters.nd rfl rfl (by decide) rfl rfl (pa_cons (pe_callTy (cr_listStr rfl) rfl mli (by decide +kernel) (pa_cons pe_str pa_nil)) (pa_cons (pe_lst pa_nil) pa_nil)) (by rfl))
    (pss_cons (ps_for PassesOwn.never rfl (pi_range1 rfl mr (pa_cons (pe_op op_add pe_int (pe_ix ix_list (pe_lst (pa_cons (pcall DT GT hr (pa_cons (pv 0) (pa_cons pe_int pa_nil))) (pa_cons (pcall DT GT hr (pa_cons (pv 0) (pa_cons pe_int pa_nil))) pa_nil))) (pcall DT GT hr (pa_cons (pv 0) (pa_cons pe_int pa_nil))) (fun _ _ => rfl))) pa_nil)) (pg_name (i := 3) sc_L_letters.nd rfl (Or.inl rfl))
      (pss_one (ps_expr (pe_bm PySem.F.plainAttrs_list PySem.F.slot_list_append PySem.F.type_list_append mt_append (pv 2)
        (pa_cons (pe_bm PySem.F.plainAttrs_list PySem.F.slot_list_pop PySem.F.type_list_pop mt_popAt (pv 1) (pa_cons (pcall DT GT hr (pa_cons (pv 0) (pa_cons (pe_callB call_len_seq rfl ml PySem.boot_len (pa_cons (pv 1) pa_nil)) pa_nil))) pa_nil)) pa_nil)))))
    (pss_one (ps_ret (pv 2)))), ?_⟩
  refine ⟨_, rfl, by decide, fun p hp => ?_⟩
  rw [letters_of]
  refine ⟨Nat.zero_le _, fun f hf => ?_⟩
  have npf : p ≠ f := ne_of_none upd_same hf
  have hpf : upd (upd H p (.lst (wordsL.map V.str))) f (.lst []) p = some (.lst (wordsL.map V.str)) := by rw [upd_ne npf]; exact upd_same
  have k1 : Keep [b, l] H (upd (upd H p (.lst (wordsL.map V.str))) f (.lst [])) := (Keep.new hp).trans (Keep.new hf)
  have hf0 : H f = none := (Same.new hp).free hf
  have nfb := B.ne_new hf0
  have npb := B.ne_new hp
  have B1 : Box (upd (upd H p (.lst (wordsL.map V.str))) f (.lst [])) b l := (B.new hp).put nfb.1 nfb.2
  refine ⟨_, _, rfl, ?_⟩
  refine ⟨_, rfl, b, l, 2, rfl, by decide, by decide, B1, fun r1 H1 a0 a1 B2 k2 => ?_⟩
  refine ⟨_, rfl, b, l, 7, rfl, by decide, by decide, B2, fun r2 H2 b0 b1 B3 k3 => ?_⟩
  refine ⟨sz2, fun L hL => ?_⟩
  refine ⟨_, rfl, b, l, 2, rfl, by decide, by decide, B3.new hL, fun r3 H3 c0 c1 B4 k4 => ?_⟩
  have k5 : Keep [b, l] H2 H3 := (Keep.new hL).trans k4
  have nL := B3.ne_new hL
  have eL : H3 L = some (.lst [.int r1, .int r2]) := k4 L _ upd_same (by simp [nL.1, nL.2])
  obtain ⟨z, ez, z0, z1⟩ := pick2 (x := r1) (y := r2) (m := 7) ⟨a0, by omega⟩ ⟨b0, b1⟩ c0 c1
  refine ⟨L, _, r3, .int z, rfl, rfl, SqL.of eL, ez, _, _, rfl, rfl, _, rfl, by omega, by omega, ?_⟩
  have k6 : Keep [b, l] (upd (upd H p (.lst (wordsL.map V.str))) f (.lst [])) H3 := k2.trans (k3.trans k5)
  have nin : ∀ {x : Addr}, x ≠ b ∧ x ≠ l → x ∉ [b, l] := fun {x} h => by simp [h.1, h.2]
  refine for_range (lo := 0) (n := (2 + z).toNat) (fun i σ H' => ∃ (W F : List Str) (v : Option V), σ = [some (.ref b), some (.ref p), some (.ref f), v] ∧ H' p = some (.lst (W.map V.str)) ∧ H' f = some (.lst (F.map V.str)) ∧
      W.length + i = 8 ∧ F.length = i ∧ (∀ x ∈ W, IsW x) ∧ (∀ x ∈ F, IsW x) ∧ Box H' b l ∧ Keep [b, l] H H')
    ⟨wordsL, [], none, rfl, k6 _ _ hpf (nin npb), k6 _ _ upd_same (nin nfb), rfl, rfl, fun _ h => h, fun _ h => (nomatch h), B4, k1.trans k6⟩ ?_ ?_
  · rintro i σ H' hi ⟨W, F, v, rfl, e1, e2, l1, l2, w1, w2, B', k'⟩
    have hW : 0 < W.length := by omega
    refine ⟨_, rfl, .inl ⟨rfl, _, SqL.of e2⟩, _, rfl, .inl ⟨rfl, _, SqL.of e1⟩, _, rfl, _, rfl, p, _, rfl, .inl (SqL.of e1), b, l, _, rfl, (by rw [List.length_map]; omega), (by rw [List.length_map]; omega), B', fun r H2' r0 r1' B2' k2' => ?_⟩
    rw [List.length_map] at r1'
    have hr' : r.toNat < W.length := by omega
    have e1' := k2' _ _ e1 (nin npb)
    have e2' := k2' _ _ e2 (nin nfb)
    refine ⟨p, _, r, r.toNat, .str (W[r.toNat]'hr'), rfl, rfl, e1', by omega, by omega, seq_of r0 (by rw [List.length_map]; exact r1'), get_map V.str W hr', ?_⟩
    refine ⟨f, _, _, rfl, rfl, (by rw [upd_ne npf.symm]; exact e2'), (by rw [List.length_map]; exact small1000 (by omega)), ?_⟩
    refine ⟨W.eraseIdx r.toNat, F ++ [W[r.toNat]'hr'], _, rfl, ?_, ?_, ?_, ?_, fun x hx => w1 x (mem_eraseIdx hx), fun x hx => ?_, (B2'.put npb.1 npb.2).put nfb.1 nfb.2, ((k'.trans k2').newer hp).newer hf0⟩
    · rw [upd_ne npf, upd_same, map_erase]
    · rw [upd_same, List.map_append]
      rfl
    · rw [List.length_eraseIdx_of_lt hr']
      omega
    · rw [List.length_append, l2]
      rfl
    · rcases List.mem_append.mp hx with hx | hx
      · exact w2 x hx
      · rw [List.mem_singleton.mp hx]
        exact w1 _ (List.getElem_mem hr')
  · rintro σ H' ⟨W, F, v, rfl, e1, e2, l1, l2, w1, w2, B', k'⟩
    exact ⟨_, rfl, q f F H' hf0 e2 w2 (by omega) (by omega) B' k'⟩
end
end MS
end
section
set_option maxRecDepth 100000
set_option maxHeartbeats 4000000
namespace MS
open PySem L2
def spStep : Sp := fun vs H Q _ => ∃ (b l L : Addr) (F : List Str) (c : Bool), vs = [.ref b, .ref L, .bl c] ∧ Box H b l ∧ L ≠ b ∧ L ≠ l ∧ H L = some (.lst (F.map V.str)) ∧ (∀ x ∈ F, IsW x) ∧ 0 < F.length ∧ F.length ≤ 8 ∧
  ∀ (p : StepT) (H' : Hp), IsStep p → (p.2 = "c" → c = true) → Box H' b l → Keep [b, l] H H' → Q (.str (stepS p)) H'
theorem pick_mark {r : Int} (h0 : 0 ≤ r) (h1 : r < 4) : ∃ m, atI [V.str "r", V.str "w", V.str "r", V.str "c"] r = some (.str m) ∧ IsM m := by
  have e : r = 0 ∨ r = 1 ∨ r = 2 ∨ r = 3 := by omega
  rcases e with rfl | rfl | rfl | rfl
  · exact ⟨"r", at0, by unfold IsM; decide +kernel⟩
  · exact ⟨"w", at1, by unfold IsM; decide +kernel⟩
  · exact ⟨"r", at2, by unfold IsM; decide +kernel⟩
  · exact ⟨"c", at_of (j := 3) rfl rfl, by unfold IsM; decide +kernel⟩
theorem pick_word {F : List Str} {r : Int} (w1 : ∀ x ∈ F, IsW x) (h0 : 0 ≤ r) (h1 : r < ((F.map V.str).length : Nat)) : ∃ x, atI (F.map V.str) r = some (.str x) ∧ IsW x ∧ x ∈ F := by
  rw [List.length_map] at h1
  have hr : r.toNat < F.length := by omega
  exact ⟨F[r.toNat]'hr, atI_of h0 (get_map V.str F hr), w1 _ (List.getElem_mem hr), List.getElem_mem hr⟩
section
variable {P : Program} {w : World} {K : PySem.W.Frag} {mg : Str → Option Value} {base : Heap}
/-! ### a work -/
def spWork : Sp := fun vs H Q _ => ∃ (b l L : Addr) (F : List Str), vs = [.ref b, .ref L, .int 12] ∧ Box H b l ∧ L ≠ b ∧ L ≠ l ∧ H L = some (.lst (F.map V.str)) ∧ (∀ x ∈ F, IsW x) ∧ 0 < F.length ∧ F.length ≤ 8 ∧
  ∀ (p : Addr) (ws : List StepT) (H' : Hp), H p = none → H' p = some (.lst (stepsV ws)) → WorkOk ws → Box H' b l → Keep [b, l] H H' → Q (.ref p) H'
end
end MS
end
section
set_option maxRecDepth 100000
set_option maxHeartbeats 4000000
namespace MS
open PySem L2
/-! ### schemes -/
inductive Sch where
  | step (w : Str) (p : Int)
  | all (k : List Sch)
  | best (k : List Sch)
  | most (n : Int) (s : Sch)
  | half (s : Sch)
  | seen (w : Str) (s : Sch)
  | behind (w : Str) (s : Sch)
  | carry (s : Sch)
  | fin (w : Str) (p : Int) (s : Sch)
  | use (n : Nat)
/-- a scheme of at most d levels stands in the heap -/
def SAt (H : Hp) : Nat → Sch → V → Prop
  | 0, _, _ => False
  | _ + 1, .step w p, v => ∃ a, v = .ref a ∧ H a = some (.tup [.str "step", .str w, .int p])
  | d + 1, .all k, v => ∃ a b vs, v = .ref a ∧ H a = some (.tup [.str "all", .ref b]) ∧ H b = some (.tup vs) ∧ Paired (SAt H d) k vs
  | d + 1, .best k, v => ∃ a b vs, v = .ref a ∧ H a = some (.tup [.str "best", .ref b]) ∧ H b = some (.tup vs) ∧ Paired (SAt H d) k vs
  | d + 1, .most n s, v => ∃ a u, v = .ref a ∧ H a = some (.tup [.str "most", .int n, u]) ∧ SAt H d s u
  | d + 1, .half s, v => ∃ a u, v = .ref a ∧ H a = some (.tup [.str "half", u]) ∧ SAt H d s u
  | d + 1, .seen w s, v => ∃ a u, v = .ref a ∧ H a = some (.tup [.str "seen", .str w, u]) ∧ SAt H d s u
  | d + 1, .behind w s, v => ∃ a u, v = .ref a ∧ H a = some (.tup [.str "behind", .str w, u]) ∧ SAt H d s u
  | d + 1, .carry s, v => ∃ a u, v = .ref a ∧ H a = some (.tup [.str "carry", u]) ∧ SAt H d s u
  | d + 1, .fin w p s, v => ∃ a u, v = .ref a ∧ H a = some (.tup [.str "end", .str w, .int p, u]) ∧ SAt H d s u
  | _ + 1, .use n, v => ∃ a, v = .ref a ∧ H a = some (.tup [.str "use", .int (n : Int)])
/-- tuples stay -/
def TupK (H H' : Hp) : Prop := ∀ a xs, H a = some (.tup xs) → H' a = some (.tup xs)
theorem TupK.refl (H : Hp) : TupK H H := fun _ _ h => h
theorem TupK.trans {H H1 H2 : Hp} (a : TupK H H1) (b : TupK H1 H2) : TupK H H2 := fun c o h => b c o (a c o h)
theorem TupK.new {H : Hp} {p : Addr} {o : HO} (h : H p = none) : TupK H (upd H p o) := fun b u q => by rw [upd_ne (ne_of_none q h)]; exact q
theorem TupK.put {H : Hp} {p : Addr} {o : HO} {ys : List V} (h : H p = some (.lst ys)) : TupK H (upd H p o) := fun b u q => by rw [upd_ne (ne_of q h (by intro z; cases z))]; exact q
theorem Keep.tup {S : List Addr} {H H' : Hp} (k : Keep S H H') (nt : ∀ a ∈ S, ∃ ys, H a = some (.lst ys)) : TupK H H' := fun a xs e => k a _ e fun hm => by
  obtain ⟨ys, z⟩ := nt a hm
  rw [e] at z
  cases z
theorem paired_imp {α β : Type} {R T : α → β → Prop} : ∀ {xs : List α} {ys : List β}, Paired R xs ys → (∀ x y, R x y → T x y) → Paired T xs ys
  | _, _, .nil, _ => .nil
  | _, _, .cons r t, h => .cons (h _ _ r) (paired_imp t h)
theorem SAt.keep {H H' : Hp} (k : TupK H H') : ∀ (d : Nat) (s : Sch) (v : V), SAt H d s v → SAt H' d s v
  | 0, _, _, h => by cases h
  | _ + 1, .step w p, v, ⟨a, e, h⟩ => ⟨a, e, k _ _ h⟩
  | d + 1, .all ks, v, ⟨a, b, vs, e, h1, h2, h3⟩ => ⟨a, b, vs, e, k _ _ h1, k _ _ h2, paired_imp h3 fun s v => SAt.keep k d s v⟩
  | d + 1, .best ks, v, ⟨a, b, vs, e, h1, h2, h3⟩ => ⟨a, b, vs, e, k _ _ h1, k _ _ h2, paired_imp h3 fun s v => SAt.keep k d s v⟩
  | d + 1, .most n s, v, ⟨a, u, e, h1, h2⟩ => ⟨a, u, e, k _ _ h1, SAt.keep k d s u h2⟩
  | d + 1, .half s, v, ⟨a, u, e, h1, h2⟩ => ⟨a, u, e, k _ _ h1, SAt.keep k d s u h2⟩
  | d + 1, .seen w s, v, ⟨a, u, e, h1, h2⟩ => ⟨a, u, e, k _ _ h1, SAt.keep k d s u h2⟩
  | d + 1, .behind w s, v, ⟨a, u, e, h1, h2⟩ => ⟨a, u, e, k _ _ h1, SAt.keep k d s u h2⟩
  | d + 1, .carry s, v, ⟨a, u, e, h1, h2⟩ => ⟨a, u, e, k _ _ h1, SAt.keep k d s u h2⟩
  | d + 1, .fin w p s, v, ⟨a, u, e, h1, h2⟩ => ⟨a, u, e, k _ _ h1, SAt.keep k d s u h2⟩
  | _ + 1, .use n, v, ⟨a, e, h⟩ => ⟨a, e, k _ _ h⟩
/-- a scheme that can be, in scheme i of M -/
def OkS (i M : Nat) : Nat → Sch → Prop
  | 0, _ => False
  | _ + 1, .step w p => IsW w ∧ 1 ≤ p ∧ p ≤ 9
  | d + 1, .all k => 0 < k.length ∧ k.length ≤ 4 ∧ ∀ s ∈ k, OkS i M d s
  | d + 1, .best k => 0 < k.length ∧ k.length ≤ 4 ∧ ∀ s ∈ k, OkS i M d s
  | d + 1, .most n s => (0 ≤ n ∧ n ≤ 30) ∧ OkS i M d s
  | d + 1, .half s => OkS i M d s
  | d + 1, .seen w s => IsW w ∧ OkS i M d s
  | d + 1, .behind w s => IsW w ∧ OkS i M d s
  | d + 1, .carry s => OkS i M d s
  | d + 1, .fin w p s => (IsW w ∧ 1 ≤ p ∧ p ≤ 9) ∧ OkS i M d s
  | _ + 1, .use n => i < n ∧ n < M
def sz : Nat → Sch → Int
  | 0, _ => 0
  | _ + 1, .step _ _ => 1
  | d + 1, .all k => 1 + (k.map (sz d)).sum
  | d + 1, .best k => 1 + (k.map (sz d)).sum
  | d + 1, .most _ s => 1 + sz d s
  | d + 1, .half s => 1 + sz d s
  | d + 1, .seen _ s => 1 + sz d s
  | d + 1, .behind _ s => 1 + sz d s
  | d + 1, .carry s => 1 + sz d s
  | d + 1, .fin _ _ s => 1 + sz d s
  | _ + 1, .use _ => 1
/-- steps and ends; c: those of the used ones -/
def er (c : Nat → Int) : Nat → Sch → Int
  | 0, _ => 0
  | _ + 1, .step _ _ => 1
  | d + 1, .all k => (k.map (er c d)).sum
  | d + 1, .best k => (k.map (er c d)).sum
  | d + 1, .most _ s => er c d s
  | d + 1, .half s => er c d s
  | d + 1, .seen _ s => er c d s
  | d + 1, .behind _ s => er c d s
  | d + 1, .carry s => er c d s
  | d + 1, .fin _ _ s => 1 + er c d s
  | _ + 1, .use n => c n
/-- seens and behinds -/
def wr (c : Nat → Int) : Nat → Sch → Int
  | 0, _ => 0
  | _ + 1, .step _ _ => 0
  | d + 1, .all k => (k.map (wr c d)).sum
  | d + 1, .best k => (k.map (wr c d)).sum
  | d + 1, .most _ s => wr c d s
  | d + 1, .half s => wr c d s
  | d + 1, .seen _ s => 1 + wr c d s
  | d + 1, .behind _ s => 1 + wr c d s
  | d + 1, .carry s => wr c d s
  | d + 1, .fin _ _ s => wr c d s
  | _ + 1, .use n => c n
/-- what is told of the later schemes: number, steps and ends, seens and behinds -/
def UAt (H : Hp) (i M : Nat) (ce cw : Nat → Int) (u : Addr) : Prop := ∃ (js : List Nat) (vs : List V), H u = some (.lst vs) ∧ js.length ≤ 5 ∧ (∀ j ∈ js, i < j ∧ j < M) ∧
  Paired (fun j v => ∃ t, v = V.ref t ∧ H t = some (.tup [.int ((j : Nat) : Int), .int (ce j), .int (cw j)])) js vs
theorem UAt.keep {H H' : Hp} {i M : Nat} {ce cw : Nat → Int} {u : Addr} (h : UAt H i M ce cw u) (k : TupK H H') (hu : ∀ vs, H u = some (.lst vs) → H' u = some (.lst vs)) : UAt H' i M ce cw u := by
  obtain ⟨js, vs, e, l, r, p⟩ := h
  exact ⟨js, vs, hu vs e, l, r, paired_imp p fun j v ⟨t, e1, e2⟩ => ⟨t, e1, k _ _ e2⟩⟩
end MS
end
section
set_option maxRecDepth 100000
set_option maxHeartbeats 4000000
namespace MS
open PySem L2
theorem ev_or {t u : TT} {σ : St} {H : Hp} {b c : Bool} (h1 : ∀ Q : Bool → Hp → Prop, Q b H → t σ H Q) (h2 : ∀ Q : Bool → Hp → Prop, Q c H → u σ H Q) : ∀ Q : Bool → Hp → Prop, Q (b || c) H → tOr t u σ H Q := fun Q q => h1 _ (by
  cases b with
  | true => exact iteT q
  | false => exact iteF (h2 _ q))
theorem ev_and {t u : TT} {σ : St} {H : Hp} {b c : Bool} (h1 : ∀ Q : Bool → Hp → Prop, Q b H → t σ H Q) (h2 : ∀ Q : Bool → Hp → Prop, Q c H → u σ H Q) : ∀ Q : Bool → Hp → Prop, Q (b && c) H → tAnd t u σ H Q := fun Q q => h1 _ (by
  cases b with
  | true => exact iteT (h2 _ q)
  | false => exact iteF q)
theorem seq_if {tc : TT} {t r : TS} {D : Ends} {σ : St} {H : Hp} {b : Bool} (h : ∀ Q : Bool → Hp → Prop, Q b H → tc σ H Q) (k1 : b = true → t { D with nx := r D } σ H) (k2 : b = false → r D σ H) : tSeq (tIfS tc t tNext) r D σ H := h _ (by
  cases b with
  | true => exact iteT (k1 rfl)
  | false => exact iteF (k2 rfl))
theorem one_if {tc : TT} {t : TS} {D : Ends} {σ : St} {H : Hp} {b : Bool} (h : ∀ Q : Bool → Hp → Prop, Q b H → tc σ H Q) (k1 : b = true → t D σ H) (k2 : b = false → D.nx σ H) : tIfS tc t tNext D σ H := h _ (by
  cases b with
  | true => exact iteT (k1 rfl)
  | false => exact iteF (k2 rfl))
theorem seq_if_to {tc : TT} {t r : TS} {D : Ends} {σ : St} {H : Hp} {b : Bool} (R : St → Hp → Prop) (h : ∀ Q : Bool → Hp → Prop, Q b H → tc σ H Q) (rest : ∀ σ' H', R σ' H' → r D σ' H')
    (k1 : b = true → (∀ σ' H', R σ' H' → r D σ' H') → t { D with nx := r D } σ H) (k2 : b = false → R σ H) : tSeq (tIfS tc t tNext) r D σ H := seq_if h (fun e => k1 e rest) fun e => rest _ _ (k2 e)
theorem paired_get' {α β : Type} {R : α → β → Prop} : ∀ {xs : List α} {ys : List β}, Paired R xs ys → ∀ {k : Nat} {y : β}, ys[k]? = some y → ∃ x, xs[k]? = some x ∧ R x y
  | _, _, .nil, _, _, h => by simp at h
  | _, _, .cons r t, 0, _, h => by
    simp at h
    subst h
    exact ⟨_, rfl, r⟩
  | _, _, .cons _ t, k + 1, y, h => by
    obtain ⟨x, e, r⟩ := paired_get' t (k := k) (y := y) (by simpa using h)
    exact ⟨x, by simpa using e, r⟩
theorem paired_snoc {α β : Type} {R : α → β → Prop} : ∀ {xs : List α} {ys : List β} {x : α} {y : β}, Paired R xs ys → R x y → Paired R (xs ++ [x]) (ys ++ [y])
  | _, _, _, _, .nil, h => .cons h .nil
  | _, _, _, _, .cons r t, h => .cons r (paired_snoc t h)
theorem pick_name {a b : Str} {r : Int} (h0 : 0 ≤ r) (h1 : r < 2) : atI [V.str a, V.str b] r = some (.str (if r = 0 then a else b)) := by
  have e : r = 0 ∨ r = 1 := by omega
  rcases e with rfl | rfl
  · exact at0
  · exact at1
structure GenAt (i M : Nat) (ce cw : Nat → Int) (H : Hp) (b l L m u : Addr) (F : List Str) (x y z : Int) : Prop where
  box : Box H b l
  left : H m = some (.lst [.int x, .int y, .int z])
  lets : H L = some (.lst (F.map V.str))
  words : ∀ x ∈ F, IsW x
  pos : 0 < F.length
  few : F.length ≤ 8
  uses : UAt H i M ce cw u
  bm : m ≠ b ∧ m ≠ l
  nL : L ∉ [b, l, m]
  nu : u ∉ [b, l, m]
section
variable {i M : Nat} {ce cw : Nat → Int} {H H' : Hp} {b l L m u : Addr} {F : List Str} {x y z x' y' z' : Int}
theorem GenAt.lists (G : GenAt i M ce cw H b l L m u F x y z) : ∀ a ∈ [b, l, m], ∃ ys, H a = some (.lst ys) := fun a ha => by
  obtain ⟨_, ⟨n, e1⟩, ns, e2⟩ := G.box
  rcases List.mem_cons.mp ha with rfl | ha
  · exact ⟨_, e1⟩
  · rcases List.mem_cons.mp ha with rfl | ha
    · exact ⟨_, e2⟩
    · rw [List.mem_singleton.mp ha]
      exact ⟨_, G.left⟩
theorem GenAt.tup (G : GenAt i M ce cw H b l L m u F x y z) (k : Keep [b, l, m] H H') : TupK H H' := k.tup G.lists
theorem GenAt.move (G : GenAt i M ce cw H b l L m u F x y z) (k : Keep [b, l, m] H H') (B : Box H' b l) (e : H' m = some (.lst [.int x', .int y', .int z'])) : GenAt i M ce cw H' b l L m u F x' y' z' :=
  ⟨B, e, k _ _ G.lets G.nL, G.words, G.pos, G.few, G.uses.keep (G.tup k) (fun vs h => k _ _ h G.nu), G.bm, G.nL, G.nu⟩
theorem GenAt.nm (G : GenAt i M ce cw H b l L m u F x y z) : m ∉ [b, l] := by simp [G.bm.1, G.bm.2]
theorem GenAt.draw (G : GenAt i M ce cw H b l L m u F x y z) (k : Keep [b, l] H H') (B : Box H' b l) : GenAt i M ce cw H' b l L m u F x y z :=
  G.move (k.mono fun _ h => by simp only [List.mem_cons, List.not_mem_nil, or_false] at h ⊢; rcases h with h | h <;> simp [h]) B (k _ _ G.left G.nm)
theorem GenAt.new (G : GenAt i M ce cw H b l L m u F x y z) {p : Addr} {o : HO} (h : H p = none) : GenAt i M ce cw (upd H p o) b l L m u F x y z :=
  G.draw (Keep.new h) (G.box.new h)
theorem GenAt.put (G : GenAt i M ce cw H b l L m u F x y z) : GenAt i M ce cw (upd H m (.lst [.int x', .int y', .int z'])) b l L m u F x' y' z' :=
  G.move (Keep.put (by simp)) (G.box.put G.bm.1 G.bm.2) upd_same
theorem k3 {b l m : Addr} {H H' : Hp} (k : Keep [b, l] H H') : Keep [b, l, m] H H' := k.mono fun _ h => by simp only [List.mem_cons, List.not_mem_nil, or_false] at h ⊢; rcases h with h | h <;> simp [h]
end
def spScheme (i M : Nat) (ce cw : Nat → Int) (d : Nat) : Sp := fun vs H Q _ => ∃ (b l L m u : Addr) (F : List Str) (x y z : Int), vs = [.ref b, .ref L, .ref m, .int (d : Int), .ref u] ∧ GenAt i M ce cw H b l L m u F x y z ∧ 1 ≤ x ∧ 1 ≤ y ∧ 0 ≤ z ∧
  ∀ (v : V) (s : Sch) (H' : Hp) (x' y' z' : Int), SAt H' (d + 1) s v → OkS i M (d + 1) s → sz (d + 1) s = x - x' → er ce (d + 1) s = y - y' → wr cw (d + 1) s = z - z' → 0 ≤ x' → 0 ≤ y' → 0 ≤ z' →
    H' m = some (.lst [.int x', .int y', .int z']) → Box H' b l → Keep [b, l, m] H H' → Q v H'
abbrev nmScheme : List Str := ["_law_box", "_law_letters_here", "_law_left", "_law_deep", "_law_uses", "_law_word", "_law_way", "_law_one", "_law_some", "_law_kids", "_law_turn"]
abbrev psScheme : List Str := ["_law_box", "_law_letters_here", "_law_left", "_law_deep", "_law_uses"]
section
variable {P : Program} {w : World} {K : PySem.W.Frag} {mg : Str → Option Value} {base : Heap}
theorem scheme_turn {i M d : Nat} {ce cw : Nat → Int} {sp' : Sp} (D : Def K mg "_law_scheme" s_L_scheme psScheme) (DT : Def K mg "_law_take" s_L_take ["_law_box", "_law_many"]) (ml : mg "len" = none) (mr : mg "range" = none) (mt : mg "tuple" = none)
    (G : FnOk P w K mg base CX0 (d + 1) D.f D.fd psScheme sp') (hs : ∀ d', d = d' + 1 → sp' = spScheme i M ce cw d') : FnOk P w K mg base CX0 (d + 2) D.f D.fd psScheme (spScheme i M ce cw d) := by
  have GT : FnOk P w K mg base CX0 1 DT.f DT.fd ["_law_box", "_law_many"] spTake := ok_take DT
  have nd := sc_L_scheme.nd
  refine D.ok sc_L_scheme (fun vs H Q E h => ?_) (fun cdv A outer s H vs Q E hr h => ?_)
  · obtain ⟨b, l, L, m, u, F, x, y, z, rfl, _⟩ := h
    rfl
  obtain ⟨b, l, L, m, u, F, x, y, z, rfl, g, hx, hy, hz, q⟩ := h
  have hr1 : Room 1 _ := hr.mono (by omega)
  refine ⟨_, pss_cons (ps_asg (pe_op op_sub (pe_ix ix_list (pv 2) pe_int (fun _ _ => rfl)) pe_int) (pg_sub (pv 2) pe_int set_list))
    (pss_cons (ps_set (i := 5) nd rfl (Or.inl rfl) (pe_ix ix_list (pv 1) (pcall DT GT hr1 (pa_cons (pv 0) (pa_cons (pe_callB call_len_seq rfl ml PySem.boot_len (pa_cons (pv 1) pa_nil)) pa_nil))) (fun _ _ => rfl)))
    (pss_cons (ps_set (i := 6) nd rfl (Or.inl rfl) (pcall DT GT hr1 (pa_cons (pv 0) (pa_cons pe_int pa_nil))))
    (pss_cons (ps_if (PW.pt (pw_or (pt_cmpR op_eq (pv 3) pe_int (nomark _)) (pw_or (pt_cmpR op_lt (pe_ix ix_list (pv 2) pe_int (fun _ _ => rfl)) pe_int (nomark _)) (pw_or (pt_cmpR op_lt (pe_ix ix_list (pv 2) pe_int (fun _ _ => rfl)) pe_int (nomark _)) (pw_or1 (pt_cmpR op_lt (pv 6) pe_int (nomark _)))))))
      (pss_cons (ps_asg (pe_op op_sub (pe_ix ix_list (pv 2) pe_int (fun _ _ => rfl)) pe_int) (pg_sub (pv 2) pe_int set_list)) (pss_one (ps_ret (pe_tup (pa_cons pe_str (pa_cons (pv 5) (pa_cons (pe_op op_add pe_int (pcall DT GT hr1 (pa_cons (pv 0) (pa_cons pe_int pa_nil)))) pa_nil))))))) pss_nil)
    (pss_cons (ps_if (pt_cmpR op_eq (pv 6) pe_int (nomark _))
      (pss_cons (ps_setLc (i := 8) (own := [("_law_one", 7)]) (g := gName 7) rfl nd rfl rfl (sw_true rfl rfl rfl (by decide +kernel)) (pi_list (pv 4)) (blkOk_by (N := nmScheme) (sc := defScope s_L_scheme) (by decide +kernel)) (fun _ _ _ _ _ => pg_name (i := 7) nd rfl (Or.inl rfl))
          (fun _ _ _ _ _ => pts_one (PW.pt (pw_and (pt_cmpR op_le (pe_ix (r := rIxT K) ix_tup (pv 7) pe_int (fun _ _ => rfl)) (pe_ix (r := rIxL K) ix_list (pv 2) pe_int (fun _ _ => rfl)) (nomark _)) (pw_and1 (pt_cmpR op_le (pe_ix (r := rIxT K) ix_tup (pv 7) pe_int (fun _ _ => rfl)) (pe_ix (r := rIxL K) ix_list (pv 2) pe_int (fun _ _ => rfl)) (nomark _))))))
          (fun _ _ _ _ _ => pv 7))
        (pss_one (ps_if (pt_cmpR (op_neD hr.units) (pv 8) (pe_lst pa_nil) (nomark _))
          (pss_cons (ps_set (i := 7) nd rfl (Or.inl rfl) (pe_ix ix_list (pv 8) (pcall DT GT hr1 (pa_cons (pv 0) (pa_cons (pe_callB call_len_seq rfl ml PySem.boot_len (pa_cons (pv 8) pa_nil)) pa_nil))) (fun _ _ => rfl)))
          (pss_cons (ps_asg (pe_tup (pa_cons (pe_op op_sub (pe_ix ix_list (pv 2) pe_int (fun _ _ => rfl)) (pe_ix ix_tup (pv 7) pe_int (fun _ _ => rfl))) (pa_cons (pe_op op_sub (pe_ix ix_list (pv 2) pe_int (fun _ _ => rfl)) (pe_ix ix_tup (pv 7) pe_int (fun _ _ => rfl))) pa_nil)))
              (pg_tup (by rfl) (pgs_cons (pg_sub (pv 2) pe_int set_list) (pgs_cons (pg_sub (pv 2) pe_int set_list) pgs_nil))))
          (pss_one (ps_ret (pe_tup (pa_cons pe_str (pa_cons (pe_ix ix_tup (pv 7) pe_int (fun _ _ => rfl)) pa_nil))))))) pss_nil))) pss_nil)
    (pss_cons (ps_if (pt_cmpR op_lt (pv 6) pe_int (nomark _))
      (pss_cons (ps_set (i := 9) nd rfl (Or.inl rfl) (pe_lst pa_nil))
      (pss_cons (ps_for PassesOwn.never rfl (pi_range1 rfl mr (pa_cons (pe_op op_add pe_int (pcall DT GT hr1 (pa_cons (pv 0) (pa_cons pe_int pa_nil)))) pa_nil)) (pg_name (i := 10) nd rfl (Or.inl rfl))
        (pss_one (ps_if (PW.pt (pw_and (pt_cmpR op_gt (pe_ix ix_list (pv 2) pe_int (fun _ _ => rfl)) pe_int (nomark _)) (pw_and1 (pt_cmpR op_gt (pe_ix ix_list (pv 2) pe_int (fun _ _ => rfl)) pe_int (nomark _)))))
          (pss_one (ps_expr (pe_bm PySem.F.plainAttrs_list PySem.F.slot_list_append PySem.F.type_list_append mt_append (pv 9) (pa_cons (pcall D G hr (pa_cons (pv 0) (pa_cons (pv 1) (pa_cons (pv 2) (pa_cons (pe_op op_sub (pv 3) pe_int) (pa_cons (pv 4) pa_nil)))))) pa_nil)))) pss_nil)))
      (pss_one (ps_ret (pe_tup (pa_cons (pe_ix ix_list (pe_lst (pa_cons pe_str (pa_cons pe_str pa_nil))) (pe_op op_mod (pv 6) pe_int) (fun _ _ => rfl)) (pa_cons (pe_callTy call_tuple_of rfl mt (by decide +kernel) (pa_cons (pv 9) pa_nil)) pa_nil))))))) pss_nil)
    (pss_cons (ps_if (PW.pt (pw_and (pt_cmpR op_lt (pv 6) pe_int (nomark _)) (pw_and1 (pt_cmpR op_gt (pe_ix ix_list (pv 2) pe_int (fun _ _ => rfl)) pe_int (nomark _)))))
      (pss_cons (ps_asg (pe_op op_sub (pe_ix ix_list (pv 2) pe_int (fun _ _ => rfl)) pe_int) (pg_sub (pv 2) pe_int set_list))
        (pss_one (ps_ret (pe_tup (pa_cons (pe_ix ix_list (pe_lst (pa_cons pe_str (pa_cons pe_str pa_nil))) (pe_op op_mod (pv 6) pe_int) (fun _ _ => rfl)) (pa_cons (pv 5) (pa_cons (pcall D G hr (pa_cons (pv 0) (pa_cons (pv 1) (pa_cons (pv 2) (pa_cons (pe_op op_sub (pv 3) pe_int) (pa_cons (pv 4) pa_nil)))))) pa_nil))))))) pss_nil)
    (pss_cons (ps_if (PW.pt (pw_and (pt_cmpR op_eq (pv 6) pe_int (nomark _)) (pw_and1 (pt_cmpR op_gt (pe_ix ix_list (pv 2) pe_int (fun _ _ => rfl)) pe_int (nomark _)))))
      (pss_cons (ps_asg (pe_op op_sub (pe_ix ix_list (pv 2) pe_int (fun _ _ => rfl)) pe_int) (pg_sub (pv 2) pe_int set_list))
        (pss_one (ps_ret (pe_tup (pa_cons pe_str (pa_cons (pv 5) (pa_cons (pe_op op_add pe_int (pcall DT GT hr1 (pa_cons (pv 0) (pa_cons pe_int pa_nil)))) (pa_cons (pcall D G hr (pa_cons (pv 0) (pa_cons (pv 1) (pa_cons (pv 2) (pa_cons (pe_op op_sub (pv 3) pe_int) (pa_cons (pv 4) pa_nil)))))) pa_nil)))))))) pss_nil)
    (pss_cons (ps_if (pt_cmpR op_eq (pv 6) pe_int (nomark _))
      (pss_one (ps_ret (pe_tup (pa_cons pe_str (pa_cons (pcall DT GT hr1 (pa_cons (pv 0) (pa_cons (pe_ix ix_list (pe_lst (pa_cons pe_int (pa_cons pe_int (pa_cons pe_int pa_nil)))) (pcall DT GT hr1 (pa_cons (pv 0) (pa_cons pe_int pa_nil))) (fun _ _ => rfl)) pa_nil))) (pa_cons (pcall D G hr (pa_cons (pv 0) (pa_cons (pv 1) (pa_cons (pv 2) (pa_cons (pe_op op_sub (pv 3) pe_int) (pa_cons (pv 4) pa_nil)))))) pa_nil)))))) pss_nil)
    (pss_one (ps_ret (pe_tup (pa_cons (pe_ix ix_list (pe_lst (pa_cons pe_str (pa_cons pe_str pa_nil))) (pe_op op_mod (pv 6) pe_int) (fun _ _ => rfl)) (pa_cons (pcall D G hr (pa_cons (pv 0) (pa_cons (pv 1) (pa_cons (pv 2) (pa_cons (pe_op op_sub (pv 3) pe_int) (pa_cons (pv 4) pa_nil)))))) pa_nil))))))))))))), ?_⟩
  -- left[0] = left[0] - 1
  refine ⟨_, rfl, m, _, 0, .int x, rfl, rfl, SqL.of g.left, at0, _, _, rfl, rfl, _, rfl, m, _, 0, 0, rfl, rfl, g.left, rfl, ?_⟩
  have g1 : GenAt i M ce cw (upd H m (.lst [.int (x - 1), .int y, .int z])) b l L m u F (x - 1) y z := g.put
  -- word
  refine ⟨_, rfl, _, rfl, _, rfl, L, _, rfl, .inl (SqL.of g1.lets), b, l, _, rfl, (by have := g.pos; rw [List.length_map]; omega), (by have := g.few; rw [List.length_map]; omega), g1.box, fun r1 H2 a0 a1 B2 k2 => ?_⟩
  have g2 := g1.draw k2 B2
  obtain ⟨wd, ew, hw, _⟩ := pick_word g.words a0 a1
  refine ⟨L, _, r1, .str wd, rfl, rfl, SqL.of g2.lets, ew, ?_⟩
  -- way
  refine ⟨_, rfl, b, l, 16, rfl, by decide, by decide, g2.box, fun way H3 c0 c1 B3 k3' => ?_⟩
  have g3 := g2.draw k3' B3
  have kk3 : Keep [b, l, m] H H3 := (Keep.put (by simp)).trans (k3 (k2.trans k3'))
  dsimp only [gName]
  refine seq_if (b := decide ((d : Int) = 0) || (decide (x - 1 < 2) || (decide (y < 2) || decide (way < 3)))) (ev_or (fun Q q => ⟨_, rfl, rfl, _, rfl, by rw [dec_int]; exact q⟩) (ev_or (fun Q q => ⟨_, rfl, m, _, 0, .int (x - 1), rfl, rfl, SqL.of g3.left, at0, _, _, rfl, rfl, _, rfl, q⟩)
    (ev_or (fun Q q => ⟨_, rfl, m, _, 1, .int y, rfl, rfl, SqL.of g3.left, at1, _, _, rfl, rfl, _, rfl, q⟩) (fun Q q => ⟨_, rfl, _, _, rfl, rfl, _, rfl, q⟩)))) (fun cc => ?_) (fun cc => ?_)
  · -- a step
    refine ⟨_, rfl, m, _, 1, .int y, rfl, rfl, SqL.of g3.left, at1, _, _, rfl, rfl, _, rfl, m, _, 1, 1, rfl, rfl, g3.left, rfl, ?_⟩
    have g4 : GenAt i M ce cw (upd H3 m (.lst [.int (x - 1), .int (y - 1), .int z])) b l L m u F (x - 1) (y - 1) z := g3.put
    refine ⟨_, rfl, _, rfl, b, l, 9, rfl, by decide, by decide, g4.box, fun r H5 d0 d1 B5 k5 => ?_⟩
    have g5 := g4.draw k5 B5
    refine ⟨_, _, rfl, rfl, (by show 3 ≤ sizeLine; decide), fun p hp => ?_⟩
    have g6 := g5.new (o := .tup [.str "step", .str wd, .int (1 + r)]) hp
    refine q _ (.step wd (1 + r)) _ (x - 1) (y - 1) z ⟨p, rfl, upd_same⟩ ⟨hw, by omega, by omega⟩ ?_ ?_ ?_ (by omega) (by omega) hz g6.left g6.box (kk3.trans ((Keep.put (by simp)).trans ((k3 k5).trans (Keep.new hp))))
    · show (1 : Int) = x - (x - 1)
      omega
    · show (1 : Int) = y - (y - 1)
      omega
    · show (0 : Int) = z - z
      omega
  simp only [Bool.or_eq_false_iff, decide_eq_false_iff_not] at cc
  obtain ⟨cd, cx, cy, cw'⟩ := cc
  obtain ⟨d', rfl⟩ : ∃ d', d = d' + 1 := ⟨d - 1, by omega⟩
  obtain rfl := hs d' rfl
  refine seq_if_to (b := decide (way = 3)) (fun σ' H' => ∃ v7 v8 : Option V, σ' = [some (.ref b), some (.ref L), some (.ref m), some (.int ((d' + 1 : Nat) : Int)), some (.ref u), some (.str wd), some (.int way), v7, v8, none, none] ∧ GenAt i M ce cw H' b l L m u F (x - 1) y z ∧ Keep [b, l, m] H H')
    (fun Q q => ⟨_, rfl, rfl, _, rfl, by rw [dec_int]; exact q⟩) ?_ ?_ (fun _ => ⟨none, none, rfl, g3, kk3⟩)
  · rintro σ' H4 ⟨v7, v8, rfl, g4, kk4⟩
    have recE : (.int (((d' + 1 : Nat) : Int) - 1) : V) = .int (d' : Int) := by rw [show (((d' + 1 : Nat) : Int) - 1) = (d' : Int) by omega]
    refine seq_if (b := decide (way < 9)) (fun Q q => ⟨_, rfl, _, _, rfl, rfl, _, rfl, q⟩) (fun _ => ?_) (fun c9 => ?_)
    · -- all, best
      refine ⟨Nat.zero_le _, fun kd hkd => ?_⟩
      have nkd := g4.box.ne_new hkd
      have nkm : kd ≠ m := (ne_of_none g4.left hkd).symm
      have gk := g4.new (o := .lst []) hkd
      have hkd0 : ∀ {S : List Addr} {H' : Hp} {o : HO}, Keep [b, l, m] H4 H' → Keep [b, l, m] H4 (upd H' kd o) := fun k => k.newer hkd
      have nin : kd ∉ [b, l, m] := by simp [nkd.1, nkd.2, nkm]
      refine ⟨_, rfl, b, l, 4, rfl, by decide, by decide, gk.box, fun r H5 e0 e1 B5 k5 => ?_⟩
      have g5 := gk.draw k5 B5
      refine ⟨_, _, rfl, rfl, _, rfl, by omega, by omega, ?_⟩
      refine for_range (lo := 0) (n := (1 + r).toNat) (fun k σ H' => ∃ (ks : List Sch) (vs : List V) (x' y' z' : Int) (v10 : Option V), σ = [some (.ref b), some (.ref L), some (.ref m), some (.int ((d' + 1 : Nat) : Int)), some (.ref u), some (.str wd), some (.int way), v7, v8, some (.ref kd), v10] ∧
          H' kd = some (.lst vs) ∧ Paired (SAt H' (d' + 1)) ks vs ∧ (∀ s ∈ ks, OkS i M (d' + 1) s) ∧ (ks.map (sz (d' + 1))).sum = (x - 1) - x' ∧ (ks.map (er ce (d' + 1))).sum = y - y' ∧ (ks.map (wr cw (d' + 1))).sum = z - z' ∧ 0 ≤ x' ∧ 0 ≤ y' ∧ 0 ≤ z' ∧
          ks.length ≤ k ∧ (0 < k → 0 < ks.length) ∧ (k = 0 → x' = x - 1 ∧ y' = y) ∧ GenAt i M ce cw H' b l L m u F x' y' z' ∧ Keep [b, l, m] H4 H')
        ⟨[], [], x - 1, y, z, none, rfl, k5 _ _ upd_same (by simp [nkd.1, nkd.2]), .nil, (fun _ h => nomatch h), by simp, by simp, by simp, by omega, by omega, hz, Nat.le_refl _, fun h => absurd h (Nat.lt_irrefl _), fun _ => ⟨rfl, rfl⟩, g5, (Keep.new hkd).trans (k3 k5)⟩ ?_ ?_
      · rintro k σ H' hk ⟨ks, vs, x', y', z', v10, rfl, ekd, pk, ok, s1, s2, s3, p1, p2, p3, len, pos, ini, g', kk'⟩
        refine one_if (b := decide (0 < x') && decide (0 < y')) (ev_and (fun Q q => ⟨_, rfl, m, _, 0, .int x', rfl, rfl, SqL.of g'.left, at0, _, _, rfl, rfl, _, rfl, q⟩) (fun Q q => ⟨_, rfl, m, _, 1, .int y', rfl, rfl, SqL.of g'.left, at1, _, _, rfl, rfl, _, rfl, q⟩)) (fun cc => ?_) (fun cc => ?_)
        · simp only [Bool.and_eq_true, decide_eq_true_eq] at cc
          refine ⟨_, rfl, .inl ⟨rfl, _, SqL.of ekd⟩, _, rfl, _, rfl, _, rfl, _, rfl, _, _, rfl, rfl, _, rfl, b, l, L, m, u, F, x', y', z', by rw [← recE] <;> rfl, g', by omega, by omega, p3, fun v s H6 x2 y2 z2 sa so q1 q2 q3 n1 n2 n3 el B6 k6 => ?_⟩
          have g6 := g'.move k6 B6 el
          have t6 := g'.tup k6
          refine ⟨kd, vs, v, rfl, rfl, k6 _ _ ekd nin, ?_, ?_⟩
          · have hl := Paired.length pk
            exact small1000 (by omega)
          · have g7 : GenAt i M ce cw (upd H6 kd (.lst (vs ++ [v]))) b l L m u F x2 y2 z2 := g4.move ((kk'.trans k6).newer hkd) (g6.box.put nkd.1 nkd.2) (by rw [upd_ne nkm.symm]; exact g6.left)
            have t7 : TupK H6 (upd H6 kd (.lst (vs ++ [v]))) := TupK.put (k6 _ _ ekd nin)
            refine ⟨ks ++ [s], vs ++ [v], x2, y2, z2, _, rfl, upd_same, paired_snoc (paired_imp pk fun s' v' h => SAt.keep (t6.trans t7) _ _ _ h) (SAt.keep t7 _ _ _ sa), ?_, ?_, ?_, ?_, n1, n2, n3, ?_, fun _ => by simp, fun h => absurd h (Nat.succ_ne_zero _), g7, (kk'.trans k6).newer hkd⟩
            · intro s' hs'
              rcases List.mem_append.mp hs' with h | h
              · exact ok s' h
              · rw [List.mem_singleton.mp h]
                exact so
            · simp only [List.map_append, List.sum_append, List.map_cons, List.map_nil, List.sum_cons, List.sum_nil]
              omega
            · simp only [List.map_append, List.sum_append, List.map_cons, List.map_nil, List.sum_cons, List.sum_nil]
              omega
            · simp only [List.map_append, List.sum_append, List.map_cons, List.map_nil, List.sum_cons, List.sum_nil]
              omega
            · simp only [List.length_append, List.length_cons, List.length_nil]
              omega
        · simp only [Bool.and_eq_false_iff, decide_eq_false_iff_not] at cc
          refine ⟨ks, vs, x', y', z', _, rfl, ekd, pk, ok, s1, s2, s3, p1, p2, p3, by omega, fun _ => pos ?_, fun h => absurd h (Nat.succ_ne_zero _), g', kk'⟩
          by_cases hk0 : k = 0
          · have := ini hk0
            omega
          · omega
      · rintro σ H' ⟨ks, vs, x', y', z', v10, rfl, ekd, pk, ok, s1, s2, s3, p1, p2, p3, len, pos, ini, g', kk'⟩
        have hm := Int.emod_nonneg way (show (2 : Int) ≠ 0 by decide)
        have hm2 := Int.emod_lt_of_pos way (show (0 : Int) < 2 by decide)
        refine ⟨sz2, fun T hT => ?_⟩
        have gT := g'.new (o := .lst [.str "all", .str "best"]) hT
        refine ⟨_, rfl, _, _, rfl, rfl, (by show (0 : Int) < 2; decide), T, _, way % 2, _, rfl, rfl, SqL.of upd_same, pick_name hm hm2, ?_⟩
        have nkT : kd ≠ T := ne_of_none ekd hT
        have ekT : upd H' T (.lst [.str "all", .str "best"]) kd = some (.lst vs) := by rw [upd_ne nkT]; exact ekd
        refine ⟨_, rfl, kd, vs, rfl, .inl ⟨SqL.of ekT, fun t ht => ?_⟩⟩
        have gt := gT.new (o := .tup vs) ht
        refine ⟨sz2, fun p hp => ?_⟩
        have tt : TupK H' (upd (upd (upd H' T (.lst [.str "all", .str "best"])) t (.tup vs)) p (.tup [.str (if way % 2 = 0 then "all" else "best"), .ref t])) := (TupK.new hT).trans ((TupK.new ht).trans (TupK.new hp))
        have gp := gt.new (o := .tup [.str (if way % 2 = 0 then "all" else "best"), .ref t]) hp
        have kp : Keep [b, l, m] H (upd (upd (upd H' T (.lst [.str "all", .str "best"])) t (.tup vs)) p (.tup [.str (if way % 2 = 0 then "all" else "best"), .ref t])) := kk4.trans (kk'.trans ((Keep.new hT).trans ((Keep.new ht).trans (Keep.new hp))))
        have et : (upd (upd (upd H' T (.lst [.str "all", .str "best"])) t (.tup vs)) p (.tup [.str (if way % 2 = 0 then "all" else "best"), .ref t])) t = some (.tup vs) := by rw [upd_ne (ne_of_none upd_same hp)]; exact upd_same
        have pk' := paired_imp pk fun s' v' h => SAt.keep tt _ _ _ h
        have hlen : 0 < ks.length ∧ ks.length ≤ 4 := ⟨pos (by omega), by omega⟩
        by_cases hw2 : way % 2 = 0
        · refine q _ (.all ks) _ x' y' z' ⟨p, t, vs, rfl, by rw [upd_same, if_pos hw2], et, pk'⟩ ⟨hlen.1, hlen.2, ok⟩ ?_ ?_ ?_ p1 p2 p3 gp.left gp.box kp
          · show 1 + (ks.map (sz (d' + 1))).sum = x - x'
            omega
          · exact s2
          · exact s3
        · refine q _ (.best ks) _ x' y' z' ⟨p, t, vs, rfl, by rw [upd_same, if_neg hw2], et, pk'⟩ ⟨hlen.1, hlen.2, ok⟩ ?_ ?_ ?_ p1 p2 p3 gp.left gp.box kp
          · show 1 + (ks.map (sz (d' + 1))).sum = x - x'
            omega
          · exact s2
          · exact s3
    have hm := Int.emod_nonneg way (show (2 : Int) ≠ 0 by decide)
    have hm2 := Int.emod_lt_of_pos way (show (0 : Int) < 2 by decide)
    refine seq_if (b := decide (way < 12) && decide (0 < z)) (ev_and (fun Q q => ⟨_, rfl, _, _, rfl, rfl, _, rfl, q⟩) (fun Q q => ⟨_, rfl, m, _, 2, .int z, rfl, rfl, SqL.of g4.left, at2, _, _, rfl, rfl, _, rfl, q⟩)) (fun cc => ?_) (fun c12 => ?_)
    · -- seen, behind
      simp only [Bool.and_eq_true, decide_eq_true_eq] at cc
      refine ⟨_, rfl, m, _, 2, .int z, rfl, rfl, SqL.of g4.left, at2, _, _, rfl, rfl, _, rfl, m, _, 2, 2, rfl, rfl, g4.left, rfl, ?_⟩
      have g5 : GenAt i M ce cw (upd H4 m (.lst [.int (x - 1), .int y, .int (z - 1)])) b l L m u F (x - 1) y (z - 1) := g4.put
      refine ⟨sz2, fun T hT => ?_⟩
      have g6 := g5.new (o := .lst [.str "seen", .str "behind"]) hT
      refine ⟨_, rfl, _, _, rfl, rfl, (by show (0 : Int) < 2; decide), T, _, way % 2, _, rfl, rfl, SqL.of upd_same, pick_name hm hm2, ?_⟩
      refine ⟨_, rfl, _, rfl, _, rfl, _, rfl, _, rfl, _, _, rfl, rfl, _, rfl, b, l, L, m, u, F, x - 1, y, z - 1, by rw [← recE] <;> rfl, g6, by omega, by omega, by omega, fun v s H6 x2 y2 z2 sa so q1 q2 q3 n1 n2 n3 el B6 k6 => ?_⟩
      have g7 := g6.move k6 B6 el
      refine ⟨(by show 3 ≤ sizeLine; decide), fun p hp => ?_⟩
      have tp : TupK H6 (upd H6 p (.tup [.str (if way % 2 = 0 then "seen" else "behind"), .str wd, v])) := TupK.new hp
      have g8 := g7.new (o := .tup [.str (if way % 2 = 0 then "seen" else "behind"), .str wd, v]) hp
      have kp : Keep [b, l, m] H (upd H6 p (.tup [.str (if way % 2 = 0 then "seen" else "behind"), .str wd, v])) := kk4.trans ((Keep.put (by simp)).trans ((Keep.new hT).trans (k6.trans (Keep.new hp))))
      by_cases hw2 : way % 2 = 0
      · refine q _ (.seen wd s) _ x2 y2 z2 ⟨p, v, rfl, by rw [upd_same, if_pos hw2], SAt.keep tp _ _ _ sa⟩ ⟨hw, so⟩ ?_ ?_ ?_ n1 n2 n3 g8.left g8.box kp
        · show 1 + sz (d' + 1) s = x - x2
          omega
        · exact q2
        · show 1 + wr cw (d' + 1) s = z - z2
          omega
      · refine q _ (.behind wd s) _ x2 y2 z2 ⟨p, v, rfl, by rw [upd_same, if_neg hw2], SAt.keep tp _ _ _ sa⟩ ⟨hw, so⟩ ?_ ?_ ?_ n1 n2 n3 g8.left g8.box kp
        · show 1 + sz (d' + 1) s = x - x2
          omega
        · exact q2
        · show 1 + wr cw (d' + 1) s = z - z2
          omega
    refine seq_if (b := decide (way = 12) && decide (1 < y)) (ev_and (fun Q q => ⟨_, rfl, rfl, _, rfl, by rw [dec_int]; exact q⟩) (fun Q q => ⟨_, rfl, m, _, 1, .int y, rfl, rfl, SqL.of g4.left, at1, _, _, rfl, rfl, _, rfl, q⟩)) (fun cc => ?_) (fun c13 => ?_)
    · -- end
      simp only [Bool.and_eq_true, decide_eq_true_eq] at cc
      refine ⟨_, rfl, m, _, 1, .int y, rfl, rfl, SqL.of g4.left, at1, _, _, rfl, rfl, _, rfl, m, _, 1, 1, rfl, rfl, g4.left, rfl, ?_⟩
      have g5 : GenAt i M ce cw (upd H4 m (.lst [.int (x - 1), .int (y - 1), .int z])) b l L m u F (x - 1) (y - 1) z := g4.put
      refine ⟨_, rfl, _, rfl, b, l, 9, rfl, by decide, by decide, g5.box, fun r H5 d0 d1 B5 k5 => ?_⟩
      have g6 := g5.draw k5 B5
      refine ⟨_, _, rfl, rfl, ?_⟩
      refine ⟨_, rfl, _, rfl, _, rfl, _, rfl, _, _, rfl, rfl, _, rfl, b, l, L, m, u, F, x - 1, y - 1, z, by rw [← recE] <;> rfl, g6, by omega, by omega, hz, fun v s H6 x2 y2 z2 sa so q1 q2 q3 n1 n2 n3 el B6 k6 => ?_⟩
      have g7 := g6.move k6 B6 el
      refine ⟨(by show 4 ≤ sizeLine; decide), fun p hp => ?_⟩
      have g8 := g7.new (o := .tup [.str "end", .str wd, .int (1 + r), v]) hp
      refine q _ (.fin wd (1 + r) s) _ x2 y2 z2 ⟨p, v, rfl, upd_same, SAt.keep (TupK.new hp) _ _ _ sa⟩ ⟨⟨hw, by omega, by omega⟩, so⟩ ?_ ?_ q3 n1 n2 n3 g8.left g8.box (kk4.trans ((Keep.put (by simp)).trans ((k3 k5).trans (k6.trans (Keep.new hp)))))
      · show 1 + sz (d' + 1) s = x - x2
        omega
      · show 1 + er ce (d' + 1) s = y - y2
        omega
    refine seq_if (b := decide (way = 13)) (fun Q q => ⟨_, rfl, rfl, _, rfl, by rw [dec_int]; exact q⟩) (fun _ => ?_) (fun _ => ?_)
    · -- most
      refine ⟨_, rfl, (by show 3 ≤ sizeLine; decide), fun T hT => ?_⟩
      have g5 := g4.new (o := .lst [.int 4, .int 12, .int 31]) hT
      refine ⟨_, rfl, b, l, 3, rfl, by decide, by decide, g5.box, fun r H5 d0 d1 B5 k5 => ?_⟩
      have g6 := g5.draw k5 B5
      have eT := k5 _ _ upd_same (g4.box.nin hT)
      obtain ⟨mm, em, mb⟩ : ∃ mm : Int, atI [V.int 4, V.int 12, V.int 31] r = some (.int mm) ∧ (0 < mm ∧ mm ≤ 31) := by
        have e : r = 0 ∨ r = 1 ∨ r = 2 := by omega
        rcases e with rfl | rfl | rfl
        · exact ⟨4, at0, by decide⟩
        · exact ⟨12, at1, by decide⟩
        · exact ⟨31, at2, by decide⟩
      refine ⟨T, _, r, .int mm, rfl, rfl, SqL.of eT, em, b, l, mm, rfl, mb.1, by omega, g6.box, fun r2 H6 f0 f1 B6 k6 => ?_⟩
      have g7 := g6.draw k6 B6
      refine ⟨_, rfl, _, rfl, _, rfl, _, rfl, _, _, rfl, rfl, _, rfl, b, l, L, m, u, F, x - 1, y, z, by rw [← recE] <;> rfl, g7, by omega, by omega, hz, fun v s H7 x2 y2 z2 sa so q1 q2 q3 n1 n2 n3 el B7 k7 => ?_⟩
      have g8 := g7.move k7 B7 el
      refine ⟨(by show 3 ≤ sizeLine; decide), fun p hp => ?_⟩
      have g9 := g8.new (o := .tup [.str "most", .int r2, v]) hp
      refine q _ (.most r2 s) _ x2 y2 z2 ⟨p, v, rfl, upd_same, SAt.keep (TupK.new hp) _ _ _ sa⟩ ⟨⟨f0, by omega⟩, so⟩ ?_ q2 q3 n1 n2 n3 g9.left g9.box (kk4.trans ((Keep.new hT).trans ((k3 (k5.trans k6)).trans (k7.trans (Keep.new hp)))))
      show 1 + sz (d' + 1) s = x - x2
      omega
    -- half, carry
    refine ⟨sz2, fun T hT => ?_⟩
    have g6 := g4.new (o := .lst [.str "half", .str "carry"]) hT
    refine ⟨_, rfl, _, _, rfl, rfl, (by show (0 : Int) < 2; decide), T, _, way % 2, _, rfl, rfl, SqL.of upd_same, pick_name hm hm2, ?_⟩
    refine ⟨_, rfl, _, rfl, _, rfl, _, rfl, _, _, rfl, rfl, _, rfl, b, l, L, m, u, F, x - 1, y, z, by rw [← recE] <;> rfl, g6, by omega, by omega, hz, fun v s H6 x2 y2 z2 sa so q1 q2 q3 n1 n2 n3 el B6 k6 => ?_⟩
    have g7 := g6.move k6 B6 el
    refine ⟨sz2, fun p hp => ?_⟩
    have tp : TupK H6 (upd H6 p (.tup [.str (if way % 2 = 0 then "half" else "carry"), v])) := TupK.new hp
    have g8 := g7.new (o := .tup [.str (if way % 2 = 0 then "half" else "carry"), v]) hp
    have kp : Keep [b, l, m] H (upd H6 p (.tup [.str (if way % 2 = 0 then "half" else "carry"), v])) := kk4.trans ((Keep.new hT).trans (k6.trans (Keep.new hp)))
    by_cases hw2 : way % 2 = 0
    · refine q _ (.half s) _ x2 y2 z2 ⟨p, v, rfl, by rw [upd_same, if_pos hw2], SAt.keep tp _ _ _ sa⟩ so ?_ q2 q3 n1 n2 n3 g8.left g8.box kp
      show 1 + sz (d' + 1) s = x - x2
      omega
    · refine q _ (.carry s) _ x2 y2 z2 ⟨p, v, rfl, by rw [upd_same, if_neg hw2], SAt.keep tp _ _ _ sa⟩ so ?_ q2 q3 n1 n2 n3 g8.left g8.box kp
      show 1 + sz (d' + 1) s = x - x2
      omega
  · -- a use
    intro _ rest
    obtain ⟨js, uv, eu, jl, jr, pu⟩ := g3.uses
    have gu : UAt H3 i M ce cw u := ⟨js, uv, eu, jl, jr, pu⟩
    have ul := Paired.length pu
    refine ⟨_, rfl, u, rfl, ⟨_, SqL.of eu⟩, fun Dd hD => ?_⟩
    have nuD : u ≠ Dd := ne_of_none eu hD
    refine lc_list (K := K) (a := u) (xs := uv) (fun k H'' => ∃ (js' : List Nat) (vs' : List V), H'' = upd H3 Dd (.lst vs') ∧ js'.length ≤ k ∧ (∀ j ∈ js', j ∈ js ∧ ce j ≤ y ∧ cw j ≤ z) ∧ Paired (fun j v => ∃ t, v = V.ref t ∧ H3 t = some (.tup [.int ((j : Nat) : Int), .int (ce j), .int (cw j)])) js' vs')
      ⟨[], [], rfl, Nat.le_refl _, (fun _ h => nomatch h), .nil⟩ (fun k H'' _ ⟨_, _, e, _⟩ => by rw [e]; exact SqL.of (by rw [upd_ne nuD]; exact eu)) ?_ ?_
    · rintro k xk H'' hk ⟨js', vs', rfl, l', sub, pu'⟩
      obtain ⟨j, ej, t, rfl, et⟩ := paired_get' pu hk
      have et' : upd H3 Dd (.lst vs') t = some (.tup [.int ((j : Nat) : Int), .int (ce j), .int (cw j)]) := by rw [upd_ne (ne_of_none et hD)]; exact et
      have em : upd H3 Dd (.lst vs') m = some (.lst [.int (x - 1), .int y, .int z]) := (g3.new hD).left
      refine ⟨rfl, ev_and (b := decide (ce j ≤ y)) (c := decide (cw j ≤ z)) (fun Q q => ⟨_, rfl, t, _, 1, .int (ce j), rfl, rfl, SqT.of et', at1, _, rfl, m, _, 1, .int y, rfl, rfl, SqL.of em, at1, _, _, rfl, rfl, _, rfl, q⟩)
        (fun Q q => ⟨_, rfl, t, _, 2, .int (cw j), rfl, rfl, SqT.of et', at2, _, rfl, m, _, 2, .int z, rfl, rfl, SqL.of em, at2, _, _, rfl, rfl, _, rfl, q⟩) _ ?_⟩
      have lv := Paired.length pu'
      have hkl := (List.getElem?_eq_some_iff.mp hk).1
      refine ite2 (fun c => ?_) (fun c => ?_)
      · simp only [Bool.and_eq_true, decide_eq_true_eq] at c
        refine ⟨_, rfl, vs', upd_same, small1000 (by omega), js' ++ [j], vs' ++ [.ref t], upd_upd, by simp only [List.length_append, List.length_cons, List.length_nil]; omega, fun j' hj' => ?_, paired_snoc pu' ⟨t, rfl, et⟩⟩
        rcases List.mem_append.mp hj' with h | h
        · exact sub j' h
        · rw [List.mem_singleton.mp h]
          exact ⟨List.mem_of_getElem? ej, c⟩
      · exact ⟨js', vs', rfl, by omega, sub, pu'⟩
    · rintro H'' ⟨js', vs', rfl, l', sub, pu'⟩
      have lv := Paired.length pu'
      have g4 := g3.new (o := .lst vs') hD
      have kk4 : Keep [b, l, m] H (upd H3 Dd (.lst vs')) := kk3.trans (Keep.new hD)
      dsimp only [gName]
      refine ⟨_, rfl, Nat.zero_le _, fun p hp => ?_⟩
      have g5 := g4.new (o := .lst []) hp
      have nDp : Dd ≠ p := ne_of_none upd_same hp
      have eD : upd (upd H3 Dd (.lst vs')) p (.lst []) Dd = some (.lst vs') := by rw [upd_ne nDp]; exact upd_same
      have kk5 : Keep [b, l, m] H (upd (upd H3 Dd (.lst vs')) p (.lst [])) := kk4.trans (Keep.new hp)
      have tk5 : TupK H3 (upd (upd H3 Dd (.lst vs')) p (.lst [])) := (TupK.new hD).trans (TupK.new hp)
      have pu5 : Paired (fun (j : Nat) (v : V) => ∃ t, v = V.ref t ∧ (upd (upd H3 Dd (.lst vs')) p (.lst [])) t = some (HO.tup [.int ((j : Nat) : Int), .int (ce j), .int (cw j)])) js' vs' := paired_imp pu' fun j v ⟨t, e1, e2⟩ => ⟨t, e1, tk5 _ _ e2⟩
      have dp : ∀ {js' : List Nat} {vs' : List V} {Hx : Hp}, Paired (fun j v => ∃ t, v = V.ref t ∧ Hx t = some (.tup [.int ((j : Nat) : Int), .int (ce j), .int (cw j)])) js' vs' → DpAll K Hx vs' (js'.map fun j => .tuple [.int ((j : Nat) : Int), .int (ce j), .int (cw j)]) := by
        intro js' vs' Hx h
        induction h with
        | nil => exact .nil
        | cons h1 _ ih =>
          obtain ⟨t, rfl, e⟩ := h1
          exact .cons (.tup (SqT.of e) (.cons (.int _) (.cons (.int _) (.cons (.int _) .nil)))) ih
      refine ⟨.list (js'.map fun j => .tuple [.int ((j : Nat) : Int), .int (ce j), .int (cw j)]), .list [], .lst (SqL.of eD) (dp pu5), .lst (SqL.of upd_same) .nil, (ShN.lst (n := 1) (ShAll.of fun dd h => ?_)).ok (by decide), rfl, _, rfl, ?_⟩
      · obtain ⟨j, _, rfl⟩ := List.mem_map.mp h
        exact ShN.tup (.cons (.int _) (.cons (.int _) (.cons (.int _) .nil)))
      refine ite2 (fun c => ?_) (fun c => ?_)
      · have hne : 0 < vs'.length := by
          cases js' with
          | nil => exact absurd c (by simp [PyData.eqv, PyData.eqvAll])
          | cons a r => rw [← lv]; exact Nat.succ_pos _
        refine ⟨_, rfl, _, rfl, _, rfl, Dd, _, rfl, .inl (SqL.of eD), b, l, _, rfl, by omega, by omega, g5.box, fun r H6 a0 a1 B6 k6 => ?_⟩
        have g6 := g5.draw k6 B6
        have eD6 := k6 _ _ eD (g3.box.nin hD)
        have hr' : r.toNat < vs'.length := by omega
        have ev : vs'[r.toNat]? = some (vs'[r.toNat]'hr') := List.getElem?_eq_getElem hr'
        obtain ⟨j, ej, t, et0, et⟩ := paired_get' pu5 ev
        have ht6 := g5.tup (k3 k6) _ _ et
        refine ⟨Dd, _, r, .ref t, rfl, rfl, SqL.of eD6, atI_of a0 (by rw [ev, et0]), ?_⟩
        obtain ⟨jin, j1, j2⟩ := sub j (List.mem_of_getElem? ej)
        refine ⟨_, rfl, m, _, 1, .int y, rfl, rfl, SqL.of g6.left, at1, _, rfl, t, _, 1, .int (ce j), rfl, rfl, SqT.of ht6, at1, _, _, rfl, rfl, ?_⟩
        refine ⟨_, rfl, m, _, 2, .int z, rfl, rfl, SqL.of g6.left, at2, _, rfl, t, _, 2, .int (cw j), rfl, rfl, SqT.of ht6, at2, _, _, rfl, rfl, ?_⟩
        refine ⟨sz2, fun T hT => ?_⟩
        have g7 := g6.new (o := .tup [.int (y - ce j), .int (z - cw j)]) hT
        refine ⟨T, _, rfl, SqT.of upd_same, rfl, _, _, rfl, _, rfl, m, _, 1, 1, rfl, rfl, g7.left, rfl, _, _, rfl, _, rfl, m, _, 2, 2, rfl, rfl, upd_same, rfl, rfl, ?_⟩
        have g7a : GenAt i M ce cw (upd (upd H6 T (.tup [.int (y - ce j), .int (z - cw j)])) m (.lst [.int (x - 1), .int (y - ce j), .int z])) b l L m u F (x - 1) (y - ce j) z := g7.put
        have g8 : GenAt i M ce cw (upd (upd (upd H6 T (.tup [.int (y - ce j), .int (z - cw j)])) m (.lst [.int (x - 1), .int (y - ce j), .int z])) m (.lst [.int (x - 1), .int (y - ce j), .int (z - cw j)])) b l L m u F (x - 1) (y - ce j) (z - cw j) := g7a.put
        have ht8 : (upd (upd (upd H6 T (.tup [.int (y - ce j), .int (z - cw j)])) m (.lst [.int (x - 1), .int (y - ce j), .int z])) m (.lst [.int (x - 1), .int (y - ce j), .int (z - cw j)])) t = some (.tup [.int ((j : Nat) : Int), .int (ce j), .int (cw j)]) := (TupK.put g7a.left) _ _ ((TupK.put g7.left) _ _ ((TupK.new hT) _ _ ht6))
        refine ⟨_, rfl, t, _, 0, .int ((j : Nat) : Int), rfl, rfl, SqT.of ht8, at0, sz2, fun p2 hp2 => ?_⟩
        have g9 := g8.new (o := .tup [.str "use", .int ((j : Nat) : Int)]) hp2
        refine q _ (.use j) _ (x - 1) (y - ce j) (z - cw j) ⟨p2, rfl, upd_same⟩ (jr j jin) ?_ ?_ ?_ (by omega) (by omega) (by omega) g9.left g9.box (kk5.trans ((k3 k6).trans ((Keep.new hT).trans ((Keep.put (by simp)).trans ((Keep.put (by simp)).trans (Keep.new hp2))))))
        · show (1 : Int) = x - (x - 1)
          omega
        · show ce j = y - (y - ce j)
          omega
        · show cw j = z - (z - cw j)
          omega
      · exact rest _ _ ⟨none, some (.ref Dd), rfl, g5, kk5⟩
end
end MS
end
section
set_option maxRecDepth 100000
set_option maxHeartbeats 4000000
namespace MS
open PySem L2
section
variable {P : Program} {w : World} {K : PySem.W.Frag} {mg : Str → Option Value} {base : Heap}
theorem no_sp {k : Nat} {f : Addr} {fd : FuncData} {ps : List Str} : FnOk P w K mg base CX0 k f fd ps (fun _ _ _ _ => False) := ⟨fun vs H Q E h => h.elim, fun A outer s H args us vs Q E _ _ _ _ h => h.elim⟩
theorem ok_scheme {i M : Nat} {ce cw : Nat → Int} (D : Def K mg "_law_scheme" s_L_scheme psScheme) (DT : Def K mg "_law_take" s_L_take ["_law_box", "_law_many"]) (ml : mg "len" = none) (mr : mg "range" = none) (mt : mg "tuple" = none) :
    ∀ d : Nat, FnOk P w K mg base CX0 (d + 2) D.f D.fd psScheme (spScheme i M ce cw d)
  | 0 => scheme_turn D DT ml mr mt (sp' := fun _ _ _ _ => False) no_sp fun d' h => by omega
  | d + 1 => scheme_turn D DT ml mr mt (ok_scheme D DT ml mr mt d) fun d' h => by
      have e : d = d' := by omega
      rw [e]
end
/-! ### counts -/
/-- all later schemes are told -/
def UFull (H : Hp) (i M : Nat) (ce cw : Nat → Int) (u : Addr) : Prop := ∃ (js : List Nat) (vs : List V), H u = some (.lst vs) ∧ js.length ≤ 5 ∧ (∀ j, i < j → j < M → j ∈ js) ∧
  Paired (fun j v => ∃ t, v = V.ref t ∧ H t = some (.tup [.int ((j : Nat) : Int), .int (ce j), .int (cw j)])) js vs
theorem UFull.keep {H H' : Hp} {i M : Nat} {ce cw : Nat → Int} {u : Addr} (h : UFull H i M ce cw u) (k : Same H H') : UFull H' i M ce cw u := by
  obtain ⟨js, vs, e, l, r, p⟩ := h
  exact ⟨js, vs, k _ _ e, l, r, paired_imp p fun j v ⟨t, e1, e2⟩ => ⟨t, e1, k _ _ e2⟩⟩
theorem Same.tupK {H H' : Hp} (k : Same H H') : TupK H H' := fun a xs e => k a _ e
/-- what a value within a scheme counts -/
def KidR (i M : Nat) (ce cw : Nat → Int) (H : Hp) (d : Nat) (p : Int × Int) (v : V) : Prop := (∃ n, v = .int n ∧ p = (0, 0)) ∨ ∃ s, SAt H d s v ∧ OkS i M d s ∧ p = (er ce d s, wr cw d s)
def isAB (nm : Str) : Bool := inV (.str nm) [.str "all", .str "best"]
def n0 (nm : Str) : Int := if inV (.str nm) [.str "step", .str "end"] then 1 else 0
def n1 (nm : Str) : Int := if inV (.str nm) [.str "seen", .str "behind"] then 1 else 0
structure KidsOf (i M : Nat) (ce cw : Nat → Int) (H : Hp) (d : Nat) (nm : Str) (rest : List V) (e w : Int) : Prop where
  no : nm ≠ "use"
  kids : (isAB nm = true ∧ ∃ (b : Addr) (vs : List V) (ps : List (Int × Int)), rest = [.ref b] ∧ H b = some (.tup vs) ∧ Paired (KidR i M ce cw H d) ps vs ∧ e = n0 nm + (ps.map (·.1)).sum ∧ w = n1 nm + (ps.map (·.2)).sum) ∨
    (isAB nm = false ∧ ∃ (u : V) (p : Int × Int), cutV (.str nm :: rest) (some (-1)) none = [u] ∧ ¬ (HT.sIx (V.str nm :: rest).length 0 (some (-1)) = 0 ∧ HT.sIx (V.str nm :: rest).length (V.str nm :: rest).length none = (V.str nm :: rest).length) ∧ KidR i M ce cw H d p u ∧ e = n0 nm + p.1 ∧ w = n1 nm + p.2)
theorem kid_list {i M : Nat} {ce cw : Nat → Int} {H : Hp} {d : Nat} : ∀ {ks : List Sch} {vs : List V}, Paired (SAt H d) ks vs → (∀ s ∈ ks, OkS i M d s) → Paired (KidR i M ce cw H d) (ks.map fun s => (er ce d s, wr cw d s)) vs
  | _, _, .nil, _ => .nil
  | _, _, .cons r t, h => .cons (.inr ⟨_, r, h _ List.mem_cons_self, rfl⟩) (kid_list t fun s hs => h s (List.mem_cons_of_mem _ hs))
theorem SAt.view {i M : Nat} {ce cw : Nat → Int} {H : Hp} {d : Nat} {s : Sch} {v : V} (h : SAt H (d + 1) s v) (o : OkS i M (d + 1) s) :
    (∃ a j, v = .ref a ∧ s = .use j ∧ H a = some (.tup [.str "use", .int ((j : Nat) : Int)])) ∨
    ∃ a nm rest, v = .ref a ∧ H a = some (.tup (.str nm :: rest)) ∧ KidsOf i M ce cw H d nm rest (er ce (d + 1) s) (wr cw (d + 1) s) := by
  cases s with
  | step x p =>
    obtain ⟨a, rfl, e⟩ := h
    exact .inr ⟨a, "step", _, rfl, e, by decide +kernel, .inr ⟨by decide +kernel, .int p, (0, 0), rfl, (by show ¬ (HT.sIx 3 0 (some (-1)) = 0 ∧ HT.sIx 3 3 none = 3); decide), .inl ⟨p, rfl, rfl⟩, by show (1 : Int) = n0 "step" + 0; decide +kernel, by show (0 : Int) = n1 "step" + 0; decide +kernel⟩⟩
  | all k =>
    obtain ⟨a, b, vs, rfl, e, e2, pk⟩ := h
    refine .inr ⟨a, "all", _, rfl, e, by decide +kernel, .inl ⟨by decide +kernel, b, vs, _, rfl, e2, kid_list pk o.2.2, ?_, ?_⟩⟩
    · rw [List.map_map, show n0 "all" = 0 by decide +kernel, Int.zero_add]; rfl
    · rw [List.map_map, show n1 "all" = 0 by decide +kernel, Int.zero_add]; rfl
  | best k =>
    obtain ⟨a, b, vs, rfl, e, e2, pk⟩ := h
    refine .inr ⟨a, "best", _, rfl, e, by decide +kernel, .inl ⟨by decide +kernel, b, vs, _, rfl, e2, kid_list pk o.2.2, ?_, ?_⟩⟩
    · rw [List.map_map, show n0 "best" = 0 by decide +kernel, Int.zero_add]; rfl
    · rw [List.map_map, show n1 "best" = 0 by decide +kernel, Int.zero_add]; rfl
  | most n s =>
    obtain ⟨a, u, rfl, e, hs⟩ := h
    refine .inr ⟨a, "most", _, rfl, e, by decide +kernel, .inr ⟨by decide +kernel, u, _, rfl, (by show ¬ (HT.sIx 3 0 (some (-1)) = 0 ∧ HT.sIx 3 3 none = 3); decide), .inr ⟨s, hs, o.2, rfl⟩, ?_, ?_⟩⟩
    · rw [show n0 "most" = 0 by decide +kernel, Int.zero_add]; rfl
    · rw [show n1 "most" = 0 by decide +kernel, Int.zero_add]; rfl
  | half s =>
    obtain ⟨a, u, rfl, e, hs⟩ := h
    refine .inr ⟨a, "half", _, rfl, e, by decide +kernel, .inr ⟨by decide +kernel, u, _, rfl, (by show ¬ (HT.sIx 2 0 (some (-1)) = 0 ∧ HT.sIx 2 2 none = 2); decide), .inr ⟨s, hs, o, rfl⟩, ?_, ?_⟩⟩
    · rw [show n0 "half" = 0 by decide +kernel, Int.zero_add]; rfl
    · rw [show n1 "half" = 0 by decide +kernel, Int.zero_add]; rfl
  | seen x s =>
    obtain ⟨a, u, rfl, e, hs⟩ := h
    refine .inr ⟨a, "seen", _, rfl, e, by decide +kernel, .inr ⟨by decide +kernel, u, _, rfl, (by show ¬ (HT.sIx 3 0 (some (-1)) = 0 ∧ HT.sIx 3 3 none = 3); decide), .inr ⟨s, hs, o.2, rfl⟩, ?_, ?_⟩⟩
    · rw [show n0 "seen" = 0 by decide +kernel, Int.zero_add]; rfl
    · rw [show n1 "seen" = 1 by decide +kernel]; rfl
  | behind x s =>
    obtain ⟨a, u, rfl, e, hs⟩ := h
    refine .inr ⟨a, "behind", _, rfl, e, by decide +kernel, .inr ⟨by decide +kernel, u, _, rfl, (by show ¬ (HT.sIx 3 0 (some (-1)) = 0 ∧ HT.sIx 3 3 none = 3); decide), .inr ⟨s, hs, o.2, rfl⟩, ?_, ?_⟩⟩
    · rw [show n0 "behind" = 0 by decide +kernel, Int.zero_add]; rfl
    · rw [show n1 "behind" = 1 by decide +kernel]; rfl
  | carry s =>
    obtain ⟨a, u, rfl, e, hs⟩ := h
    refine .inr ⟨a, "carry", _, rfl, e, by decide +kernel, .inr ⟨by decide +kernel, u, _, rfl, (by show ¬ (HT.sIx 2 0 (some (-1)) = 0 ∧ HT.sIx 2 2 none = 2); decide), .inr ⟨s, hs, o, rfl⟩, ?_, ?_⟩⟩
    · rw [show n0 "carry" = 0 by decide +kernel, Int.zero_add]; rfl
    · rw [show n1 "carry" = 0 by decide +kernel, Int.zero_add]; rfl
  | fin x p s =>
    obtain ⟨a, u, rfl, e, hs⟩ := h
    refine .inr ⟨a, "end", _, rfl, e, by decide +kernel, .inr ⟨by decide +kernel, u, _, rfl, (by show ¬ (HT.sIx 4 0 (some (-1)) = 0 ∧ HT.sIx 4 4 none = 4); decide), .inr ⟨s, hs, o.2, rfl⟩, ?_, ?_⟩⟩
    · rw [show n0 "end" = 1 by decide +kernel]; rfl
    · rw [show n1 "end" = 0 by decide +kernel, Int.zero_add]; rfl
  | use n =>
    obtain ⟨a, rfl, e⟩ := h
    exact .inl ⟨a, n, rfl, rfl, e⟩
theorem KidR.keep {i M : Nat} {ce cw : Nat → Int} {H H' : Hp} {d : Nat} {p : Int × Int} {v : V} (h : KidR i M ce cw H d p v) (k : TupK H H') : KidR i M ce cw H' d p v := by
  rcases h with h | ⟨s, h1, h2⟩
  · exact .inl h
  · exact .inr ⟨s, SAt.keep k _ _ _ h1, h2⟩
theorem KidsOf.keep {i M : Nat} {ce cw : Nat → Int} {H H' : Hp} {d : Nat} {nm : Str} {rest : List V} {e w : Int} (h : KidsOf i M ce cw H d nm rest e w) (k : TupK H H') : KidsOf i M ce cw H' d nm rest e w := by
  refine ⟨h.no, ?_⟩
  rcases h.kids with ⟨hb, b, vs, ps, e1, eb, pk, ee, ew⟩ | ⟨hb, u, p, eu, nw, hk, ee, ew⟩
  · exact .inl ⟨hb, b, vs, ps, e1, k _ _ eb, paired_imp pk fun _ _ z => z.keep k, ee, ew⟩
  · exact .inr ⟨hb, u, p, eu, nw, hk.keep k, ee, ew⟩
theorem SAt.ref {H : Hp} {d : Nat} {s : Sch} {v : V} (h : SAt H d s v) : ∃ a xs, v = .ref a ∧ H a = some (.tup xs) := by
  cases d with
  | zero => cases h
  | succ d =>
    cases s with
    | step x p => obtain ⟨a, e, h⟩ := h; exact ⟨a, _, e, h⟩
    | all k => obtain ⟨a, b, vs, e, h, _⟩ := h; exact ⟨a, _, e, h⟩
    | best k => obtain ⟨a, b, vs, e, h, _⟩ := h; exact ⟨a, _, e, h⟩
    | most n s => obtain ⟨a, u, e, h, _⟩ := h; exact ⟨a, _, e, h⟩
    | half s => obtain ⟨a, u, e, h, _⟩ := h; exact ⟨a, _, e, h⟩
    | seen x s => obtain ⟨a, u, e, h, _⟩ := h; exact ⟨a, _, e, h⟩
    | behind x s => obtain ⟨a, u, e, h, _⟩ := h; exact ⟨a, _, e, h⟩
    | carry s => obtain ⟨a, u, e, h, _⟩ := h; exact ⟨a, _, e, h⟩
    | fin x p s => obtain ⟨a, u, e, h, _⟩ := h; exact ⟨a, _, e, h⟩
    | use n => obtain ⟨a, e, h⟩ := h; exact ⟨a, _, e, h⟩
/-- what the laws' walks go through within a scheme -/
def tKids (K : PySem.W.Frag) : TE := tIf (tTest (tOp (rIn K false) (tOp (rIxT K) (tVar 0) (tC (.int 0))) (tTup (tCons (tC (.str "all")) (tCons (tC (.str "best")) tNil))))) (tOp (rIxT K) (tVar 0) (tC (.int 1)))
  (tSl (rSlA K) (tVar 0) (tPart (tUn (rU fun i => .int (-i)) (tC (.int 1)))) tNoPart)
theorem kids_ev {K : PySem.W.Frag} {i M : Nat} {ce cw : Nat → Int} {σ : St} {H : Hp} {d : Nat} {a : Addr} {nm : Str} {rest : List V} {e w : Int} {Q : VK} (s0 : σ[0]? = some (some (.ref a))) (ea : H a = some (.tup (.str nm :: rest))) (k : KidsOf i M ce cw H d nm rest e w)
    (h : ∀ (kd : Addr) (kv : List V) (ps : List (Int × Int)) (H1 : Hp), Same H H1 → H1 kd = some (.tup kv) → Paired (KidR i M ce cw H d) ps kv → e = n0 nm + (ps.map (·.1)).sum → w = n1 nm + (ps.map (·.2)).sum → Q (.ref kd) H1) : tKids K σ H Q := by
  refine ⟨_, s0, a, _, 0, .str nm, rfl, rfl, SqT.of ea, at0, sz2, fun t ht => ⟨t, _, rfl, .inr (SqT.of upd_same), rfl, rfl, _, rfl, ?_⟩⟩
  have s1 : Same H (upd H t (.tup [.str "all", .str "best"])) := Same.new ht
  have ea1 := s1 _ _ ea
  rcases k.kids with ⟨hb, b, vs, ps, rfl, eb, pk, ee, ew⟩ | ⟨hb, u, p, eu, nw, hk, ee, ew⟩
  · show (if isAB nm = true then _ else _)
    rw [if_pos hb]
    exact ⟨_, s0, a, _, 1, .ref b, rfl, rfl, SqT.of ea1, at1, h b vs ps _ s1 (s1 _ _ eb) pk ee ew⟩
  · show (if isAB nm = true then _ else _)
    rw [if_neg (by rw [hb]; decide)]
    refine ⟨_, s0, 1, rfl, -1, rfl, a, _, rfl, SqT.of ea1, fun z => absurd z nw, fun _ q hq => ?_⟩
    refine h q [u] [p] _ (s1.trans (Same.new hq)) (by rw [upd_same, eu]) (.cons hk .nil) ?_ ?_
    · rw [ee, List.map_singleton, List.sum_singleton]
    · rw [ew, List.map_singleton, List.sum_singleton]
def spCounted (K : PySem.W.Frag) (i M : Nat) (ce cw : Nat → Int) (d : Nat) : Sp := fun vs H Q _ => ∃ (v : V) (u : Addr) (s : Sch), vs = [v, .ref u] ∧ SAt H d s v ∧ OkS i M d s ∧ UFull H i M ce cw u ∧
  ∀ (p : Addr) (H' : Hp), Same H H' → H' p = some (.tup [.int (er ce d s), .int (wr cw d s)]) → Q (.ref p) H'
abbrev nmCounted : List Str := ["_law_scheme_here", "_law_uses", "_law_found", "_law_kid", "_law_more", "_law_one"]
abbrev psCounted : List Str := ["_law_scheme_here", "_law_uses"]
section
variable {P : Program} {w : World} {K : PySem.W.Frag} {mg : Str → Option Value} {base : Heap}
theorem counted_turn {i M d : Nat} {ce cw : Nat → Int} (D : Def K mg "_law_counted" s_L_counted psCounted) (mi : mg "int" = none) (mt : mg "tuple" = none) (mis : mg "isinstance" = none)
    (G : FnOk P w K mg base CX0 d D.f D.fd psCounted (spCounted K i M ce cw d)) : FnOk P w K mg base CX0 (d + 1) D.f D.fd psCounted (spCounted K i M ce cw (d + 1)) := by
  have nd := sc_L_counted.nd
  refine D.ok sc_L_counted (fun vs H Q E h => ?_) (fun cdv A outer s H vs Q E hr h => ?_)
  · obtain ⟨v, u, s, rfl, _⟩ := h
    rfl
  obtain ⟨v, u, sc, rfl, hs, ho, hu, q⟩ := h
  refine ⟨_, pss_cons (ps_if (pt_cmpR op_eq (pe_ix ix_tup (pv 0) pe_int (fun _ _ => rfl)) pe_str (nomark _))
      (pss_one (ps_ret (pe_ix ix_list (pe_lc (own := [("_law_one", 5)]) (g := gName 5) rfl nd (pi_list (pv 1)) (blkOk_by (N := nmCounted) (sc := defScope s_L_counted) (by decide +kernel)) (fun _ _ _ _ _ => pg_name (i := 5) nd rfl (Or.inl rfl))
          (fun _ _ _ _ _ => pts_one (pt_cmpR op_eq (pe_ix (r := rIxT K) ix_tup (pv 5) pe_int (fun _ _ => rfl)) (pe_ix (r := rIxT K) ix_tup (pv 0) pe_int (fun _ _ => rfl)) (nomark _)))
          (fun _ _ _ _ _ => pe_slice (r := rSlA K) sl_tupA (pv 5) (po_some pe_int) po_none)) pe_int (fun _ _ => rfl)))) pss_nil)
    (pss_cons (ps_set (i := 2) nd rfl (Or.inl rfl) (pe_lst (pa_cons (pe_callTy call_int1 rfl mi (by decide +kernel) (pa_cons (pe_cmpR op_in_seq (pe_ix ix_tup (pv 0) pe_int (fun _ _ => rfl)) (pe_tup (pa_cons pe_str (pa_cons pe_str pa_nil))) (by rfl)) pa_nil))
      (pa_cons (pe_callTy call_int1 rfl mi (by decide +kernel) (pa_cons (pe_cmpR op_in_seq (pe_ix ix_tup (pv 0) pe_int (fun _ _ => rfl)) (pe_tup (pa_cons pe_str (pa_cons pe_str pa_nil))) (by rfl)) pa_nil)) pa_nil))))
    (pss_cons (ps_for PassesOwn.never rfl (pi_tup (pe_ifExp (pt_cmpR op_in_seq (pe_ix ix_tup (pv 0) pe_int (fun _ _ => rfl)) (pe_tup (pa_cons pe_str (pa_cons pe_str pa_nil))) (by rfl)) (pe_ix ix_tup (pv 0) pe_int (fun _ _ => rfl)) (pe_slice sl_tupA (pv 0) (po_some (pe_un un_neg pe_int)) po_none))) (pg_name (i := 3) nd rfl (Or.inl rfl))
      (pss_one (ps_if (pt_val (pe_callB call_isi rfl mis (by decide +kernel) (pa_cons (pv 3) (pa_cons (pe_bltn rfl mt (by decide +kernel) (v := .ty "tuple") rfl) pa_nil))))
        (pss_cons (ps_set (i := 4) nd rfl (Or.inl rfl) (pcall D G hr (pa_cons (pv 3) (pa_cons (pv 1) pa_nil))))
        (pss_one (ps_set (i := 2) nd rfl (Or.inl rfl) (pe_lst (pa_cons (pe_op op_add (pe_ix ix_list (pv 2) pe_int (fun _ _ => rfl)) (pe_ix ix_tup (pv 4) pe_int (fun _ _ => rfl))) (pa_cons (pe_op op_add (pe_ix ix_list (pv 2) pe_int (fun _ _ => rfl)) (pe_ix ix_tup (pv 4) pe_int (fun _ _ => rfl))) pa_nil)))))) pss_nil)))
    (pss_one (ps_ret (pe_callTy call_tuple_of rfl mt (by decide +kernel) (pa_cons (pv 2) pa_nil)))))), ?_⟩
  rcases hs.view (ce := ce) (cw := cw) ho with ⟨a, j, rfl, rfl, ea⟩ | ⟨a, nm, rest, rfl, ea, kk⟩
  · -- a use
    refine seq_if (b := true) (fun Q q => ⟨_, rfl, a, _, 0, .str "use", rfl, rfl, SqT.of ea, at0, rfl, _, rfl, by rw [dec_str]; exact q⟩) (fun _ => ?_) (fun z => nomatch z)
    obtain ⟨js, uv, eu, jl, jf, pu⟩ := hu
    have ul := Paired.length pu
    refine ⟨_, rfl, u, rfl, ⟨_, SqL.of eu⟩, fun Dd hD => ?_⟩
    have jin : j ∈ js := jf j ho.1 ho.2
    refine lc_list (K := K) (a := u) (xs := uv) (fun k H'' => ∃ rs : List Addr, H'' Dd = some (.lst (rs.map V.ref)) ∧ Same H H'' ∧ (∀ r ∈ rs, H'' r = some (.tup [.int (ce j), .int (cw j)])) ∧ rs.length ≤ k ∧ (j ∈ js.take k → rs ≠ []))
      ⟨[], upd_same, Same.new hD, (fun _ h => nomatch h), Nat.le_refl _, fun h => by simp at h⟩ (fun k H'' _ ⟨_, _, s1, _⟩ => SqL.of (s1 _ _ eu)) ?_ ?_
    · rintro k xk H'' hk ⟨rs, eD, s1, hrs, lr, hin⟩
      obtain ⟨j', ej, t, rfl, et⟩ := paired_get' pu hk
      have et' := s1 _ _ et
      have ea' := s1 _ _ ea
      have hkl := (List.getElem?_eq_some_iff.mp hk).1
      have tk : js.take (k + 1) = js.take k ++ [j'] := by
        rw [List.take_succ, ej]
        rfl
      refine ⟨rfl, _, rfl, t, _, 0, .int ((j' : Nat) : Int), rfl, rfl, SqT.of et', at0, _, rfl, a, _, 1, .int ((j : Nat) : Int), rfl, rfl, SqT.of ea', at1, rfl, _, rfl, ?_⟩
      refine ite2 (fun c => ?_) (fun c => ?_)
      · have e : j' = j := by
          have z := V.int.inj (of_decide_eq_true c)
          omega
        subst e
        refine ⟨_, rfl, 1, rfl, t, _, rfl, SqT.of et', fun z => absurd z (by show ¬ (HT.sIx 3 0 (some 1) = 0 ∧ HT.sIx 3 3 none = 3); decide), fun _ p hp => ?_⟩
        refine ⟨_, (by rw [upd_ne (ne_of_none eD hp)]; exact eD), (by rw [List.length_map]; exact small1000 (by omega)), rs ++ [p], ?_, fun b o e => ?_, fun r hr => ?_, by simp only [List.length_append, List.length_cons, List.length_nil]; omega, fun _ => by simp⟩
        · rw [upd_same, List.map_append]
          rfl
        · rw [upd_ne (ne_of_none e hD)]
          exact Same.new hp _ _ (s1 _ _ e)
        · have nD : ∀ x xs, H'' x = some (HO.tup xs) → x ≠ Dd := fun x xs e => ne_of e eD (by intro z; cases z)
          rcases List.mem_append.mp hr with h | h
          · rw [upd_ne (nD r _ (hrs r h))]
            exact Same.new hp _ _ (hrs r h)
          · rw [List.mem_singleton.mp h, upd_ne (ne_of_none eD hp).symm, upd_same]
            rfl
      · refine ⟨rs, eD, s1, hrs, by omega, fun h => hin ?_⟩
        rw [tk] at h
        rcases List.mem_append.mp h with h | h
        · exact h
        · exact absurd (by rw [List.mem_singleton.mp h]; exact decide_eq_true rfl) c
    · rintro H'' ⟨rs, eD, s1, hrs, lr, hin⟩
      have hne := hin (by rw [List.take_of_length_le (by omega)]; exact jin)
      cases rs with
      | nil => exact absurd rfl hne
      | cons r0 rr => exact ⟨Dd, _, 0, .ref r0, rfl, rfl, SqL.of eD, at0, q r0 H'' s1 (hrs r0 List.mem_cons_self)⟩
  · refine seq_if (b := false) (fun Q q => ⟨_, rfl, a, _, 0, .str nm, rfl, rfl, SqT.of ea, at0, rfl, _, rfl, by rw [dec_str, beq_eq_false_iff_ne.mpr kk.no]; exact q⟩) (fun z => nomatch z) (fun _ => ?_)
    refine ⟨_, rfl, a, _, 0, .str nm, rfl, rfl, SqT.of ea, at0, sz2, fun t1 h1 => ⟨t1, _, rfl, .inr (SqT.of upd_same), rfl, rfl, .inr ⟨_, rfl, ?_⟩⟩⟩
    have s1 : Same H (upd H t1 (.tup [.str "step", .str "end"])) := Same.new h1
    refine ⟨_, rfl, a, _, 0, .str nm, rfl, rfl, SqT.of (s1 _ _ ea), at0, sz2, fun t2 h2 => ⟨t2, _, rfl, .inr (SqT.of upd_same), rfl, rfl, .inr ⟨_, rfl, sz2, fun fd0 hf0 => ?_⟩⟩⟩
    have s2 : Same H (upd (upd H t1 (.tup [.str "step", .str "end"])) t2 (.tup [.str "seen", .str "behind"])) := s1.trans (Same.new h2)
    have hf00 : H fd0 = none := s2.free hf0
    have s3 : Same H (upd (upd (upd H t1 (.tup [.str "step", .str "end"])) t2 (.tup [.str "seen", .str "behind"])) fd0 (.lst [.int (n0 nm), .int (n1 nm)])) := s2.trans (Same.new hf0)
    dsimp only [gName]
    refine kids_ev (K := K) (d := d) rfl (s3 _ _ ea) (kk.keep (Same.tupK s3)) (fun kd kv ps H1 s4 ekd pk ee ew => ?_)
    have s5 := s3.trans s4
    have pk1 := paired_imp pk fun _ _ z => z.keep (Same.tupK s4)
    refine ⟨kd, rfl, ⟨_, SqT.of ekd⟩, for_tup (K := K) (a := kd) (xs := kv) (fun k σ H' => ∃ (f : Addr) (v3 v4 : Option V), σ = [some (.ref a), some (.ref u), some (.ref f), v3, v4, none] ∧ H' f = some (.lst [.int (n0 nm + ((ps.take k).map (·.1)).sum), .int (n1 nm + ((ps.take k).map (·.2)).sum)]) ∧ Same H1 H')
      ⟨fd0, none, none, rfl, by rw [List.take_zero, List.map_nil, List.map_nil, List.sum_nil, Int.add_zero, Int.add_zero]; exact s4 _ _ upd_same, Same.refl _⟩ (fun k σ H' _ ⟨_, _, _, _, _, s6⟩ => SqT.of (s6 _ _ ekd)) ?_ ?_⟩
    · rintro k x σ H' hk ⟨f, v3, v4, rfl, ef, s6⟩
      obtain ⟨p, ep, hp⟩ := paired_get' pk1 hk
      have hkl := (List.getElem?_eq_some_iff.mp ep).1
      have tk : ps.take (k + 1) = ps.take k ++ [p] := by rw [List.take_succ, ep]; rfl
      rcases hp with ⟨n, rfl, rfl⟩ | ⟨s', hs', ho', rfl⟩
      · refine one_if (b := false) (fun Q q => ⟨_, rfl, _, .ty "tuple", .type "int", .type "tuple", false, rfl, .ty _, .base (.int n), kit_ty (by decide +kernel), _, rfl, q⟩) (fun z => nomatch z) (fun _ => ?_)
        refine ⟨f, _, v4, rfl, ?_, s6⟩
        rw [tk]
        simpa using ef
      · obtain ⟨t, xs, rfl, et⟩ := hs'.ref
        have et' := s6 _ _ et
        refine one_if (b := true) (fun Q q => ⟨_, rfl, _, .ty "tuple", .type "tuple", .type "tuple", true, rfl, .ty _, .base (.tup et'), kit_ty (by decide +kernel), _, rfl, q⟩) (fun _ => ?_) (fun z => nomatch z)
        refine ⟨_, rfl, _, rfl, .ref t, u, s', rfl, SAt.keep (Same.tupK s6) _ _ _ hs', ho', hu.keep (s5.trans s6), fun p H2 s7 ep => ?_⟩
        have ef' := s7 _ _ ef
        refine ⟨_, rfl, f, _, 0, .int _, rfl, rfl, SqL.of ef', at0, _, rfl, p, _, 0, .int _, rfl, rfl, SqT.of ep, at0, _, _, rfl, rfl, _, rfl, f, _, 1, .int _, rfl, rfl, SqL.of ef', at1, _, rfl, p, _, 1, .int _, rfl, rfl, SqT.of ep, at1, _, _, rfl, rfl, sz2, fun f2 hf2 => ?_⟩
        refine ⟨f2, _, _, rfl, ?_, s6.trans (s7.trans (Same.new hf2))⟩
        rw [upd_same, tk]
        simp only [List.map_append, List.sum_append, List.map_cons, List.map_nil, List.sum_cons, List.sum_nil, Int.add_zero, Int.add_assoc]
    · rintro σ H' ⟨f, v3, v4, rfl, ef, s6⟩
      have lp := Paired.length pk
      rw [← lp, List.take_length, ← ee, ← ew] at ef
      exact ⟨_, rfl, f, _, rfl, .inl ⟨SqL.of ef, fun t ht => q t _ ((s5.trans s6).trans (Same.new ht)) upd_same⟩⟩
end
end MS
end
section
set_option maxRecDepth 100000
set_option maxHeartbeats 4000000
namespace MS
open PySem L2
theorem er_congr {i M : Nat} {c c' : Nat → Int} (h : ∀ j, i < j → j < M → c j = c' j) : ∀ (d : Nat) (s : Sch), OkS i M d s → er c d s = er c' d s
  | 0, _, o => by cases o
  | _ + 1, .step _ _, _ => rfl
  | d + 1, .all k, o => by
    show (k.map (er c d)).sum = (k.map (er c' d)).sum
    rw [List.map_congr_left fun s hs => er_congr h d s (o.2.2 s hs)]
  | d + 1, .best k, o => by
    show (k.map (er c d)).sum = (k.map (er c' d)).sum
    rw [List.map_congr_left fun s hs => er_congr h d s (o.2.2 s hs)]
  | d + 1, .most _ s, o => er_congr h d s o.2
  | d + 1, .half s, o => er_congr h d s o
  | d + 1, .seen _ s, o => er_congr h d s o.2
  | d + 1, .behind _ s, o => er_congr h d s o.2
  | d + 1, .carry s, o => er_congr h d s o
  | d + 1, .fin _ _ s, o => congrArg (1 + ·) (er_congr h d s o.2)
  | _ + 1, .use n, o => h n o.1 o.2
theorem wr_congr {i M : Nat} {c c' : Nat → Int} (h : ∀ j, i < j → j < M → c j = c' j) : ∀ (d : Nat) (s : Sch), OkS i M d s → wr c d s = wr c' d s
  | 0, _, o => by cases o
  | _ + 1, .step _ _, _ => rfl
  | d + 1, .all k, o => by
    show (k.map (wr c d)).sum = (k.map (wr c' d)).sum
    rw [List.map_congr_left fun s hs => wr_congr h d s (o.2.2 s hs)]
  | d + 1, .best k, o => by
    show (k.map (wr c d)).sum = (k.map (wr c' d)).sum
    rw [List.map_congr_left fun s hs => wr_congr h d s (o.2.2 s hs)]
  | d + 1, .most _ s, o => wr_congr h d s o.2
  | d + 1, .half s, o => wr_congr h d s o
  | d + 1, .seen _ s, o => congrArg (1 + ·) (wr_congr h d s o.2)
  | d + 1, .behind _ s, o => congrArg (1 + ·) (wr_congr h d s o.2)
  | d + 1, .carry s, o => wr_congr h d s o
  | d + 1, .fin _ _ s, o => wr_congr h d s o.2
  | _ + 1, .use n, o => h n o.1 o.2
/-- a paper stands in the heap -/
def PaperAt (H : Hp) (ps : List Sch) (v : V) : Prop := ∃ a vs, v = .ref a ∧ H a = some (.tup vs) ∧ Paired (SAt H 5) ps vs
theorem PaperAt.keep {H H' : Hp} {ps : List Sch} {v : V} (h : PaperAt H ps v) (k : TupK H H') : PaperAt H' ps v := by
  obtain ⟨a, vs, e, h1, h2⟩ := h
  exact ⟨a, vs, e, k _ _ h1, paired_imp h2 fun s v => SAt.keep k _ _ _⟩
/-- the later ones from the n-th on can be -/
def TailOk (ce cw : Nat → Int) (M n : Nat) (ps : List Sch) : Prop := ∀ k s, ps[k]? = some s → OkS (n + k) M 5 s ∧ ce (n + k) = er ce 5 s ∧ cw (n + k) = wr cw 5 s ∧ sz 5 s ≤ 12 ∧ er ce 5 s ≤ 7 ∧ wr cw 5 s ≤ 3
def PaperOk (ps : List Sch) : Prop := 0 < ps.length ∧ ps.length ≤ 5 ∧ ∃ ce cw : Nat → Int, TailOk ce cw ps.length 0 ps
theorem TailOk.cons {ce cw : Nat → Int} {M n : Nat} {ps : List Sch} {s : Sch} (h : TailOk ce cw M (n + 1) ps) (o : OkS n M 5 s) (hM : n + 1 + ps.length ≤ M) (h1 : sz 5 s ≤ 12) (h2 : er ce 5 s ≤ 7) (h3 : wr cw 5 s ≤ 3) :
    TailOk (fun j => if j = n then er ce 5 s else ce j) (fun j => if j = n then wr cw 5 s else cw j) M n (s :: ps) := by
  have key : ∀ i t, n ≤ i → OkS i M 5 t → er (fun j => if j = n then er ce 5 s else ce j) 5 t = er ce 5 t ∧ wr (fun j => if j = n then wr cw 5 s else cw j) 5 t = wr cw 5 t := fun i t hi ot =>
    ⟨er_congr (fun j hj _ => if_neg (by omega)) 5 t ot, wr_congr (fun j hj _ => if_neg (by omega)) 5 t ot⟩
  intro k t e
  cases k with
  | zero =>
    obtain rfl : s = t := by simpa using e
    obtain ⟨k1, k2⟩ := key n s (Nat.le_refl _) o
    rw [k1, k2]
    exact ⟨o, if_pos rfl, if_pos rfl, h1, h2, h3⟩
  | succ k =>
    obtain ⟨q1, q2, q3, q4, q5, q6⟩ := h k t (by simpa using e)
    have en : n + 1 + k = n + (k + 1) := by omega
    rw [en] at q1 q2 q3
    obtain ⟨k1, k2⟩ := key (n + (k + 1)) t (by omega) q1
    rw [k1, k2]
    exact ⟨q1, by rw [← q2]; exact if_neg (by omega), by rw [← q3]; exact if_neg (by omega), q4, q5, q6⟩
theorem fn_any {P : Program} {w : World} {K : PySem.W.Frag} {mg : Str → Option Value} {base : Heap} {ι : Type} {sp : ι → Sp} {k : Nat} {f : Addr} {fd : FuncData} {ps : List Str} (G : ∀ i, FnOk P w K mg base CX0 k f fd ps (sp i)) : FnOk P w K mg base CX0 k f fd ps (fun vs H Q E => ∃ i, sp i vs H Q E) :=
  ⟨fun vs H Q E ⟨i, h⟩ => (G i).1 vs H Q E h, fun A outer s H args us vs Q E a1 a2 a3 a4 ⟨i, h⟩ => (G i).2 A outer s H args us vs Q E a1 a2 a3 a4 h⟩
structure Gp where
  i : Nat
  M : Nat
  ce : Nat → Int
  cw : Nat → Int
theorem cut_to (xs : List V) (k : Nat) : cutV xs none (some (k : Int)) = xs.take k := by
  unfold cutV
  rw [HT.sIx_none, HT.sIx_nat, List.drop_zero, Nat.sub_zero]
  by_cases h : k ≤ xs.length
  · rw [Nat.min_eq_left h]
  · rw [Nat.min_eq_right (by omega), List.take_of_length_le (Nat.le_refl _), List.take_of_length_le (by omega)]
theorem cut_from (xs : List V) (k : Nat) : cutV xs (some (k : Int)) none = xs.drop k := by
  unfold cutV
  rw [HT.sIx_none, HT.sIx_nat]
  by_cases h : k ≤ xs.length
  · rw [Nat.min_eq_left h, List.take_of_length_le (by rw [List.length_drop]; exact Nat.le_refl _)]
  · rw [Nat.min_eq_right (by omega), List.drop_eq_nil_of_le (Nat.le_refl _), List.drop_eq_nil_of_le (by omega)]
    simp
/-- plain steps in a row -/
def StepR (H : Hp) (s : Sch) (v : V) : Prop := ∃ x p a, s = .step x p ∧ v = V.ref a ∧ H a = some (.tup [.str "step", .str x, .int p]) ∧ IsW x ∧ 1 ≤ p ∧ p ≤ 9
theorem StepR.keep {H H' : Hp} {s : Sch} {v : V} (h : StepR H s v) (k : TupK H H') : StepR H' s v := by
  obtain ⟨x, p, a, e1, e2, e3, r⟩ := h
  exact ⟨x, p, a, e1, e2, k _ _ e3, r⟩
theorem StepR.at {H : Hp} {s : Sch} {v : V} (h : StepR H s v) (d : Nat) : SAt H (d + 1) s v := by
  obtain ⟨x, p, a, rfl, e2, e3, r⟩ := h
  exact ⟨a, e2, e3⟩
theorem steps_ok {H : Hp} {i M : Nat} {ce cw : Nat → Int} (d : Nat) : ∀ {ss : List Sch} {vs : List V}, Paired (StepR H) ss vs → (∀ s ∈ ss, OkS i M (d + 1) s) ∧ (ss.map (sz (d + 1))).sum = ss.length ∧ (ss.map (er ce (d + 1))).sum = ss.length ∧ (ss.map (wr cw (d + 1))).sum = 0
  | _, _, .nil => ⟨(fun _ h => nomatch h), rfl, rfl, rfl⟩
  | _, _, .cons h t => by
    obtain ⟨h1, h2, h3, h4⟩ := steps_ok (i := i) (M := M) (ce := ce) (cw := cw) d t
    obtain ⟨x, p, a, rfl, _, _, r1, r2⟩ := h
    refine ⟨fun s' hs' => ?_, ?_, ?_, ?_⟩
    · rcases List.mem_cons.mp hs' with rfl | hs'
      · exact ⟨r1, r2⟩
      · exact h1 s' hs'
    · rw [List.map_cons, List.sum_cons, h2, List.length_cons]
      show (1 : Int) + _ = _
      omega
    · rw [List.map_cons, List.sum_cons, h3, List.length_cons]
      show (1 : Int) + _ = _
      omega
    · rw [List.map_cons, List.sum_cons, h4]
      rfl
theorem paired_take {α β : Type} {R : α → β → Prop} : ∀ {xs : List α} {ys : List β}, Paired R xs ys → ∀ n, Paired R (xs.take n) (ys.take n)
  | _, _, .nil, n => by simp; exact .nil
  | _, _, .cons r t, 0 => .nil
  | _, _, .cons r t, n + 1 => .cons r (paired_take t n)
theorem paired_drop {α β : Type} {R : α → β → Prop} : ∀ {xs : List α} {ys : List β}, Paired R xs ys → ∀ n, Paired R (xs.drop n) (ys.drop n)
  | _, _, .nil, n => by simp; exact .nil
  | _, _, .cons r t, 0 => .cons r t
  | _, _, .cons r t, n + 1 => paired_drop t n
theorem Keep.drop {b l m : Addr} {H H1 H2 : Hp} (k1 : Keep [b, l] H H1) (k2 : Keep [b, l, m] H1 H2) (hm : H m = none) : Keep [b, l] H H2 := fun a o e n => k2 a o (k1 a o e n) fun h => by
  have ne : a ≠ m := ne_of_none e hm
  simp only [List.mem_cons, List.not_mem_nil, or_false] at h n
  rcases h with h | h | h
  · exact n (.inl h)
  · exact n (.inr h)
  · exact ne h
theorem Keep.freeN {S : List Addr} {H H' : Hp} {m : Addr} (k : Keep S H H') (hm : H' m = none) (n : m ∉ S) : H m = none := by
  cases q : H m with
  | none => rfl
  | some o =>
    have z := k m o q n
    rw [hm] at z
    cases z
theorem pick3 {x y z r : Int} (h0 : 0 ≤ r) (h1 : r < 3) : ∃ w, atI [V.int x, V.int y, V.int z] r = some (.int w) ∧ (w = x ∨ w = y ∨ w = z) := by
  have e : r = 0 ∨ r = 1 ∨ r = 2 := by omega
  rcases e with rfl | rfl | rfl
  · exact ⟨x, at0, .inl rfl⟩
  · exact ⟨y, at1, .inr (.inl rfl)⟩
  · exact ⟨z, at2, .inr (.inr rfl)⟩
theorem pick2' {x y r : Int} (h0 : 0 ≤ r) (h1 : r < 2) : ∃ w, atI [V.int x, V.int y] r = some (.int w) ∧ (w = x ∨ w = y) := by
  have e : r = 0 ∨ r = 1 := by omega
  rcases e with rfl | rfl
  · exact ⟨x, at0, .inl rfl⟩
  · exact ⟨y, at1, .inr rfl⟩
def UseR (ce cw : Nat → Int) (H : Hp) (j : Nat) (v : V) : Prop := ∃ t, v = V.ref t ∧ H t = some (.tup [.int ((j : Nat) : Int), .int (ce j), .int (cw j)])
theorem use_other {ce cw : Nat → Int} {H : Hp} {n : Nat} {x y : Int} : ∀ {js : List Nat} {uv : List V}, Paired (UseR ce cw H) js uv → (∀ j ∈ js, j ≠ n) → Paired (UseR (fun j => if j = n then x else ce j) (fun j => if j = n then y else cw j) H) js uv
  | _, _, .nil, _ => .nil
  | _, _, .cons h t, al => .cons (by
      obtain ⟨t, e1, e2⟩ := h
      exact ⟨t, e1, by simp [e2, al _ List.mem_cons_self]⟩) (use_other t fun j hj => al j (List.mem_cons_of_mem _ hj))
theorem use_new {ce cw : Nat → Int} {H : Hp} {n : Nat} {x y : Int} {p : Addr} (h : H p = some (.tup [.int ((n : Nat) : Int), .int x, .int y])) : UseR (fun j => if j = n then x else ce j) (fun j => if j = n then y else cw j) H n (.ref p) :=
  ⟨p, rfl, by simp [h]⟩
theorem Box.tup {H H' : Hp} {b l : Addr} (B : Box H b l) (k : Keep [b, l] H H') : TupK H H' := k.tup fun a ha => by
  obtain ⟨_, ⟨n, e1⟩, ns, e2⟩ := B
  rcases List.mem_cons.mp ha with rfl | ha
  · exact ⟨_, e1⟩
  · rw [List.mem_singleton.mp ha]; exact ⟨_, e2⟩
def spPaper : Sp := fun vs H Q _ => ∃ (b l L : Addr) (F : List Str), vs = [.ref b, .ref L] ∧ Box H b l ∧ L ≠ b ∧ L ≠ l ∧ H L = some (.lst (F.map V.str)) ∧ (∀ x ∈ F, IsW x) ∧ 0 < F.length ∧ F.length ≤ 8 ∧
  ∀ (v : V) (ps : List Sch) (H' : Hp), PaperAt H' ps v → PaperOk ps → Box H' b l → Keep [b, l] H H' → Q v H'
abbrev nmPaper : List Str := ["_law_box", "_law_letters_here", "_law_left", "_law_words", "_law_turn", "_law_steps", "_law_whole", "_law_many", "_law_found", "_law_uses", "_law_number_here", "_law_scheme_here", "_law_word"]
section
variable {P : Program} {w : World} {K : PySem.W.Frag} {mg : Str → Option Value} {base : Heap}
theorem ok_counted {i M : Nat} {ce cw : Nat → Int} (D : Def K mg "_law_counted" s_L_counted psCounted) (mi : mg "int" = none) (mt : mg "tuple" = none) (mis : mg "isinstance" = none) : ∀ d : Nat, FnOk P w K mg base CX0 d D.f D.fd psCounted (spCounted K i M ce cw d)
  | 0 => by
    have no : ∀ vs H Q E, ¬ spCounted K i M ce cw 0 vs H Q E := fun vs H Q E h => by
      obtain ⟨v, u, s, _, h, _⟩ := h
      cases h
    exact ⟨fun vs H Q E h => absurd h (no vs H Q E), fun A outer s H args us vs Q E _ _ _ _ h => absurd h (no vs H Q E)⟩
  | d + 1 => counted_turn D mi mt mis (ok_counted D mi mt mis d)
theorem ok_paper (D : Def K mg "_law_paper" s_L_paper ["_law_box", "_law_letters_here"]) (DT : Def K mg "_law_take" s_L_take ["_law_box", "_law_many"]) (DS : Def K mg "_law_scheme" s_L_scheme psScheme) (DC : Def K mg "_law_counted" s_L_counted psCounted)
    (ml : mg "len" = none) (mr : mg "range" = none) (mt : mg "tuple" = none) (mi : mg "int" = none) (mis : mg "isinstance" = none) (mli : mg "list" = none) : FnOk P w K mg base CX0 7 D.f D.fd ["_law_box", "_law_letters_here"] spPaper := by
  have GT : FnOk P w K mg base CX0 1 DT.f DT.fd ["_law_box", "_law_many"] spTake := ok_take DT
  have GS : FnOk P w K mg base CX0 6 DS.f DS.fd psScheme (fun vs H Q E => ∃ g : Gp, spScheme g.i g.M g.ce g.cw 4 vs H Q E) := fn_any fun g => ok_scheme DS DT ml mr mt 4
  have GC : FnOk P w K mg base CX0 5 DC.f DC.fd psCounted (fun vs H Q E => ∃ g : Gp, spCounted K g.i g.M g.ce g.cw 5 vs H Q E) := fn_any fun g => ok_counted DC mi mt mis 5
  have nd := sc_L_paper.nd
  refine D.ok sc_L_paper (fun vs H Q E h => ?_) (fun cdv A outer s H vs Q E hr h => ?_)
  · obtain ⟨b, l, L, F, rfl, _⟩ := h
    rfl
  obtain ⟨b, l, L, F, rfl, B, nb, nl, eL, w1, l0, l1, q⟩ := h
  have hr1 : Room 1 _ := hr.mono (by decide)
  have hr5 : Room 5 _ := hr.mono (by decide)
  refine ⟨_, pss_cons (ps_if (pt_cmpR op_eq (pcall DT GT hr1 (pa_cons (pv 0) (pa_cons pe_int pa_nil))) pe_int (nomark _))
      (pss_cons (ps_par (i := 2) (j := 3) (by rfl) nd rfl rfl (by decide) rfl rfl (pa_cons (pe_callTy (cr_listStr rfl) rfl mli (by decide +kernel) (pa_cons pe_str pa_nil)) (pa_cons (pe_lst pa_nil) pa_nil)) (by rfl))
      (pss_cons (ps_for PassesOwn.never rfl (pi_range1 rfl mr (pa_cons (pe_op op_add pe_int (pcall DT GT hr1 (pa_cons (pv 0) (pa_cons pe_int pa_nil)))) pa_nil)) (pg_name (i := 4) nd rfl (Or.inl rfl))
        (pss_one (ps_expr (pe_bm PySem.F.plainAttrs_list PySem.F.slot_list_append PySem.F.type_list_append mt_append (pv 3)
          (pa_cons (pe_bm PySem.F.plainAttrs_list PySem.F.slot_list_pop PySem.F.type_list_pop mt_popAt (pv 2) (pa_cons (pcall DT GT hr1 (pa_cons (pv 0) (pa_cons (pe_callB call_len_seq rfl ml PySem.boot_len (pa_cons (pv 2) pa_nil)) pa_nil))) pa_nil)) pa_nil)))))
      (pss_cons (ps_setLc (i := 5) (own := [("_law_word", 12)]) (g := gName 12) (tt := tYes) rfl nd rfl rfl (sw_true rfl rfl rfl (by decide +kernel)) (pi_list (pe_slice sl_list (pv 3) po_none (po_some pe_int))) (blkOk_by (N := nmPaper) (sc := defScope s_L_paper) (by decide +kernel)) (fun _ _ _ _ _ => pg_name (i := 12) nd rfl (Or.inl rfl)) (fun _ _ _ _ _ => pts_nil)
          (fun _ _ _ _ _ => pe_tup (pa_cons pe_str (pa_cons (pv 12) (pa_cons (pe_op op_add pe_int (pcall DT GT hr1 (pa_cons (pv 0) (pa_cons pe_int pa_nil)))) pa_nil)))))
      (pss_cons (ps_set (i := 6) nd rfl (Or.inl rfl) (pe_tup (pa_cons pe_str (pa_cons (pe_tup (pa_cons (pe_tup (pa_cons pe_str (pa_cons (pe_callTy call_tuple_of rfl mt (by decide +kernel) (pa_cons (pe_slice sl_list (pv 5) po_none (po_some pe_int)) pa_nil)) pa_nil)))
          (pa_cons (pe_tup (pa_cons pe_str (pa_cons (pe_callTy call_tuple_of rfl mt (by decide +kernel) (pa_cons (pe_slice sl_list (pv 5) (po_some pe_int) po_none) pa_nil)) pa_nil))) pa_nil))) pa_nil))))
      (pss_one (ps_ret (pe_tup (pa_cons (pe_ifExp (pt_cmpR op_gt (pe_callB call_len_seq rfl ml PySem.boot_len (pa_cons (pv 3) pa_nil)) pe_int (nomark _)) (pe_tup (pa_cons pe_str (pa_cons (pe_ix ix_list (pv 3) pe_int (fun _ _ => rfl)) (pa_cons (pv 6) pa_nil)))) (pv 6)) pa_nil)))))))) pss_nil)
    (pss_cons (ps_set (i := 7) nd rfl (Or.inl rfl) (pe_op op_add pe_int (pe_ix ix_list (pe_lst (pa_cons pe_int (pa_cons (pcall DT GT hr1 (pa_cons (pv 0) (pa_cons pe_int pa_nil))) (pa_cons (pcall DT GT hr1 (pa_cons (pv 0) (pa_cons pe_int pa_nil))) pa_nil)))) (pcall DT GT hr1 (pa_cons (pv 0) (pa_cons pe_int pa_nil))) (fun _ _ => rfl))))
    (pss_cons (ps_par (i := 8) (j := 9) (by rfl) nd rfl rfl (by decide) rfl rfl (pa_cons (pe_lst pa_nil) (pa_cons (pe_lst pa_nil) pa_nil)) (by rfl))
    (pss_cons (ps_for PassesOwn.never rfl (pi_range3 rfl mr (pa_cons (pe_op op_sub (pv 7) pe_int) (pa_cons (pe_un un_neg pe_int) (pa_cons (pe_un un_neg pe_int) pa_nil)))) (pg_name (i := 10) nd rfl (Or.inl rfl))
      (pss_cons (ps_set (i := 2) nd rfl (Or.inl rfl) (pe_lst (pa_cons (pe_ix ix_list (pe_lst (pa_cons pe_int (pa_cons pe_int (pa_cons pe_int pa_nil)))) (pcall DT GT hr1 (pa_cons (pv 0) (pa_cons pe_int pa_nil))) (fun _ _ => rfl))
          (pa_cons (pe_ix ix_list (pe_lst (pa_cons pe_int (pa_cons pe_int (pa_cons pe_int pa_nil)))) (pcall DT GT hr1 (pa_cons (pv 0) (pa_cons pe_int pa_nil))) (fun _ _ => rfl))
          (pa_cons (pe_ix ix_list (pe_lst (pa_cons pe_int (pa_cons pe_int pa_nil))) (pcall DT GT hr1 (pa_cons (pv 0) (pa_cons pe_int pa_nil))) (fun _ _ => rfl)) pa_nil)))))
      (pss_cons (ps_set (i := 11) nd rfl (Or.inl rfl) (pcall DS GS hr (pa_cons (pv 0) (pa_cons (pv 1) (pa_cons (pv 2) (pa_cons pe_int (pa_cons (pv 9) pa_nil)))))))
      (pss_cons (ps_set (i := 8) nd rfl (Or.inl rfl) (pe_op op_cat (pe_lst (pa_cons (pv 11) pa_nil)) (pv 8)))
      (pss_one (ps_set (i := 9) nd rfl (Or.inl rfl) (pe_op op_cat (pv 9) (pe_lst (pa_cons (pe_op op_catA (pe_tup (pa_cons (pv 10) pa_nil)) (pe_callTy call_tuple_of rfl mt (by decide +kernel) (pa_cons (pcall DC GC hr5 (pa_cons (pv 11) (pa_cons (pv 9) pa_nil))) pa_nil))) pa_nil)))))))))
    (pss_one (ps_ret (pe_callTy call_tuple_of rfl mt (by decide +kernel) (pa_cons (pv 8) pa_nil))))))), ?_⟩
  refine ⟨_, rfl, b, l, 12, rfl, by decide, by decide, B, fun r0 H1 a0 a1 B1 k1 => ?_⟩
  have nin : ∀ {x : Addr}, x ≠ b ∧ x ≠ l → x ∉ [b, l] := fun {x} h => by simp [h.1, h.2]
  refine ⟨rfl, _, rfl, ?_⟩
  refine ite2 (fun _ => ?_) (fun _ => ?_)
  · -- a paper of many words
    refine ⟨_, rfl, by decide, fun p hp => ?_⟩
    rw [letters_of]
    refine ⟨Nat.zero_le _, fun f hf => ⟨_, _, rfl, ?_⟩⟩
    have npf : p ≠ f := ne_of_none upd_same hf
    have hpf : upd (upd H1 p (.lst (wordsL.map V.str))) f (.lst []) p = some (.lst (wordsL.map V.str)) := by rw [upd_ne npf]; exact upd_same
    have k2 : Keep [b, l] H1 (upd (upd H1 p (.lst (wordsL.map V.str))) f (.lst [])) := (Keep.new hp).trans (Keep.new hf)
    have hf0 : H1 f = none := (Same.new hp).free hf
    have nfb := B1.ne_new hf0
    have npb := B1.ne_new hp
    have B2 : Box (upd (upd H1 p (.lst (wordsL.map V.str))) f (.lst [])) b l := (B1.new hp).put nfb.1 nfb.2
    refine ⟨_, rfl, b, l, 3, rfl, by decide, by decide, B2, fun r H3 b0 b1 B3 k3 => ⟨_, _, rfl, rfl, _, rfl, by omega, by omega, ?_⟩⟩
    refine for_range (lo := 0) (n := (6 + r).toNat) (fun i σ H' => ∃ (W F : List Str) (v : Option V), σ = [some (.ref b), some (.ref L), some (.ref p), some (.ref f), v, none, none, none, none, none, none, none, none] ∧ H' p = some (.lst (W.map V.str)) ∧ H' f = some (.lst (F.map V.str)) ∧
        W.length + i = 8 ∧ F.length = i ∧ (∀ x ∈ W, IsW x) ∧ (∀ x ∈ F, IsW x) ∧ Box H' b l ∧ Keep [b, l] H1 H')
      ⟨wordsL, [], none, rfl, k3 _ _ hpf (nin npb), k3 _ _ upd_same (nin nfb), rfl, rfl, fun _ h => h, (fun _ h => nomatch h), B3, k2.trans k3⟩ ?_ ?_
    · rintro i σ H' hi ⟨W, F, v, rfl, e1, e2, l1, l2, w1, w2, B', k'⟩
      have hW : 0 < W.length := by omega
      refine ⟨_, rfl, .inl ⟨rfl, _, SqL.of e2⟩, _, rfl, .inl ⟨rfl, _, SqL.of e1⟩, _, rfl, _, rfl, p, _, rfl, .inl (SqL.of e1), b, l, _, rfl, (by rw [List.length_map]; omega), (by rw [List.length_map]; omega), B', fun r H2' r0 r1' B2' k2' => ?_⟩
      rw [List.length_map] at r1'
      have hr' : r.toNat < W.length := by omega
      have e1' := k2' _ _ e1 (nin npb)
      have e2' := k2' _ _ e2 (nin nfb)
      refine ⟨p, _, r, r.toNat, .str (W[r.toNat]'hr'), rfl, rfl, e1', by omega, by omega, seq_of r0 (by rw [List.length_map]; exact r1'), get_map V.str W hr', ?_⟩
      refine ⟨f, _, _, rfl, rfl, (by rw [upd_ne npf.symm]; exact e2'), (by rw [List.length_map]; exact small1000 (by omega)), ?_⟩
      refine ⟨W.eraseIdx r.toNat, F ++ [W[r.toNat]'hr'], _, rfl, ?_, ?_, ?_, ?_, fun x hx => w1 x (mem_eraseIdx hx), fun x hx => ?_, (B2'.put npb.1 npb.2).put nfb.1 nfb.2, ((k'.trans k2').newer hp).newer hf0⟩
      · rw [upd_ne npf, upd_same, map_erase]
      · rw [upd_same, List.map_append]
        rfl
      · rw [List.length_eraseIdx_of_lt hr']
        omega
      · rw [List.length_append, l2]
        rfl
      · rcases List.mem_append.mp hx with hx | hx
        · exact w2 x hx
        · rw [List.mem_singleton.mp hx]
          exact w1 _ (List.getElem_mem hr')
    · rintro σ H4 ⟨W, F, v, rfl, e1, e2, l1, l2, w1, w2, B4, k4⟩
      have F6 : 6 ≤ F.length ∧ F.length ≤ 8 := by omega
      refine ⟨_, rfl, 7, rfl, f, _, rfl, SqL.of e2, fun q1 hq1 => ?_⟩
      have ec : cutV (F.map V.str) none (some 7) = (F.take 7).map V.str := by rw [List.map_take]; exact cut_to _ 7
      rw [ec]
      refine ⟨q1, rfl, ⟨_, SqL.of upd_same⟩, fun Dd hD => ?_⟩
      have nqD : q1 ≠ Dd := ne_of_none upd_same hD
      have B5 := B4.new (o := .lst ((F.take 7).map V.str)) hq1
      have hD4 : H4 Dd = none := (Same.new hq1).free hD
      have k5 : Keep [b, l] H1 (upd (upd H4 q1 (.lst ((F.take 7).map V.str))) Dd (.lst [])) := k4.trans ((Keep.new hq1).trans (Keep.new hD))
      have nDb := B4.ne_new hD4
      refine lc_list (K := K) (a := q1) (xs := (F.take 7).map V.str) (fun k H'' => ∃ (ss : List Sch) (vs' : List V), H'' Dd = some (.lst vs') ∧ ss.length = k ∧ Paired (StepR H'') ss vs' ∧ Box H'' b l ∧ Keep [b, l] (upd H4 q1 (.lst ((F.take 7).map V.str))) H'')
        ⟨[], [], upd_same, rfl, .nil, B5.put nDb.1 nDb.2, Keep.new hD⟩ (fun k H'' _ ⟨_, _, _, _, _, _, kk⟩ => SqL.of (kk _ _ upd_same (B4.nin hq1))) ?_ ?_
      · rintro k x H'' hk ⟨ss, vs', eD, ls, pw, B6, k6⟩
        obtain ⟨y, hy, rfl⟩ := List.mem_map.mp (List.mem_of_getElem? hk)
        have yw := w2 y (List.mem_of_mem_take hy)
        have hkl := (List.getElem?_eq_some_iff.mp hk).1
        rw [List.length_map, List.length_take] at hkl
        refine ⟨rfl, _, rfl, _, rfl, b, l, 9, rfl, by decide, by decide, B6, fun r H7 c0 c1 B7 k7 => ⟨_, _, rfl, rfl, (by show 3 ≤ sizeLine; decide), fun t ht => ?_⟩⟩
        have eD7 := k7 _ _ eD (nin nDb)
        have nDt : Dd ≠ t := ne_of_none eD7 ht
        have lv := Paired.length pw
        have t7 : TupK H'' H7 := k7.tup fun a ha => by
          obtain ⟨_, ⟨n, e1⟩, ns, e2⟩ := B6
          rcases List.mem_cons.mp ha with rfl | ha
          · exact ⟨_, e1⟩
          · rw [List.mem_singleton.mp ha]; exact ⟨_, e2⟩
        have eD8 : upd H7 t (.tup [.str "step", .str y, .int (1 + r)]) Dd = some (.lst vs') := by rw [upd_ne nDt]; exact eD7
        have t8 : TupK H7 (upd (upd H7 t (.tup [.str "step", .str y, .int (1 + r)])) Dd (.lst (vs' ++ [.ref t]))) := (TupK.new ht).trans (TupK.put eD8)
        refine ⟨vs', eD8, small1000 (by omega), ss ++ [.step y (1 + r)], vs' ++ [.ref t], upd_same, by simp [ls], paired_snoc (paired_imp pw fun s' v' h => h.keep (t7.trans t8)) ⟨y, 1 + r, t, rfl, rfl, by rw [upd_ne nDt.symm]; exact upd_same, yw, by omega, by omega⟩, ((B7.new ht).put nDb.1 nDb.2), ?_⟩
        exact ((k6.trans k7).trans (Keep.new ht)).newer (by rw [upd_ne (ne_of_none upd_same hD).symm] <;> exact hD4)
      · rintro H5 ⟨ss, vs', eD, ls, pw, B6, k6⟩
        rw [List.length_map, List.length_take] at ls
        have k4' : Keep [b, l] H4 H5 := (Keep.new hq1).trans k6
        have e2' := k4' _ _ e2 (nin nfb)
        dsimp only [gName]
        refine ⟨_, rfl, 4, rfl, Dd, _, rfl, SqL.of eD, fun s2 hs2 => ⟨s2, _, rfl, .inl ⟨SqL.of upd_same, fun t2 ht2 => ⟨sz2, fun A1 hA1 => ?_⟩⟩⟩⟩
        have eDx := Same.new (o := .tup [.str "all", .ref t2]) hA1 _ _ (Same.new (o := .tup (cutV vs' none (some 4))) ht2 _ _ (Same.new (o := .lst (cutV vs' none (some 4))) hs2 _ _ eD))
        refine ⟨_, rfl, 4, rfl, Dd, _, rfl, SqL.of eDx, fun s3 hs3 => ⟨s3, _, rfl, .inl ⟨SqL.of upd_same, fun t3 ht3 => ⟨sz2, fun A2 hA2 => ⟨sz2, fun A3 hA3 => ⟨sz2, fun A4 hA4 => ?_⟩⟩⟩⟩⟩⟩
        have c1 : cutV vs' none (some 4) = vs'.take 4 := cut_to _ 4
        have c2 : cutV vs' (some 4) none = vs'.drop 4 := cut_from _ 4
        have o4 := Same.new (o := .tup [.str "all", .ref A3]) hA4
        have o3 := (Same.new (o := .tup [.ref A1, .ref A2]) hA3).trans o4
        have o2 := (Same.new (o := .tup [.str "best", .ref t3]) hA2).trans o3
        have ot3 := (Same.new (o := .tup (cutV vs' (some 4) none)) ht3).trans o2
        have os3 := (Same.new (o := .lst (cutV vs' (some 4) none)) hs3).trans ot3
        have o1 := (Same.new (o := .tup [.str "all", .ref t2]) hA1).trans os3
        have ot2 := (Same.new (o := .tup (cutV vs' none (some 4))) ht2).trans o1
        have o5 := (Same.new (o := .lst (cutV vs' none (some 4))) hs2).trans ot2
        have f3 := o4 _ _ (upd_same (a := A3) (o := .tup [.ref A1, .ref A2]))
        have f2 := o3 _ _ (upd_same (a := A2) (o := .tup [.str "best", .ref t3]))
        have ft3 := o2 _ _ (upd_same (a := t3) (o := .tup (cutV vs' (some 4) none)))
        have f1 := os3 _ _ (upd_same (a := A1) (o := .tup [.str "all", .ref t2]))
        have ft2 := o1 _ _ (upd_same (a := t2) (o := .tup (cutV vs' none (some 4))))
        dsimp only [gName]
        have e2f := o5 _ _ e2'
        have lF : (F.map V.str).length = F.length := List.length_map _
        have ss6 : 6 ≤ ss.length ∧ ss.length ≤ 7 := by omega
        have pwA := paired_take pw 4
        have pwB := paired_drop pw 4
        have B8 : Box _ b l := B6.keep (S := []) (fun a o e _ => o5 _ _ e) (by simp) (by simp)
        have k8 : Keep [b, l] H _ := k1.trans (k4.trans (k4'.trans (fun a o e _ => o5 _ _ e)))
        -- the whole, at any depth
        have wholeAt : ∀ (d : Nat) (Hf : Hp), TupK _ Hf → SAt Hf (d + 3) (.all [.all (ss.take 4), .best (ss.drop 4)]) (.ref A4) := fun d Hf kt =>
          ⟨A4, A3, _, rfl, kt _ _ upd_same, kt _ _ f3, .cons ⟨A1, t2, _, rfl, kt _ _ f1, (show Hf t2 = some (.tup (vs'.take 4)) by rw [← c1]; exact kt _ _ ft2), paired_imp pwA fun s' v' h => ((h.keep (Same.tupK o5)).keep kt).at d⟩ (.cons ⟨A2, t3, _, rfl, kt _ _ f2, (show Hf t3 = some (.tup (vs'.drop 4)) by rw [← c2]; exact kt _ _ ft3), paired_imp pwB fun s' v' h => ((h.keep (Same.tupK o5)).keep kt).at d⟩ .nil)⟩
        have wholeOk : ∀ d, OkS 0 1 (d + 3) (.all [.all (ss.take 4), .best (ss.drop 4)]) ∧ sz (d + 3) (.all [.all (ss.take 4), .best (ss.drop 4)]) ≤ 10 ∧ er (fun _ => 0) (d + 3) (.all [.all (ss.take 4), .best (ss.drop 4)]) ≤ 7 ∧ wr (fun _ => 0) (d + 3) (.all [.all (ss.take 4), .best (ss.drop 4)]) = 0 := fun d => by
          obtain ⟨a1, a2, a3, a4⟩ := steps_ok (i := 0) (M := 1) (ce := fun _ => 0) (cw := fun _ => 0) d pwA
          obtain ⟨d1, d2, d3, d4⟩ := steps_ok (i := 0) (M := 1) (ce := fun _ => 0) (cw := fun _ => 0) d pwB
          rw [List.length_take] at a2 a3
          rw [List.length_drop] at d2 d3
          have lA : (ss.take 4).length = 4 := by rw [List.length_take]; omega
          have lB : (ss.drop 4).length = ss.length - 4 := List.length_drop
          refine ⟨⟨by simp, by simp, fun s' hs' => ?_⟩, ?_, ?_, ?_⟩
          · rcases List.mem_cons.mp hs' with rfl | hs'
            · exact ⟨by omega, by omega, a1⟩
            · rw [List.mem_singleton.mp hs']
              exact ⟨by omega, by omega, d1⟩
          · show 1 + ((1 + ((ss.take 4).map (sz (d + 1))).sum) + ((1 + ((ss.drop 4).map (sz (d + 1))).sum) + 0)) ≤ 10
            omega
          · show (((ss.take 4).map (er (fun _ => 0) (d + 1))).sum) + ((((ss.drop 4).map (er (fun _ => 0) (d + 1))).sum) + 0) ≤ 7
            omega
          · show (((ss.take 4).map (wr (fun _ => 0) (d + 1))).sum) + ((((ss.drop 4).map (wr (fun _ => 0) (d + 1))).sum) + 0) = 0
            omega
        refine ⟨_, rfl, f, _, rfl, .inl (SqL.of e2f), _, _, rfl, rfl, _, rfl, ?_⟩
        refine ite2 (fun c => ?_) (fun c => ?_)
        · have c8 : 7 < F.length := by
            have z := of_decide_eq_true c
            rw [lF] at z
            omega
          refine ⟨_, rfl, f, _, 7, .str (F[7]'c8), rfl, rfl, SqL.of e2f, at_of (j := 7) rfl (get_map V.str F c8), _, rfl, (by show 3 ≤ sizeLine; decide), fun A5 hA5 => ?_⟩
          refine ⟨(by show 1 ≤ sizeLine; decide), fun R hR => ?_⟩
          have oR := (Same.new (o := .tup [.str "seen", .str (F[7]'c8), .ref A4]) hA5).trans (Same.new (o := .tup [.ref A5]) hR)
          obtain ⟨w1', w2', w3', w4'⟩ := wholeOk 1
          refine q (.ref R) [.seen (F[7]'c8) (.all [.all (ss.take 4), .best (ss.drop 4)])] _ ⟨R, _, rfl, upd_same, .cons ⟨A5, _, rfl, Same.new hR _ _ upd_same, wholeAt 1 _ (Same.tupK oR)⟩ .nil⟩ ⟨by simp, by simp, fun _ => er (fun _ => 0) 5 (.seen (F[7]'c8) (.all [.all (ss.take 4), .best (ss.drop 4)])), fun _ => wr (fun _ => 0) 5 (.seen (F[7]'c8) (.all [.all (ss.take 4), .best (ss.drop 4)])), ?_⟩
            (B8.keep (S := []) (fun a o e _ => oR _ _ e) (by simp) (by simp)) (k8.trans (fun a o e _ => oR _ _ e))
          intro k s' hk
          cases k with
          | succ k => simp at hk
          | zero =>
            obtain rfl : _ = s' := by simpa using hk
            have o := (show OkS 0 1 5 (.seen (F[7]'c8) (.all [.all (ss.take 4), .best (ss.drop 4)])) from ⟨w2 _ (List.getElem_mem c8), w1'⟩)
            refine ⟨o, (er_congr (fun j h1 h2 => by omega) 5 _ o), (wr_congr (fun j h1 h2 => by omega) 5 _ o), ?_, ?_, ?_⟩
            · show 1 + sz (1 + 3) _ ≤ 12
              omega
            · rw [er_congr (c' := fun _ => 0) (fun j h1 h2 => by omega) 5 _ o]
              exact w3'
            · rw [wr_congr (c' := fun _ => 0) (fun j h1 h2 => by omega) 5 _ o]
              show 1 + wr (fun _ => 0) (1 + 3) _ ≤ 3
              omega
        · refine ⟨_, rfl, (by show 1 ≤ sizeLine; decide), fun R hR => ?_⟩
          have oR := (Same.new (o := .tup [.ref A4]) hR)
          obtain ⟨w1', w2', w3', w4'⟩ := wholeOk 2
          refine q (.ref R) [.all [.all (ss.take 4), .best (ss.drop 4)]] _ ⟨R, _, rfl, upd_same, .cons (wholeAt 2 _ (Same.tupK oR)) .nil⟩ ⟨by simp, by simp, fun _ => er (fun _ => 0) 5 (.all [.all (ss.take 4), .best (ss.drop 4)]), fun _ => wr (fun _ => 0) 5 (.all [.all (ss.take 4), .best (ss.drop 4)]), ?_⟩
            (B8.keep (S := []) (fun a o e _ => oR _ _ e) (by simp) (by simp)) (k8.trans (fun a o e _ => oR _ _ e))
          intro k s' hk
          cases k with
          | succ k => simp at hk
          | zero =>
            obtain rfl : _ = s' := by simpa using hk
            refine ⟨w1', (er_congr (fun j h1 h2 => by omega) 5 _ w1'), (wr_congr (fun j h1 h2 => by omega) 5 _ w1'), Int.le_trans w2' (by decide), ?_, ?_⟩
            · rw [er_congr (c' := fun _ => 0) (fun j h1 h2 => by omega) 5 _ w1']
              exact w3'
            · rw [wr_congr (c' := fun _ => 0) (fun j h1 h2 => by omega) 5 _ w1']
              exact Int.le_trans (Int.le_of_eq w4') (by decide)
  · refine ⟨_, rfl, b, l, 3, rfl, by decide, by decide, B1, fun r1 H2 b0 b1 B2 k2 => ?_⟩
    refine ⟨_, rfl, b, l, 5, rfl, by decide, by decide, B2, fun r2 H3 c0 c1 B3 k3 => ⟨(by show 3 ≤ sizeLine; decide), fun T hT => ?_⟩⟩
    refine ⟨_, rfl, b, l, 3, rfl, by decide, by decide, B3.new hT, fun r3 H4 d0 d1 B4 k4 => ?_⟩
    have eT := k4 _ _ upd_same (B3.nin hT)
    obtain ⟨mm, em, hmm⟩ := pick3 (x := 0) (y := r1) (z := r2) d0 d1
    have mm0 : 0 ≤ mm ∧ mm ≤ 4 := by omega
    refine ⟨T, _, r3, .int mm, rfl, rfl, SqL.of eT, em, _, _, rfl, rfl, ?_⟩
    have kk4 : Keep [b, l] H H4 := k1.trans (k2.trans (k3.trans ((Keep.new hT).trans k4)))
    refine ⟨Nat.zero_le _, fun f0 hf0 => ⟨Nat.zero_le _, fun u0 hu0 => ⟨_, _, rfl, ?_⟩⟩⟩
    have hu00 : H4 u0 = none := (Same.new hf0).free hu0
    have nfu : f0 ≠ u0 := ne_of_none upd_same hu0
    have B5 := (B4.new (o := .lst []) hf0).new (o := .lst []) hu0
    have kk5 : Keep [b, l] H (upd (upd H4 f0 (.lst [])) u0 (.lst [])) := kk4.trans ((Keep.new hf0).trans (Keep.new hu0))
    have hM : ∃ M : Nat, (M : Int) = 1 + mm := ⟨(1 + mm).toNat, by omega⟩
    obtain ⟨M, eM⟩ := hM
    refine ⟨_, rfl, _, _, rfl, rfl, 1, rfl, 1, rfl, 1 + mm - 1, -1, -1, (1 + mm - 1 - -1).toNat, rfl, RgC.neg (by omega) (by omega) (by decide) (by decide), ?_⟩
    have en : (1 + mm - 1 - -1).toNat = M := by omega
    rw [en]
    refine for_rangeC (lo := 1 + mm - 1) (c := -1) (n := M) (fun k σ H' => ∃ (f u : Addr) (vs : List V) (ps : List Sch) (js : List Nat) (uv : List V) (ce cw : Nat → Int) (v2 v10 v11 : Option V), σ = [some (.ref b), some (.ref L), v2, none, none, none, none, some (.int (1 + mm)), some (.ref f), some (.ref u), v10, v11, none] ∧
        H' f = some (.lst vs) ∧ H' u = some (.lst uv) ∧ (u ≠ b ∧ u ≠ l) ∧ (f ≠ b ∧ f ≠ l) ∧ Paired (SAt H' 5) ps vs ∧ ps.length = k ∧ k ≤ M ∧ TailOk ce cw M (M - k) ps ∧ Paired (UseR ce cw H') js uv ∧ (∀ j, j ∈ js ↔ M - k ≤ j ∧ j < M) ∧ js.length = k ∧ Box H' b l ∧ Keep [b, l] H H')
      ⟨f0, u0, [], [], [], [], fun _ => 0, fun _ => 0, none, none, none, rfl, by rw [upd_ne nfu]; exact upd_same, upd_same, B4.ne_new hu00, B4.ne_new hf0, .nil, rfl, Nat.zero_le _, (fun k s h => by simp at h), .nil, (fun j => ⟨(fun h => nomatch h), fun h => by omega⟩), rfl, B5, kk5⟩ ?_ ?_
    · rintro k σ H' hk ⟨f, u, vs, ps, js, uv, ce, cw, v2, v10, v11, rfl, ef, eu, nu, nf, pp, lp, kM, tl, pu, iff, lj, B', k'⟩
      refine ⟨(by show 3 ≤ sizeLine; decide), fun T1 hT1 => ⟨_, rfl, b, l, 3, rfl, by decide, by decide, B'.new hT1, fun q1 H5 _ _ B5 k5 => ?_⟩⟩
      have eT1 := k5 _ _ upd_same (B'.nin hT1)
      obtain ⟨x, ex, hx⟩ := pick3 (x := 4) (y := 8) (z := 12) (r := q1) (by assumption) (by assumption)
      refine ⟨T1, _, q1, .int x, rfl, rfl, SqL.of eT1, ex, ?_⟩
      refine ⟨(by show 3 ≤ sizeLine; decide), fun T2 hT2 => ⟨_, rfl, b, l, 3, rfl, by decide, by decide, B5.new hT2, fun q2 H6 g0 g1 B6 k6 => ?_⟩⟩
      have eT2 := k6 _ _ upd_same (B5.nin hT2)
      obtain ⟨y, ey, hy⟩ := pick3 (x := 2) (y := 4) (z := 7) (r := q2) g0 g1
      refine ⟨T2, _, q2, .int y, rfl, rfl, SqL.of eT2, ey, ?_⟩
      refine ⟨sz2, fun T3 hT3 => ⟨_, rfl, b, l, 2, rfl, by decide, by decide, B6.new hT3, fun q3 H7 h0 h1 B7 k7 => ?_⟩⟩
      have eT3 := k7 _ _ upd_same (B6.nin hT3)
      obtain ⟨z, ez, hz⟩ := pick2' (x := 1) (y := 3) (r := q3) h0 h1
      refine ⟨T3, _, q3, .int z, rfl, rfl, SqL.of eT3, ez, ?_⟩
      refine ⟨(by show 3 ≤ sizeLine; decide), fun m hm => ?_⟩
      have kk7 : Keep [b, l] H' H7 := (Keep.new hT1).trans (k5.trans ((Keep.new hT2).trans (k6.trans ((Keep.new hT3).trans k7))))
      have B8 := B7.new (o := .lst [.int x, .int y, .int z]) hm
      have kk8 : Keep [b, l] H' (upd H7 m (.lst [.int x, .int y, .int z])) := kk7.trans (Keep.new hm)
      have t8 := B'.tup kk8
      have eu8 := kk8 _ _ eu (nin nu)
      have nmb := B7.ne_new hm
      have eL7 := (k'.trans kk7) _ _ eL (nin ⟨nb, nl⟩)
      have eu7 := kk7 _ _ eu (nin nu)
      have nLm : L ≠ m := ne_of_none eL7 hm
      have num : u ≠ m := ne_of_none eu7 hm
      have pu8 : Paired (UseR ce cw (upd H7 m (.lst [.int x, .int y, .int z]))) js uv := paired_imp pu fun j v ⟨t, e1, e2⟩ => ⟨t, e1, t8 _ _ e2⟩
      have jM : js.length ≤ 5 := by omega
      have g : GenAt (M - 1 - k) M ce cw (upd H7 m (.lst [.int x, .int y, .int z])) b l L m u F x y z :=
        ⟨B8, upd_same, by rw [upd_ne nLm]; exact eL7, w1, l0, l1, ⟨js, uv, eu8, jM, fun j hj => (by have := (iff j).mp hj; omega), pu8⟩, nmb, by simp [nb, nl, nLm], by simp [nu.1, nu.2, num]⟩
      dsimp only [gName]
      refine ⟨_, rfl, _, rfl, _, rfl, _, rfl, ⟨M - 1 - k, M, ce, cw⟩, b, l, L, m, u, F, x, y, z, rfl, g, by omega, by omega, by omega, fun v s H9 x' y' z' sa so e1 e2 e3 p1 p2 p3 el B9 k9 => ?_⟩
      have g9 := g.move k9 B9 el
      have hm' : H' m = none := kk7.freeN hm (nin nmb)
      have k10 : Keep [b, l] H' H9 := Keep.drop kk8 k9 hm'
      have t10 := B'.tup k10
      have ef10 := k10 _ _ ef (nin nf)
      have eu10 := k10 _ _ eu (nin nu)
      have lv := Paired.length pp
      have lu := Paired.length pu
      dsimp only [gName]
      refine ⟨_, rfl, (by show 1 ≤ sizeLine; decide), fun X1 hX1 => ⟨_, rfl, X1, f, _, _, rfl, rfl, upd_same, Same.new hX1 _ _ ef10, szN (by simp only [List.length_cons, List.length_nil]; omega), fun f2 hf2 => ?_⟩⟩
      have o1 := (Same.new (o := .lst [v]) hX1).trans (Same.new (o := .lst ([v] ++ vs)) hf2)
      refine ⟨_, rfl, _, rfl, (by show 1 ≤ sizeLine; decide), fun t1 ht1 => ?_⟩
      have o2 := o1.trans (Same.new (o := .tup [.int (1 + mm - 1 + ((k : Nat) : Int) * -1)]) ht1)
      have eNum : 1 + mm - 1 + ((k : Nat) : Int) * -1 = ((M - 1 - k : Nat) : Int) := by omega
      refine ⟨_, rfl, _, rfl, ⟨M - 1 - k, M, ce, cw⟩, v, u, s, rfl, SAt.keep (Same.tupK o2) _ _ _ sa, so, ⟨js, uv, o2 _ _ eu10, jM, fun j h1 h2 => (iff j).mpr ⟨by have h1' : M - 1 - k < j := h1; omega, h2⟩, paired_imp pu fun j v ⟨t, e1, e2⟩ => ⟨t, e1, (Same.tupK o2) _ _ (t10 _ _ e2)⟩⟩, fun p H6 s6 ep => ?_⟩
      have o3 := o2.trans s6
      refine ⟨p, _, rfl, .inr ⟨SqT.of ep, t1, p, _, _, rfl, rfl, SqT.of (s6 _ _ upd_same), SqT.of ep, (by show 3 ≤ sizeLine; decide), (fun z => nomatch z), (fun _ z => nomatch z), fun _ _ p2 hp2 => ⟨(by show 1 ≤ sizeLine; decide), fun w1 hw1 => ?_⟩⟩⟩
      have o4 := (Same.new (o := .tup ([.int (1 + mm - 1 + ((k : Nat) : Int) * -1)] ++ [.int (er ce 5 s), .int (wr cw 5 s)])) hp2)
      have o5 := o4.trans (Same.new (o := .lst [.ref p2]) hw1)
      refine ⟨u, w1, _, _, rfl, rfl, o5 _ _ (o3 _ _ eu10), upd_same, szN (by simp only [List.length_cons, List.length_nil]; omega), fun u2 hu2 => ?_⟩
      have o6 := o5.trans (Same.new (o := .lst (uv ++ [.ref p2])) hu2)
      have oAll := o3.trans o6
      have tAll := Same.tupK oAll
      have B10 := B9.keep (S := []) (fun a o e _ => oAll _ _ e) (by simp) (by simp)
      have kAll : Keep [b, l] H' _ := k10.trans (fun a o e _ => oAll _ _ e)
      have hN : M - (k + 1) = M - 1 - k := by omega
      have hN1 : M - 1 - k + 1 = M - k := by omega
      have e1' : sz 5 s = x - x' := e1
      have e2' : er ce 5 s = y - y' := e2
      have e3' : wr cw 5 s = z - z' := e3
      have tl0 : TailOk ce cw M (M - 1 - k + 1) ps := by rw [hN1]; exact tl
      have tl' := TailOk.cons (n := M - 1 - k) (s := s) tl0 so (show M - 1 - k + 1 + ps.length ≤ M by omega) (show sz 5 s ≤ 12 by omega) (show er ce 5 s ≤ 7 by omega) (show wr cw 5 s ≤ 3 by omega)
      have f2b := B9.ne_new (hX1 : H9 X1 = none)
      refine ⟨f2, u2, [v] ++ vs, s :: ps, js ++ [M - 1 - k], uv ++ [.ref p2], _, _, _, _, _, rfl, ?_, upd_same, ?_, ?_, ?_, by simp only [List.length_cons]; omega, by omega, by rw [hN]; exact tl', ?_, fun j => ?_, by simp only [List.length_append, List.length_cons, List.length_nil]; omega, B10, k'.trans kAll⟩
      · exact (Same.new (o := .tup [.int (1 + mm - 1 + ((k : Nat) : Int) * -1)]) ht1).trans (s6.trans o6) _ _ upd_same
      · exact (B9.keep (S := []) (fun a o e _ => o3.trans o5 _ _ e) (by simp) (by simp)).ne_new hu2
      · exact (B9.new (o := .lst [v]) hX1).ne_new hf2
      · exact .cons (SAt.keep tAll _ _ _ sa) (paired_imp pp fun s' v' h => SAt.keep (t10.trans tAll) _ _ _ h)
      · have al : ∀ j ∈ js, j ≠ M - 1 - k := fun j hj => by have := (iff j).mp hj; omega
        have z := ((Same.new (o := .lst [.ref p2]) hw1).trans (Same.new (o := .lst (uv ++ [.ref p2])) hu2)) _ _ (upd_same (a := p2) (o := .tup ([.int (1 + mm - 1 + ((k : Nat) : Int) * -1)] ++ [.int (er ce 5 s), .int (wr cw 5 s)])))
        have z2 := z.trans (by rw [eNum]; rfl : some (HO.tup ([V.int (1 + mm - 1 + ((k : Nat) : Int) * -1)] ++ [V.int (er ce 5 s), V.int (wr cw 5 s)])) = some (.tup [V.int ((M - 1 - k : Nat) : Int), V.int (er ce 5 s), V.int (wr cw 5 s)]))
        exact paired_snoc (use_other (paired_imp pu fun j v ⟨t, e1, e2⟩ => ⟨t, e1, tAll _ _ (t10 _ _ e2)⟩) al) (use_new z2)
      · rw [List.mem_append, List.mem_singleton, iff j]
        omega
    · rintro σ H' ⟨f, u, vs, ps, js, uv, ce, cw, v2, v10, v11, rfl, ef, eu, nu, nf, pp, lp, kM, tl, pu, iff, lj, B', k'⟩
      refine ⟨_, rfl, f, _, rfl, .inl ⟨SqL.of ef, fun t ht => ?_⟩⟩
      refine q (.ref t) ps _ ⟨t, vs, rfl, upd_same, paired_imp pp fun s v h => SAt.keep (TupK.new ht) _ _ _ h⟩ ⟨by omega, by omega, ce, cw, ?_⟩ (B'.new ht) (k'.trans (Keep.new ht))
      rw [lp]
      rw [Nat.sub_self] at tl
      exact tl
end
end MS
end
section
set_option maxRecDepth 100000
set_option maxHeartbeats 4000000
namespace MS
open PySem L2
def shapesL : List (Str × List Str) := [("step", ["word", "points"]), ("all", ["schemes"]), ("best", ["schemes"]), ("most", ["limit", "scheme"]), ("half", ["scheme"]), ("seen", ["word", "scheme"]), ("behind", ["word", "scheme"]), ("carry", ["scheme"]), ("end", ["word", "points", "scheme"]), ("use", ["later"])]
def freeL : List Str := ["len", "list", "range", "tuple", "int", "isinstance", "any", "all", "zip", "enumerate", "str", "bool", "min", "max", "sum", "sorted", "set", "reversed"]
/-- what the program's top leaves -/
structure PTx (w : World) (K : PySem.W.Frag) (mg : Str → Option Value) : Prop where
  words : ∃ a, mg "WORDS" = some (.ref a) ∧ ∀ H, SqT K H a (wordsL.map V.str)
  mostWithin : ∃ t, mg "MOST_WITHIN" = some (.int 4 t)
  mostInPaper : ∃ t, mg "MOST_IN_PAPER" = some (.int 5 t)
  mostInScheme : ∃ t, mg "MOST_IN_SCHEME" = some (.int 12 t)
  longest : ∃ t, mg "LONGEST_PLACE" = some (.int 4 t)
  mostE : ∃ t, mg "MOST_EARNERS" = some (.int 7 t)
  mostW : ∃ t, mg "MOST_WATCHERS" = some (.int 3 t)
  earners : ∃ a, mg "EARNERS" = some (.ref a) ∧ ∀ H, SqT K H a [.str "step", .str "end"]
  watchers : ∃ a, mg "WATCHERS" = some (.ref a) ∧ ∀ H, SqT K H a [.str "seen", .str "behind"]
  shapes : ∃ a, mg "SHAPES" = some (.ref a) ∧ (a == sysModules) = false ∧ ∀ p ∈ shapesL, ∃ t, KDct K w a p.1 (.ref t) ∧ ∀ H, SqT K H t (p.2.map V.str)
  bounds : ∃ a, mg "BOUNDS" = some (.ref a) ∧ ∃ t1 t2, KDct K w a "points" (.ref t1) ∧ (∀ H, SqT K H t1 [.int 1, .int 9]) ∧ KDct K w a "limit" (.ref t2) ∧ ∀ H, SqT K H t2 [.int 0, .int 30]
  free : ∀ x ∈ freeL, mg x = none
theorem str_len2 {z : Str} (h : z.length = 2) : z.length ≤ sizeLine := by rw [h]; decide
def spIsStep : Sp := fun vs H Q _ => ∃ p : StepT, vs = [.str (stepS p)] ∧ IsStep p ∧ ∀ H', Same H H' → Q (.bl true) H'
theorem inV_words {x : Str} (h : IsW x) : inV (.str x) (wordsL.map V.str) = true := by
  have h' : x ∈ wordsL := h
  have q : ∀ y ∈ wordsL, inV (.str y) (wordsL.map V.str) = true := by decide +kernel
  exact q x h'
theorem inV_marks {x : Str} (h : IsM x) : inV (.str x) [.str "r", .str "w", .str "c"] = true := by
  have h' : x ∈ marksL := h
  have q : ∀ y ∈ marksL, inV (.str y) [.str "r", .str "w", .str "c"] = true := by decide +kernel
  exact q x h'
section
variable {P : Program} {w : World} {K : PySem.W.Frag} {mg : Str → Option Value} {base : Heap}
def spCheckWork : Sp := fun vs H Q _ => ∃ (a : Addr) (ws : List StepT), vs = [.ref a] ∧ H a = some (.lst (stepsV ws)) ∧ WorkOk ws ∧ ∀ H', Same H H' → Q .non H'
theorem WorkFrom.at : ∀ {ws : List StepT} {w : Bool} {i : Nat} {p : StepT}, WorkFrom w ws → ws[i]? = some p → IsStep p ∧ (p.2 = "c" → (w || anyWrong (ws.take i)) = true)
  | [], _, _, _, _, h => by simp at h
  | q :: r, w, 0, p, h, e => by
    obtain rfl : q = p := by simpa using e
    exact ⟨h.1, fun z => by rw [h.2.1 z]; rfl⟩
  | q :: r, w, i + 1, p, h, e => by
    obtain ⟨h1, h2⟩ := WorkFrom.at (i := i) h.2.2 (by simpa using e)
    refine ⟨h1, fun z => ?_⟩
    have z2 := h2 z
    rw [Bool.or_assoc] at z2
    exact z2
end
end MS
end
section
set_option maxRecDepth 100000
set_option maxHeartbeats 4000000
namespace MS
open PySem L2
/-! ### a written dict: get -/
def tKGet2 (K : PySem.W.Frag) (w : World) (td ty tx : TE) : TE := fun σ H Q => td σ H fun x H1 => ∃ a, x = .ref a ∧ (a == sysModules) = false ∧ (∃ z0 v0, KDct K w a z0 v0) ∧ ty σ H1 fun y H2 => tx σ H2 fun d H3 => ∃ z, y = .str z ∧ ((∃ v, KDct K w a z v ∧ Q v H3) ∨ (KMiss K w a z ∧ Q d H3))
theorem pe_kget2 {X : Cx} {o e f : Expr} {apos cpos : Pos} {td ty tx : TE} (ho : PE X o td) (he : PE X e ty) (hf : PE X f tx) (m : M2 X o "get" apos e f cpos) : PE X (.Call (.Attribute o "get" apos) [e, f] [] cpos) (tKGet2 X.K X.w td ty tx) := by
  refine ⟨fun pins s σ H Q I h => ?_⟩
  refine wpAny_Call_method m.base m.few m.line PySem.F.plainAttrs_dict PySem.F.slot_dict_get PySem.F.type_dict_get (thn (ho.run pins s σ H _ I h) fun u s1 ⟨x, H1, I1, rx, a, ex, low, ⟨z0, v0, es, n, u0, hl, hk, e0, ru⟩, q1⟩ => ?_)
  subst ex
  obtain rfl : u = Value.ref a := rx
  refine ⟨(PySem.W.mapOf_K (prog := X.prog) (w := X.w) I1.kIn hl hk).typeIs, (fun b q => by
    cases q
    exact ⟨_, I1.kIn _ _ hl, rfl⟩), ?_⟩
  rw [m.trees]
  refine Calls.callWith_builtin rfl (Calls.evalArgs_plain (Calls.spliced_cons (thn (he.run pins s1 σ H1 _ I1 q1) fun iv s2 ⟨y, H2, I2, ry, q2⟩ =>
    Calls.spliced_cons (thn (hf.run pins s2 σ H2 _ I2 q2) fun fv s3 ⟨d, H3, I3, rz, z, ey, q3⟩ => Calls.spliced_nil ?_))))
  subst ey
  obtain ⟨t, rfl⟩ := ry
  have hm := PySem.W.mapOf_K (prog := X.prog) (w := X.w) I3.kIn hl hk
  refine call_meetsIn PySem.F.slot_dict_get hm.typeIs PySem.F.entry_dict_get (PySem.F.args_dict_get_3 _ _ _) (meets_dict_get_default (strKind X.prog X.w) a (strKind_is X.prog X.w z t) low fv) ⟨_, hm, ?_⟩
  rcases q3 with ⟨v, ⟨es2, n2, u2, hl2, hk2, e2, ru2⟩, q3⟩ | ⟨⟨es2, n2, hl2, hk2, low2, e2⟩, q3⟩
  · rw [hl] at hl2
    cases hl2
    rw [PySem.W.find_K hl e2]
    exact ⟨v, H3, I3.tok _, ru2, q3⟩
  · rw [hl] at hl2
    cases hl2
    rw [PySem.W.find_K hl e2]
    exact ⟨d, H3, I3.tok _, rz, q3⟩
end MS
end
section
set_option maxRecDepth 100000
set_option maxHeartbeats 4000000
namespace MS
open PySem L2
def FitsR (H : Hp) (i M : Nat) (part : V) (kind : Str) : Prop :=
  (kind = "word" ∧ ∃ x, part = .str x ∧ IsW x) ∨ (kind = "points" ∧ ∃ p : Int, part = .int p ∧ 1 ≤ p ∧ p ≤ 9) ∨ (kind = "limit" ∧ ∃ p : Int, part = .int p ∧ 0 ≤ p ∧ p ≤ 30) ∨
  (kind = "schemes" ∧ ∃ b vs, part = .ref b ∧ H b = some (.tup vs) ∧ 0 < vs.length ∧ vs.length ≤ 4) ∨ kind = "scheme" ∨ (kind = "later" ∧ ∃ j : Nat, part = .int (j : Int) ∧ i < j ∧ j < M)
def spIsNumber : Sp := fun vs H Q _ => ∃ i : Int, vs = [.int i] ∧ Q (.bl true) H
def spFits (i M : Nat) : Sp := fun vs H Q _ => ∃ (part : V) (kind : Str), vs = [part, .str kind, .int (i : Int), .int (M : Int)] ∧ FitsR H i M part kind ∧ Q (.bl true) H
section
variable {P : Program} {w : World} {K : PySem.W.Frag} {mg : Str → Option Value} {base : Heap}
theorem ok_is_number (T : PTx w K mg) (D : Def K mg "is_number" s_is_number ["thing"]) : FnOk P w K mg base CX0 1 D.f D.fd ["thing"] spIsNumber := by
  refine D.ok sc_is_number (fun vs H Q E h => ?_) (fun cdv A outer s H vs Q E hr h => ?_)
  · obtain ⟨i, rfl, _⟩ := h
    rfl
  obtain ⟨i, rfl, q⟩ := h
  refine ⟨_, pss_one (ps_ret (pe_and (pe_callB call_isi rfl (T.free "isinstance" (by decide +kernel)) (by decide +kernel) (pa_cons (pv 0) (pa_cons (pe_bltn rfl (T.free "int" (by decide +kernel)) (by decide +kernel) (v := .ty "int") rfl) pa_nil)))
    (pe_one (pe_not (pe_callB call_isi rfl (T.free "isinstance" (by decide +kernel)) (by decide +kernel) (pa_cons (pv 0) (pa_cons (pe_bltn rfl (T.free "bool" (by decide +kernel)) (by decide +kernel) (v := .ty "bool") rfl) pa_nil))))))), ?_⟩
  exact ⟨_, rfl, _, .ty "int", .type "int", .type "int", true, rfl, .ty _, .base (.int _), kit_ty (by decide +kernel), _, rfl, _, rfl, _, .ty "bool", .type "int", .type "bool", false, rfl, .ty _, .base (.int _), kit_ty (by decide +kernel), _, rfl, q⟩
theorem ok_fits {i M : Nat} (T : PTx w K mg) (D : Def K mg "fits" s_fits ["part", "kind", "number", "many"]) (DN : Def K mg "is_number" s_is_number ["thing"]) : FnOk P w K mg base CX0 2 D.f D.fd ["part", "kind", "number", "many"] (spFits i M) := by
  have GN : FnOk P w K mg base CX0 1 DN.f DN.fd ["thing"] spIsNumber := ok_is_number T DN
  obtain ⟨aW, gW, qW⟩ := T.words
  obtain ⟨tm, gm⟩ := T.mostWithin
  obtain ⟨aB, gB, t1, t2, kb1, qb1, kb2, qb2⟩ := T.bounds
  have nd := sc_fits.nd
  refine D.ok sc_fits (fun vs H Q E h => ?_) (fun cdv A outer s H vs Q E hr h => ?_)
  · obtain ⟨part, kind, rfl, _⟩ := h
    rfl
  obtain ⟨part, kind, rfl, hf, q⟩ := h
  refine ⟨_, pss_cons (ps_if (pt_cmpR op_eq (pv 1) pe_str (nomark _)) (pss_one (ps_ret (pe_cmpR op_in_seq (pv 0) (pe_glob rfl gW (v := .ref aW) rfl) (by rfl)))) pss_nil)
    (pss_cons (ps_if (pt_cmpR op_eq (pv 1) pe_str (nomark _)) (pss_one (ps_ret (pe_and (pe_callB call_isi rfl (T.free "isinstance" (by decide +kernel)) (by decide +kernel) (pa_cons (pv 0) (pa_cons (pe_bltn rfl (T.free "tuple" (by decide +kernel)) (by decide +kernel) (v := .ty "tuple") rfl) pa_nil)))
        (pe_one (pe_chain op_le op_le pe_int (pe_callB call_len_seq rfl (T.free "len" (by decide +kernel)) PySem.boot_len (pa_cons (pv 0) pa_nil)) (pe_glob rfl gm (v := .int 4) ⟨_, rfl⟩)))))) pss_nil)
    (pss_cons (ps_if (pt_cmpR op_eq (pv 1) pe_str (nomark _)) (pss_one (ps_ret pe_bl)) pss_nil)
    (pss_cons (ps_if (pt_cmpR op_eq (pv 1) pe_str (nomark _)) (pss_one (ps_ret (pe_and (pcall DN GN hr (pa_cons (pv 0) pa_nil)) (pe_one (pe_chain op_lt op_lt (pv 2) (pv 0) (pv 3)))))) pss_nil)
    (pss_cons (ps_asg (pe_ix ix_kdict (pe_glob rfl gB (v := .ref aB) rfl) (pv 1) (fun _ _ => rfl)) (pg_tup (by rfl) (pgs_cons (pg_name (i := 4) nd rfl (Or.inl rfl)) (pgs_cons (pg_name (i := 5) nd rfl (Or.inl rfl)) pgs_nil))))
    (pss_one (ps_ret (pe_and (pcall DN GN hr (pa_cons (pv 0) pa_nil)) (pe_one (pe_chain op_le op_le (pv 4) (pv 0) (pv 5)))))))))), ?_⟩
  have tst : ∀ {c : Str} {σ : St} {b : Bool}, σ[1]? = some (some (.str kind)) → (kind == c) = b → ∀ Q : Bool → Hp → Prop, Q b H → tTest (tOp rEq (tVar 1) (tC (.str c))) σ H Q := fun s1 e Q q => ⟨_, s1, rfl, _, rfl, by rw [dec_str, e]; exact q⟩
  rcases hf with ⟨rfl, x, rfl, hx⟩ | ⟨rfl, p, rfl, p1, p2⟩ | ⟨rfl, p, rfl, p1, p2⟩ | ⟨rfl, b, vs, rfl, eb, v1, v2⟩ | rfl | ⟨rfl, j, rfl, j1, j2⟩
  · refine seq_if (b := true) (tst rfl (by decide +kernel)) (fun _ => ?_) (fun z => nomatch z)
    refine ⟨_, rfl, aW, _, rfl, .inr (qW _), rfl, by decide +kernel, ?_⟩
    show Q (.bl (inV (.str x) (wordsL.map V.str))) _
    rw [inV_words hx]
    exact q
  · refine seq_if (b := false) (tst rfl (by decide +kernel)) (fun z => nomatch z) (fun _ => seq_if (b := false) (tst rfl (by decide +kernel)) (fun z => nomatch z) (fun _ => seq_if (b := false) (tst rfl (by decide +kernel)) (fun z => nomatch z) (fun _ => seq_if (b := false) (tst rfl (by decide +kernel)) (fun z => nomatch z) (fun _ => ?_))))
    refine ⟨_, rfl, aB, "points", .ref t1, rfl, rfl, kb1, t1, _, rfl, qb1 _, rfl, _, _, rfl, _, _, rfl, rfl, ?_⟩
    refine ⟨_, rfl, p, rfl, _, rfl, ?_⟩
    refine ⟨_, rfl, _, rfl, _, _, rfl, rfl, _, rfl, ?_⟩
    rw [decide_eq_true p1]
    refine iteT ⟨_, rfl, _, _, rfl, rfl, ?_⟩
    show Q (V.bl (decide _)) H
    rw [decide_eq_true p2]
    exact q
  · refine seq_if (b := false) (tst rfl (by decide +kernel)) (fun z => nomatch z) (fun _ => seq_if (b := false) (tst rfl (by decide +kernel)) (fun z => nomatch z) (fun _ => seq_if (b := false) (tst rfl (by decide +kernel)) (fun z => nomatch z) (fun _ => seq_if (b := false) (tst rfl (by decide +kernel)) (fun z => nomatch z) (fun _ => ?_))))
    refine ⟨_, rfl, aB, "limit", .ref t2, rfl, rfl, kb2, t2, _, rfl, qb2 _, rfl, _, _, rfl, _, _, rfl, rfl, ?_⟩
    refine ⟨_, rfl, p, rfl, _, rfl, ?_⟩
    refine ⟨_, rfl, _, rfl, _, _, rfl, rfl, _, rfl, ?_⟩
    rw [decide_eq_true p1]
    refine iteT ⟨_, rfl, _, _, rfl, rfl, ?_⟩
    show Q (V.bl (decide _)) H
    rw [decide_eq_true p2]
    exact q
  · refine seq_if (b := false) (tst rfl (by decide +kernel)) (fun z => nomatch z) (fun _ => seq_if (b := true) (tst rfl (by decide +kernel)) (fun _ => ?_) (fun z => nomatch z))
    refine ⟨_, rfl, _, .ty "tuple", .type "tuple", .type "tuple", true, rfl, .ty _, .base (.tup eb), kit_ty (by decide +kernel), _, rfl, ?_⟩
    refine iteT ⟨_, rfl, b, vs, rfl, .inr (SqT.of eb), _, _, rfl, rfl, _, rfl, ?_⟩
    rw [decide_eq_true (show (1 : Int) ≤ (vs.length : Int) by omega)]
    refine iteT ⟨_, _, rfl, rfl, ?_⟩
    show Q (V.bl (decide _)) H
    rw [decide_eq_true (show (vs.length : Int) ≤ 4 by omega)]
    exact q
  · refine seq_if (b := false) (tst rfl (by decide +kernel)) (fun z => nomatch z) (fun _ => seq_if (b := false) (tst rfl (by decide +kernel)) (fun z => nomatch z) (fun _ => seq_if (b := true) (tst rfl (by decide +kernel)) (fun _ => q) (fun z => nomatch z)))
  · refine seq_if (b := false) (tst rfl (by decide +kernel)) (fun z => nomatch z) (fun _ => seq_if (b := false) (tst rfl (by decide +kernel)) (fun z => nomatch z) (fun _ => seq_if (b := false) (tst rfl (by decide +kernel)) (fun z => nomatch z) (fun _ => seq_if (b := true) (tst rfl (by decide +kernel)) (fun _ => ?_) (fun z => nomatch z))))
    refine ⟨_, rfl, _, rfl, _, rfl, ?_⟩
    refine iteT ⟨_, rfl, _, rfl, _, _, rfl, rfl, _, rfl, ?_⟩
    rw [decide_eq_true (show ((i : Nat) : Int) < ((j : Nat) : Int) by omega)]
    refine iteT ⟨_, rfl, _, _, rfl, rfl, ?_⟩
    show Q (V.bl (decide _)) H
    rw [decide_eq_true (show ((j : Nat) : Int) < ((M : Nat) : Int) by omega)]
    exact q
end
end MS
end
section
set_option maxRecDepth 100000
set_option maxHeartbeats 4000000
namespace MS
open PySem L2
/-! ### what the law earns, point by point -/
/-- a point: the place of the step, the place in the paper -/
abbrev Un := Nat × List Nat
def okAt (c : Bool) (x : Str) (p : StepT) : Bool := (p.1 == x) && (p.2 == "r" || (c && p.2 == "c"))
/-- the places from st on where a step of a word counts -/
def hits (ws : List StepT) (c : Bool) (x : Str) (st : Nat) : List Nat := (List.range' st (ws.length - st)).filter fun i => match ws[i]? with
  | some p => okAt c x p
  | none => false
def lastOk (ws : List StepT) (c : Bool) (x : Str) (st : Nat) : Bool := decide (st < ws.length) && match ws.getLast? with
  | some p => okAt c x p
  | none => false
def allU {α : Type} (f : Sch → Nat → List α) : List Sch → Nat → List α
  | [], _ => []
  | s :: r, j => f s j ++ allU f r (j + 1)
def bestU {α : Type} (f : Sch → Nat → List α) : List Sch → Nat → List α → List α
  | [], _, acc => acc
  | s :: r, j, acc => bestU f r (j + 1) (if acc.length < (f s j).length then f s j else acc)
def uP (ps : List Sch) (ws : List StepT) : Nat → Sch → Nat → Bool → List Nat → List Un
  | 0, _, _, _, _ => []
  | k + 1, .step x p, st, c, wh => match hits ws c x st with
    | [] => []
    | i :: _ => List.replicate p.toNat (i, wh)
  | k + 1, .behind x s, st, c, wh => match hits ws c x st with
    | [] => []
    | i :: _ => uP ps ws k s (i + 1) c (wh ++ [0])
  | k + 1, .use n, st, c, wh => match ps[n]? with
    | none => []
    | some s => uP ps ws k s st c (wh ++ [0])
  | k + 1, .all ks, st, c, wh => allU (fun s j => uP ps ws k s st c (wh ++ [j])) ks 0
  | k + 1, .best ks, st, c, wh => bestU (fun s j => uP ps ws k s st c (wh ++ [j])) ks 0 []
  | k + 1, .fin x p s, st, c, wh => if lastOk ws c x st = true then List.replicate p.toNat (ws.length - 1, wh) else uP ps ws k s st c (wh ++ [0])
  | k + 1, .seen x s, st, c, wh => if (ws.any fun p => p.1 == x) = true then uP ps ws k s st c (wh ++ [0]) else []
  | k + 1, .most n s, st, c, wh => (uP ps ws k s st c (wh ++ [0])).take n.toNat
  | k + 1, .half s, st, c, wh => (uP ps ws k s st c (wh ++ [0])).take ((uP ps ws k s st c (wh ++ [0])).length / 2)
  | k + 1, .carry s, st, c, wh => uP ps ws k s st true (wh ++ [0])
def natV (l : List Nat) : List V := l.map fun j : Nat => V.int ((j : Nat) : Int)
def UnR (H : Hp) (u : Un) (v : V) : Prop := ∃ a b, v = V.ref a ∧ H a = some (.tup [.int ((u.1 : Nat) : Int), .ref b]) ∧ H b = some (.tup (natV u.2))
theorem UnR.keep {H H' : Hp} {u : Un} {v : V} (h : UnR H u v) (k : TupK H H') : UnR H' u v := by
  obtain ⟨a, b, e, h1, h2⟩ := h
  exact ⟨a, b, e, k _ _ h1, k _ _ h2⟩
/-- how many points at most -/
theorem take_le {α : Type} (l : List α) (n : Nat) : (l.take n).length ≤ l.length := by
  rw [List.length_take]
  exact Nat.min_le_right _ _
theorem er_nonneg {i M : Nat} {c : Nat → Int} (h : ∀ j, i < j → j < M → 0 ≤ c j) : ∀ (d : Nat) (s : Sch), OkS i M d s → 0 ≤ er c d s
  | 0, _, o => by cases o
  | _ + 1, .step _ _, _ => by show (0 : Int) ≤ 1; decide
  | d + 1, .all k, o => by
    show 0 ≤ (k.map (er c d)).sum
    have : ∀ s ∈ k, 0 ≤ er c d s := fun s hs => er_nonneg h d s (o.2.2 s hs)
    clear o
    induction k with
    | nil => exact Int.le_refl _
    | cons a r ih =>
      rw [List.map_cons, List.sum_cons]
      have := ih fun s hs => this s (List.mem_cons_of_mem _ hs)
      have := ‹∀ s ∈ a :: r, 0 ≤ er c d s› a List.mem_cons_self
      omega
  | d + 1, .best k, o => by
    show 0 ≤ (k.map (er c d)).sum
    have : ∀ s ∈ k, 0 ≤ er c d s := fun s hs => er_nonneg h d s (o.2.2 s hs)
    clear o
    induction k with
    | nil => exact Int.le_refl _
    | cons a r ih =>
      rw [List.map_cons, List.sum_cons]
      have := ih fun s hs => this s (List.mem_cons_of_mem _ hs)
      have := ‹∀ s ∈ a :: r, 0 ≤ er c d s› a List.mem_cons_self
      omega
  | d + 1, .most _ s, o => er_nonneg h d s o.2
  | d + 1, .half s, o => er_nonneg h d s o
  | d + 1, .seen _ s, o => er_nonneg h d s o.2
  | d + 1, .behind _ s, o => er_nonneg h d s o.2
  | d + 1, .carry s, o => er_nonneg h d s o
  | d + 1, .fin _ _ s, o => by
    have := er_nonneg h d s o.2
    show 0 ≤ 1 + er c d s
    omega
  | _ + 1, .use n, o => h n o.1 o.2
theorem allU_len {α : Type} {f : Sch → Nat → List α} {g : Sch → Int} : ∀ (ks : List Sch) (j : Nat), (∀ s ∈ ks, ∀ j, ((f s j).length : Int) ≤ 9 * g s) → ((allU f ks j).length : Int) ≤ 9 * (ks.map g).sum
  | [], _, _ => by show (0 : Int) ≤ 9 * 0; decide
  | s :: r, j, h => by
    show (((f s j) ++ allU f r (j + 1)).length : Int) ≤ _
    rw [List.map_cons, List.sum_cons, List.length_append]
    have := h s List.mem_cons_self j
    have := allU_len r (j + 1) fun s hs => h s (List.mem_cons_of_mem _ hs)
    omega
theorem bestU_len {α : Type} {f : Sch → Nat → List α} {g : Sch → Int} : ∀ (ks : List Sch) (j : Nat) (acc : List α), (∀ s ∈ ks, ∀ j, ((f s j).length : Int) ≤ 9 * g s) → (∀ s ∈ ks, 0 ≤ g s) → ∀ B : Int, ((acc.length : Int) ≤ 9 * B) → 0 ≤ B → ((bestU f ks j acc).length : Int) ≤ 9 * (B + (ks.map g).sum)
  | [], _, acc, _, _, B, h, hB => by
    show (acc.length : Int) ≤ 9 * (B + 0)
    omega
  | s :: r, j, acc, h, h0, B, hb, hB => by
    show ((bestU f r (j + 1) (if acc.length < (f s j).length then f s j else acc)).length : Int) ≤ _
    rw [List.map_cons, List.sum_cons]
    have a1 := h s List.mem_cons_self j
    have a0 := h0 s List.mem_cons_self
    have := bestU_len r (j + 1) (if acc.length < (f s j).length then f s j else acc) (fun s hs => h s (List.mem_cons_of_mem _ hs)) (fun s hs => h0 s (List.mem_cons_of_mem _ hs)) (B + g s) (by
      split
      · omega
      · omega) (by omega)
    omega
theorem uP_len {ps : List Sch} {ws : List StepT} {ce : Nat → Int} {M : Nat} (hp : ∀ (j : Nat) (s : Sch), ps[j]? = some s → OkS j M 5 s ∧ ce j = er ce 5 s) (h0 : ∀ j, j < M → 0 ≤ ce j) :
    ∀ (k : Nat) (i d : Nat) (s : Sch) (st : Nat) (c : Bool) (wh : List Nat), OkS i M d s → ((uP ps ws k s st c wh).length : Int) ≤ 9 * er ce d s
  | 0, i, d, s, st, c, wh, o => by
    have := er_nonneg (c := ce) (fun j _ hj => h0 j hj) d s o
    show (0 : Int) ≤ _
    omega
  | k + 1, i, 0, s, st, c, wh, o => by cases o
  | k + 1, i, d + 1, .step x p, st, c, wh, o => by
    show ((match hits ws c x st with
      | [] => []
      | i :: _ => List.replicate p.toNat (i, wh)).length : Int) ≤ 9 * 1
    have := o.2.2
    split
    · simp
    · rw [List.length_replicate]
      omega
  | k + 1, i, d + 1, .behind x s, st, c, wh, o => by
    show ((match hits ws c x st with
      | [] => []
      | i :: _ => uP ps ws k s (i + 1) c (wh ++ [0])).length : Int) ≤ 9 * er ce d s
    have := er_nonneg (c := ce) (fun j _ hj => h0 j hj) d s o.2
    split
    · show (0 : Int) ≤ _
      omega
    · exact uP_len hp h0 k i d s _ c _ o.2
  | k + 1, i, d + 1, .use n, st, c, wh, o => by
    show ((match ps[n]? with
      | none => []
      | some s => uP ps ws k s st c (wh ++ [0])).length : Int) ≤ 9 * ce n
    have := h0 n o.2
    split
    · show (0 : Int) ≤ _
      omega
    · rename_i s e
      obtain ⟨o', e'⟩ := hp n s e
      rw [e']
      exact uP_len hp h0 k n 5 s st c _ o'
  | k + 1, i, d + 1, .all ks, st, c, wh, o => allU_len ks 0 fun s hs j => uP_len hp h0 k i d s st c _ (o.2.2 s hs)
  | k + 1, i, d + 1, .best ks, st, c, wh, o => by
    have := bestU_len (f := fun s j => uP ps ws k s st c (wh ++ [j])) (g := er ce d) ks 0 [] (fun s hs j => uP_len hp h0 k i d s st c _ (o.2.2 s hs)) (fun s hs => er_nonneg (c := ce) (fun j _ hj => h0 j hj) d s (o.2.2 s hs)) 0 (by simp) (Int.le_refl _)
    rw [Int.zero_add] at this
    exact this
  | k + 1, i, d + 1, .fin x p s, st, c, wh, o => by
    show ((if lastOk ws c x st = true then List.replicate p.toNat (ws.length - 1, wh) else uP ps ws k s st c (wh ++ [0])).length : Int) ≤ 9 * (1 + er ce d s)
    have := er_nonneg (c := ce) (fun j _ hj => h0 j hj) d s o.2
    have := o.1.2.2
    have := uP_len (ws := ws) hp h0 k i d s st c (wh ++ [0]) o.2
    split
    · rw [List.length_replicate]
      omega
    · omega
  | k + 1, i, d + 1, .seen x s, st, c, wh, o => by
    show ((if (ws.any fun p => p.1 == x) = true then uP ps ws k s st c (wh ++ [0]) else []).length : Int) ≤ 9 * er ce d s
    have := er_nonneg (c := ce) (fun j _ hj => h0 j hj) d s o.2
    split
    · exact uP_len hp h0 k i d s st c _ o.2
    · show (0 : Int) ≤ _
      omega
  | k + 1, i, d + 1, .most n s, st, c, wh, o => by
    have := uP_len (ws := ws) hp h0 k i d s st c (wh ++ [0]) o.2
    have := take_le (uP ps ws k s st c (wh ++ [0])) n.toNat
    show (((uP ps ws k s st c (wh ++ [0])).take n.toNat).length : Int) ≤ 9 * er ce d s
    omega
  | k + 1, i, d + 1, .half s, st, c, wh, o => by
    have := uP_len (ws := ws) hp h0 k i d s st c (wh ++ [0]) o
    have := take_le (uP ps ws k s st c (wh ++ [0])) ((uP ps ws k s st c (wh ++ [0])).length / 2)
    show (((uP ps ws k s st c (wh ++ [0])).take _).length : Int) ≤ 9 * er ce d s
    omega
  | k + 1, i, d + 1, .carry s, st, c, wh, o => uP_len hp h0 k i d s st true (wh ++ [0]) o
end MS
end
section
set_option maxRecDepth 100000
set_option maxHeartbeats 4000000
namespace MS
open PySem L2
abbrev nmUnits : List Str := ["_law_paper_here", "_law_scheme_here", "_law_work_here", "_law_look", "_law_is_carried", "_law_where", "_law_word", "_law_signs", "_law_some", "_law_later", "_law_found", "_law_k", "_law_place", "_law_step_here"]
abbrev psUnits : List Str := ["_law_paper_here", "_law_scheme_here", "_law_work_here", "_law_look", "_law_is_carried", "_law_where"]
/-- the paper, the work, the places looked at -/
structure UCtx (H : Hp) (ps : List Sch) (ws : List StepT) (pa wa la : Addr) (st : Nat) : Prop where
  paper : ∃ pv, H pa = some (.tup pv) ∧ Paired (SAt H 5) ps pv
  work : H wa = some (.lst (stepsV ws))
  look : H la = some (.lst (natV (List.range' st (ws.length - st))))
theorem UCtx.keep {H H' : Hp} {ps : List Sch} {ws : List StepT} {pa wa la : Addr} {st : Nat} (h : UCtx H ps ws pa wa la st) (k : Same H H') : UCtx H' ps ws pa wa la st := by
  obtain ⟨⟨pv, e, p⟩, h2, h3⟩ := h
  exact ⟨⟨pv, k _ _ e, paired_imp p fun s v => SAt.keep (Same.tupK k) _ _ _⟩, k _ _ h2, k _ _ h3⟩
def spUnits (ps : List Sch) (ws : List StepT) (ce : Nat → Int) (M k : Nat) : Sp := fun vs H Q _ => ∃ (pa wa la wr : Addr) (v : V) (c : Bool) (s : Sch) (i d st : Nat) (wh : List Nat), vs = [.ref pa, v, .ref wa, .ref la, .bl c, .ref wr] ∧
  UCtx H ps ws pa wa la st ∧ st ≤ ws.length ∧ SAt H d s v ∧ OkS i M d s ∧ er ce d s ≤ 7 ∧ (M - i) * 5 + d ≤ k ∧ wh.length + k ≤ 100 ∧ H wr = some (.tup (natV wh)) ∧
  ∀ (r : Addr) (uv : List V) (H' : Hp), Same H H' → H r = none → H' r = some (.lst uv) → Paired (UnR H') (uP ps ws k s st c wh) uv → Q (.ref r) H'
theorem strl2 {z : Str} (h : z.length = 2) : z.length ≤ sizeLine := by rw [h]; decide
/-- a test that may make new things -/
theorem seq_new {tc : TT} {t r : TS} {D : Ends} {σ : St} {H : Hp} {b : Bool} (h : ∀ Q : Bool → Hp → Prop, (∀ H', Same H H' → Q b H') → tc σ H Q) (k1 : b = true → ∀ H', Same H H' → t { D with nx := r D } σ H') (k2 : b = false → ∀ H', Same H H' → r D σ H') : tSeq (tIfS tc t tNext) r D σ H := h _ fun H' s => by
  cases b with
  | true => exact iteT (k1 rfl H' s)
  | false => exact iteF (k2 rfl H' s)
theorem in_two {K : PySem.W.Frag} {σ : St} {H : Hp} {i : Nat} {nm x y : Str} {b : Bool} (s : σ[i]? = some (some (.str nm))) (e : inV (.str nm) [.str x, .str y] = b) : ∀ Q : Bool → Hp → Prop, (∀ H', Same H H' → Q b H') → tTest (tOp (rIn K false) (tVar i) (tTup (tCons (tC (.str x)) (tCons (tC (.str y)) tNil)))) σ H Q := fun Q q =>
  ⟨_, s, sz2, fun t ht => ⟨t, _, rfl, .inr (SqT.of upd_same), rfl, rfl, _, rfl, by
    show Q (inV (.str nm) [.str x, .str y]) _
    rw [e]
    exact q _ (Same.new ht)⟩⟩
theorem is_word {σ : St} {H : Hp} {i : Nat} {nm x : Str} {b : Bool} (s : σ[i]? = some (some (.str nm))) (e : (nm == x) = b) : ∀ Q : Bool → Hp → Prop, Q b H → tTest (tOp rEq (tVar i) (tC (.str x))) σ H Q := fun Q q =>
  ⟨_, s, rfl, _, rfl, by rw [dec_str, e]; exact q⟩
def sgL (c : Bool) : List V := cutV [.str "r", .str "c"] none (some (1 + if c then 1 else 0))
theorem sg_in {c : Bool} {m : Str} (h : IsM m) : inV (.str m) (sgL c) = (m == "r" || (c && m == "c")) := by
  have h' : m ∈ marksL := h
  have q : ∀ c : Bool, ∀ y ∈ marksL, inV (.str y) (sgL c) = (y == "r" || (c && y == "c")) := by decide +kernel
  exact q c m h'
theorem sg_flat (c : Bool) : (sgL c).all flatV = true := by cases c <;> rfl
theorem SAt.tag {H : Hp} {d : Nat} {s : Sch} {v : V} (h : SAt H d s v) : ∃ a nm rest, v = V.ref a ∧ H a = some (.tup (.str nm :: rest)) := by
  cases d with
  | zero => cases h
  | succ d =>
    cases s with
    | step x p => obtain ⟨a, e, h⟩ := h; exact ⟨a, _, _, e, h⟩
    | all k => obtain ⟨a, b, vs, e, h, _⟩ := h; exact ⟨a, _, _, e, h⟩
    | best k => obtain ⟨a, b, vs, e, h, _⟩ := h; exact ⟨a, _, _, e, h⟩
    | most n s => obtain ⟨a, u, e, h, _⟩ := h; exact ⟨a, _, _, e, h⟩
    | half s => obtain ⟨a, u, e, h, _⟩ := h; exact ⟨a, _, _, e, h⟩
    | seen x s => obtain ⟨a, u, e, h, _⟩ := h; exact ⟨a, _, _, e, h⟩
    | behind x s => obtain ⟨a, u, e, h, _⟩ := h; exact ⟨a, _, _, e, h⟩
    | carry s => obtain ⟨a, u, e, h, _⟩ := h; exact ⟨a, _, _, e, h⟩
    | fin x p s => obtain ⟨a, u, e, h, _⟩ := h; exact ⟨a, _, _, e, h⟩
    | use n => obtain ⟨a, e, h⟩ := h; exact ⟨a, _, _, e, h⟩
/-- what has one scheme within, but no `behind` -/
structure OneR (H : Hp) (i M d : Nat) (sc : Sch) (nm : Str) (rest : List V) : Prop where
  nb : inV (.str nm) [.str "step", .str "behind"] = false
  nu : (nm == "use") = false
  na : inV (.str nm) [.str "all", .str "best"] = false
  nm5 : nm = "most" ∨ nm = "half" ∨ nm = "seen" ∨ nm = "carry" ∨ nm = "end"
  kid : ∃ u s', atI (.str nm :: rest) (-1) = some u ∧ SAt H d s' u ∧ OkS i M d s' ∧ (nm = "end" → ∃ x p, sc = .fin x p s' ∧ rest = [.str x, .int p, u] ∧ IsW x ∧ 1 ≤ p ∧ p ≤ 9) ∧ (nm = "seen" → ∃ x, sc = .seen x s' ∧ rest = [.str x, u] ∧ IsW x) ∧
    (nm = "most" → ∃ n, sc = .most n s' ∧ rest = [.int n, u] ∧ 0 ≤ n) ∧ (nm = "half" → sc = .half s' ∧ rest = [u]) ∧ (nm = "carry" → sc = .carry s' ∧ rest = [u]) ∧ ∃ x1, atI (.str nm :: rest) 1 = some x1
inductive SKind (H : Hp) (i M d : Nat) : Sch → Str → List V → Prop
  | step {x : Str} {p : Int} (hx : IsW x) (h1 : 1 ≤ p) (h2 : p ≤ 9) : SKind H i M d (.step x p) "step" [.str x, .int p]
  | behind {x : Str} {s : Sch} {u : V} (hx : IsW x) (hs : SAt H d s u) (ho : OkS i M d s) : SKind H i M d (.behind x s) "behind" [.str x, u]
  | use {n : Nat} (h1 : i < n) (h2 : n < M) : SKind H i M d (.use n) "use" [.int ((n : Nat) : Int)]
  | all {ks : List Sch} {b : Addr} {vs : List V} (eb : H b = some (.tup vs)) (hk : Paired (SAt H d) ks vs) (ho : ∀ s ∈ ks, OkS i M d s) (hl : ks.length ≤ 4) : SKind H i M d (.all ks) "all" [.ref b]
  | best {ks : List Sch} {b : Addr} {vs : List V} (eb : H b = some (.tup vs)) (hk : Paired (SAt H d) ks vs) (ho : ∀ s ∈ ks, OkS i M d s) (hl : ks.length ≤ 4) : SKind H i M d (.best ks) "best" [.ref b]
  | one {sc : Sch} {nm : Str} {rest : List V} (h : OneR H i M d sc nm rest) : SKind H i M d sc nm rest
theorem SAt.kind {H : Hp} {i M d : Nat} {sc : Sch} {a : Addr} {nm : Str} {rest : List V} (h : SAt H (d + 1) sc (.ref a)) (o : OkS i M (d + 1) sc) (ea : H a = some (.tup (.str nm :: rest))) : SKind H i M d sc nm rest := by
  have inj : ∀ {a' : Addr} {nm' : Str} {rest' : List V}, (V.ref a = V.ref a') → H a' = some (.tup (.str nm' :: rest')) → nm' = nm ∧ rest' = rest := fun e h => by
    cases e
    rw [ea] at h
    cases h
    exact ⟨rfl, rfl⟩
  cases sc with
  | step x p =>
    obtain ⟨a', e, h⟩ := h
    obtain ⟨rfl, rfl⟩ := inj e h
    exact .step o.1 o.2.1 o.2.2
  | all k =>
    obtain ⟨a', b, vs, e, h, eb, hk⟩ := h
    obtain ⟨rfl, rfl⟩ := inj e h
    exact .all eb hk o.2.2 o.2.1
  | best k =>
    obtain ⟨a', b, vs, e, h, eb, hk⟩ := h
    obtain ⟨rfl, rfl⟩ := inj e h
    exact .best eb hk o.2.2 o.2.1
  | most n s =>
    obtain ⟨a', u, e, h, hs⟩ := h
    obtain ⟨rfl, rfl⟩ := inj e h
    exact .one ⟨by decide +kernel, by decide +kernel, by decide +kernel, .inl rfl, u, s, rfl, hs, o.2, (fun z => absurd z (by decide +kernel)), (fun z => absurd z (by decide +kernel)), fun _ => ⟨n, rfl, rfl, o.1.1⟩, (fun z => absurd z (by decide +kernel)), (fun z => absurd z (by decide +kernel)), _, at1⟩
  | half s =>
    obtain ⟨a', u, e, h, hs⟩ := h
    obtain ⟨rfl, rfl⟩ := inj e h
    exact .one ⟨by decide +kernel, by decide +kernel, by decide +kernel, .inr (.inl rfl), u, s, rfl, hs, o, (fun z => absurd z (by decide +kernel)), (fun z => absurd z (by decide +kernel)), (fun z => absurd z (by decide +kernel)), fun _ => ⟨rfl, rfl⟩, (fun z => absurd z (by decide +kernel)), _, at1⟩
  | seen x s =>
    obtain ⟨a', u, e, h, hs⟩ := h
    obtain ⟨rfl, rfl⟩ := inj e h
    exact .one ⟨by decide +kernel, by decide +kernel, by decide +kernel, .inr (.inr (.inl rfl)), u, s, rfl, hs, o.2, (fun z => absurd z (by decide +kernel)), (fun _ => ⟨x, rfl, rfl, o.1⟩), (fun z => absurd z (by decide +kernel)), (fun z => absurd z (by decide +kernel)), (fun z => absurd z (by decide +kernel)), _, at1⟩
  | behind x s =>
    obtain ⟨a', u, e, h, hs⟩ := h
    obtain ⟨rfl, rfl⟩ := inj e h
    exact .behind o.1 hs o.2
  | carry s =>
    obtain ⟨a', u, e, h, hs⟩ := h
    obtain ⟨rfl, rfl⟩ := inj e h
    exact .one ⟨by decide +kernel, by decide +kernel, by decide +kernel, .inr (.inr (.inr (.inl rfl))), u, s, rfl, hs, o, (fun z => absurd z (by decide +kernel)), (fun z => absurd z (by decide +kernel)), (fun z => absurd z (by decide +kernel)), (fun z => absurd z (by decide +kernel)), fun _ => ⟨rfl, rfl⟩, _, at1⟩
  | fin x p s =>
    obtain ⟨a', u, e, h, hs⟩ := h
    obtain ⟨rfl, rfl⟩ := inj e h
    exact .one ⟨by decide +kernel, by decide +kernel, by decide +kernel, .inr (.inr (.inr (.inr rfl))), u, s, rfl, hs, o.2, (fun _ => ⟨x, p, rfl, rfl, o.1.1, o.1.2.1, o.1.2.2⟩), (fun z => absurd z (by decide +kernel)), (fun z => absurd z (by decide +kernel)), (fun z => absurd z (by decide +kernel)), (fun z => absurd z (by decide +kernel)), _, at1⟩
  | use n =>
    obtain ⟨a', e, h⟩ := h
    obtain ⟨rfl, rfl⟩ := inj e h
    exact .use o.1 o.2
theorem natV_len (l : List Nat) : (natV l).length = l.length := List.length_map _
theorem natV_snoc (l : List Nat) (j : Nat) : natV l ++ [V.int ((j : Nat) : Int)] = natV (l ++ [j]) := by
  unfold natV
  rw [List.map_append]
  rfl
theorem range_after {st n i : Nat} (h1 : st ≤ i) (h2 : i < n) : (List.range' st (n - st)).filter (fun q => decide (i < q)) = List.range' (i + 1) (n - (i + 1)) := by
  have e : List.range' st (n - st) = List.range' st (i + 1 - st) ++ List.range' (i + 1) (n - (i + 1)) := by
    have z := List.range'_append (s := st) (m := i + 1 - st) (n := n - (i + 1)) (step := 1)
    rw [Nat.one_mul, show st + (i + 1 - st) = i + 1 by omega, show i + 1 - st + (n - (i + 1)) = n - st by omega] at z
    exact z.symm
  have e1 : (List.range' st (i + 1 - st)).filter (fun q => decide (i < q)) = [] := List.filter_eq_nil_iff.mpr fun q hq => by
    have := (List.mem_range'_1.mp hq).2
    simp
    omega
  have e2 : (List.range' (i + 1) (n - (i + 1))).filter (fun q => decide (i < q)) = List.range' (i + 1) (n - (i + 1)) := List.filter_eq_self.mpr fun q hq => by
    have := (List.mem_range'_1.mp hq).1
    simp
    omega
  rw [e, List.filter_append, e1, e2, List.nil_append]
theorem hits_in {ws : List StepT} {c : Bool} {x : Str} {st i : Nat} {r : List Nat} (h : hits ws c x st = i :: r) : st ≤ i ∧ i < ws.length := by
  have m : i ∈ hits ws c x st := by rw [h]; exact List.mem_cons_self
  have z := List.mem_range'_1.mp (List.mem_filter.mp m).1
  omega
theorem flat_rep {α : Type} (x : α) : ∀ n : Nat, (List.replicate n [x]).flatten = List.replicate n x
  | 0 => rfl
  | n + 1 => by
    show [x] ++ (List.replicate n [x]).flatten = x :: List.replicate n x
    rw [flat_rep x n]
    rfl
theorem paired_rep {α β : Type} {R : α → β → Prop} {x : α} {y : β} (h : R x y) : ∀ n : Nat, Paired R (List.replicate n x) (List.replicate n y)
  | 0 => .nil
  | n + 1 => .cons h (paired_rep h n)
theorem natV_ints (l : List Nat) : natV l = (l.map fun j : Nat => ((j : Nat) : Int)).map V.int := by
  unfold natV
  rw [List.map_map]
  rfl
theorem ints_nil (ns : List Int) : PyData.eqv (.list (ns.map PyData.int)) (.list []) = ns.isEmpty := by
  cases ns with
  | nil => rfl
  | cons a r => rfl
theorem cat_where {K : PySem.W.Frag} {σ : St} {H : Hp} {wr : Addr} {wh : List Nat} {j : Nat} {te : TE} {Q : VK} (s5 : σ[5]? = some (some (.ref wr))) (ewr : H wr = some (.tup (natV wh))) (hl : wh.length ≤ 200) (ht : ∀ Q : VK, Q (.int ((j : Nat) : Int)) H → te σ H Q)
    (q : ∀ (wr' : Addr) (H' : Hp), Same H H' → H' wr' = some (.tup (natV (wh ++ [j]))) → Q (.ref wr') H') : tOp (rCatA K) (tVar 5) (tTup (tCons te tNil)) σ H Q := by
  refine ⟨_, s5, ht _ ⟨(by show 1 ≤ sizeLine; decide), fun t htn => ⟨wr, t, natV wh, [.int ((j : Nat) : Int)], rfl, rfl, SqT.of (Same.new htn _ _ ewr), SqT.of upd_same, szN (by rw [natV_len]; show wh.length + 1 ≤ 1000; omega), (fun z => ?_), (fun _ z => nomatch z), fun z _ p hp => ?_⟩⟩⟩
  · have z' : wh = [] := List.map_eq_nil_iff.mp z
    subst z'
    exact q t _ (Same.new htn) upd_same
  · exact q p _ ((Same.new htn).trans (Same.new hp)) (by rw [upd_same, natV_snoc])
theorem allU_snoc {α : Type} (f : Sch → Nat → List α) : ∀ (l : List Sch) (s : Sch) (j : Nat), allU f (l ++ [s]) j = allU f l j ++ f s (j + l.length)
  | [], s, j => by
    show f s j ++ [] = [] ++ f s (j + 0)
    rw [List.append_nil]
    rfl
  | a :: l, s, j => by
    show f a j ++ allU f (l ++ [s]) (j + 1) = (f a j ++ allU f l (j + 1)) ++ f s (j + (l.length + 1))
    rw [allU_snoc f l s (j + 1), List.append_assoc, show j + 1 + l.length = j + (l.length + 1) by omega]
theorem bestU_snoc {α : Type} (f : Sch → Nat → List α) : ∀ (l : List Sch) (s : Sch) (j : Nat) (acc : List α), bestU f (l ++ [s]) j acc = if (bestU f l j acc).length < (f s (j + l.length)).length then f s (j + l.length) else bestU f l j acc
  | [], s, j, acc => rfl
  | a :: l, s, j, acc => by
    show bestU f (l ++ [s]) (j + 1) _ = if (bestU f l (j + 1) _).length < (f s (j + (l.length + 1))).length then f s (j + (l.length + 1)) else bestU f l (j + 1) _
    rw [bestU_snoc f l s (j + 1), show j + 1 + l.length = j + (l.length + 1) by omega]
theorem le_sum {l : List Int} (h : ∀ x ∈ l, 0 ≤ x) : ∀ x ∈ l, x ≤ l.sum := by
  induction l with
  | nil => intro x hx; cases hx
  | cons a r ih =>
    intro x hx
    have nn : ∀ {r : List Int}, (∀ x ∈ r, 0 ≤ x) → 0 ≤ r.sum := by
      intro r
      induction r with
      | nil => intro _; exact Int.le_refl _
      | cons b t ih2 =>
        intro h2
        have := ih2 fun x hx => h2 x (List.mem_cons_of_mem _ hx)
        have := h2 b List.mem_cons_self
        rw [List.sum_cons]
        omega
    have n1 := nn fun x hx => h x (List.mem_cons_of_mem _ hx)
    rw [List.sum_cons]
    rcases List.mem_cons.mp hx with rfl | hx
    · omega
    · have := ih (fun x hx => h x (List.mem_cons_of_mem _ hx)) x hx
      have := h a List.mem_cons_self
      omega
theorem ev_and_new {t u : TT} {σ : St} {H : Hp} {b c : Bool} (h1 : ∀ Q : Bool → Hp → Prop, (∀ H', Same H H' → Q b H') → t σ H Q) (h2 : b = true → ∀ H', Same H H' → ∀ Q : Bool → Hp → Prop, (∀ H'', Same H' H'' → Q c H'') → u σ H' Q) :
    ∀ Q : Bool → Hp → Prop, (∀ H', Same H H' → Q (b && c) H') → tAnd t u σ H Q := fun Q q => h1 _ fun H' s => by
  cases b with
  | true => exact iteT (h2 rfl H' s _ fun H'' s'' => q H'' (s.trans s''))
  | false => exact iteF (q H' s)
theorem seq_to {C : Prop} {tc : TT} {t r : TS} {D : Ends} {σ : St} {H : Hp} {b : Bool} (h : ∀ Q : Bool → Hp → Prop, (∀ H', Same H H' → Q b H') → tc σ H Q) (k1 : b = true → ∀ H', Same H H' → (C → ∀ H'', Same H H'' → r D σ H'') → t { D with nx := r D } σ H') (k2 : b = false → C)
    (rest : C → ∀ H', Same H H' → r D σ H') : tSeq (tIfS tc t tNext) r D σ H := seq_new h (fun e H' s => k1 e H' s rest) (fun e H' s => rest (k2 e) H' s)
theorem to_new {t : TT} {σ : St} {H H0 : Hp} {b : Bool} (s : Same H0 H) (h : ∀ Q : Bool → Hp → Prop, Q b H → t σ H Q) : ∀ Q : Bool → Hp → Prop, (∀ H', Same H0 H' → Q b H') → t σ H Q := fun Q q => h Q (q H s)
theorem range_last {st n : Nat} (h : st < n) : List.range' st (n - st) = List.range' st (n - st - 1) ++ [n - 1] := by
  have e : n - st = (n - st - 1) + 1 := by omega
  have z := List.range'_concat (s := st) (n := n - st - 1) (step := 1)
  rw [← e, Nat.one_mul, show st + (n - st - 1) = n - 1 by omega] at z
  exact z
theorem paired_app {α β : Type} {R : α → β → Prop} {as cs : List α} {bs ds : List β} (h : Paired R as bs) (g : Paired R cs ds) : Paired R (as ++ cs) (bs ++ ds) := by
  induction h with
  | nil => exact g
  | cons r _ ih => exact .cons r ih
theorem in_words (x : Str) (ws : List StepT) : inV (.str x) (ws.map fun p : StepT => V.str p.1) = ws.any fun p => p.1 == x := by
  unfold inV
  rw [List.any_map]
  rfl
theorem or_carry {σ : St} {H : Hp} {c : Bool} {nm : Str} {Q : VK} (s4 : σ[4]? = some (some (.bl c))) (s6 : σ[6]? = some (some (.str nm))) (q : Q (.bl (c || nm == "carry")) H) : tOrV (tVar 4) (tOp rEq (tVar 6) (tC (.str "carry"))) σ H Q :=
  ⟨_, s4, c, rfl, by
    cases c with
    | true => exact iteT q
    | false => exact iteF ⟨_, s6, rfl, by rw [dec_str]; exact q⟩⟩
theorem look_last {st n : Nat} (h : st < n) : atI (natV (List.range' st (n - st))) (-1) = some (V.int ((n - 1 : Nat) : Int)) := by
  rw [range_last h, ← natV_snoc]
  exact atI_last _ _
theorem last_get {ws : List StepT} (h : 0 < ws.length) : ws.getLast? = some (ws[ws.length - 1]'(by omega)) := by
  rw [List.getLast?_eq_getElem?, List.getElem?_eq_getElem (by omega)]
theorem steps_last {ws : List StepT} (h : 0 < ws.length) : atI (stepsV ws) (-1) = some (V.str (stepS (ws[ws.length - 1]'(by omega)))) := by
  have hl : (stepsV ws).length = ws.length := List.length_map _
  unfold atI ixN
  rw [hl, if_neg (by decide), if_pos (by omega), show ((-1 : Int) + (ws.length : Int)).toNat = ws.length - 1 by omega]
  exact get_map (fun p => V.str (stepS p)) ws (by omega)
def seenW : Sch → Str
  | .seen x _ => x
  | _ => ""
theorem get_most {x y : V} : valV (mergeK [] [((.inr "most" : Key), x), (.inr "half", y)]) (.inr "most") = some x := by
  have h1 : ((.inr "most" : Key) = .inr "half") = False := by simp; decide +kernel
  have h2 : ((.inr "half" : Key) = .inr "most") = False := by simp; decide +kernel
  simp [mergeK, putK, valV, h1, h2]
theorem get_half {x y : V} : valV (mergeK [] [((.inr "most" : Key), x), (.inr "half", y)]) (.inr "half") = some y := by
  have h1 : ((.inr "most" : Key) = .inr "half") = False := by simp; decide +kernel
  have h2 : ((.inr "half" : Key) = .inr "most") = False := by simp; decide +kernel
  simp [mergeK, putK, valV, h1, h2]
theorem get_none {x y : V} {nm : Str} (n1 : ("most" : Str) ≠ nm) (n2 : ("half" : Str) ≠ nm) : valV (mergeK [] [((.inr "most" : Key), x), (.inr "half", y)]) (.inr nm) = none := by
  have h1 : ((.inr "most" : Key) = .inr "half") = False := by simp; decide +kernel
  have h3 : ((.inr "most" : Key) = .inr nm) = False := by simpa using n1
  have h4 : ((.inr "half" : Key) = .inr nm) = False := by simpa using n2
  simp [mergeK, putK, valV, h1, h3, h4]
section
variable {P : Program} {w : World} {K : PySem.W.Frag} {mg : Str → Option Value} {base : Heap}
end
end MS
end
section
set_option maxRecDepth 100000
set_option maxHeartbeats 4000000
namespace MS
open PySem L2
theorem rg_nat (n : Nat) : rgV 0 (n : Int) = natV (List.range' 0 n) := by
  unfold rgV natV
  rw [show ((n : Int) - 0).toNat = n by omega, List.range_eq_range']
  refine List.map_congr_left fun i _ => ?_
  rw [Int.zero_add]
theorem PaperOk.facts {ps : List Sch} (h : PaperOk ps) : ∃ ce : Nat → Int, (∀ (j : Nat) (s : Sch), ps[j]? = some s → OkS j ps.length 5 s ∧ ce j = er ce 5 s) ∧ (∀ j, j < ps.length → 0 ≤ ce j) ∧ ∀ j, j < ps.length → ce j ≤ 7 := by
  obtain ⟨_, _, ce, cw, t⟩ := h
  have hp : ∀ (j : Nat) (s : Sch), ps[j]? = some s → OkS j ps.length 5 s ∧ ce j = er ce 5 s := fun j s e => by
    obtain ⟨q1, q2, _⟩ := t j s e
    rw [Nat.zero_add] at q1 q2
    exact ⟨q1, q2⟩
  have h0 : ∀ n j, ps.length - j ≤ n → j < ps.length → 0 ≤ ce j := by
    intro n
    induction n with
    | zero => intro j a b; omega
    | succ n ih =>
      intro j a b
      obtain ⟨o, e⟩ := hp j _ (List.getElem?_eq_getElem b)
      rw [e]
      exact er_nonneg (fun j' h1 h2 => ih j' (by omega) h2) 5 _ o
  refine ⟨ce, hp, fun j hj => h0 _ j (Nat.le_refl _) hj, fun j hj => ?_⟩
  obtain ⟨_, q2, _, _, q5, _⟩ := t j _ (List.getElem?_eq_getElem hj)
  rw [Nat.zero_add] at q2
  rw [q2]
  exact q5
/-- a paper, a work -/
structure PWAt (H : Hp) (ps : List Sch) (ws : List StepT) (pa wa : Addr) : Prop where
  paper : ∃ pv, H pa = some (.tup pv) ∧ Paired (SAt H 5) ps pv
  work : H wa = some (.lst (stepsV ws))
theorem PWAt.keep {H H' : Hp} {ps : List Sch} {ws : List StepT} {pa wa : Addr} (h : PWAt H ps ws pa wa) (k : Same H H') : PWAt H' ps ws pa wa := by
  obtain ⟨⟨pv, e, p⟩, h2⟩ := h
  exact ⟨⟨pv, k _ _ e, paired_imp p fun s v => SAt.keep (Same.tupK k) _ _ _⟩, k _ _ h2⟩
/-- all that is earned, point by point -/
def uAll (ps : List Sch) (ws : List StepT) : List Un := match ps with
  | [] => []
  | s :: _ => uP ps ws 30 s 0 false []
/-- the rows of points -/
abbrev Row := Nat × Nat × List Nat
def addU (acc : List Row) (u : Un) : List Row := match acc.getLast? with
  | some (_, n, wh) => if wh = u.2 then acc.dropLast ++ [(u.1, n + 1, u.2)] else acc ++ [(u.1, 1, u.2)]
  | none => [(u.1, 1, u.2)]
def eP (us : List Un) : List Row := us.foldl addU []
def RowR (H : Hp) (u : Row) (v : V) : Prop := ∃ a b, v = V.ref a ∧ H a = some (.tup [.int ((u.1 : Nat) : Int), .int ((u.2.1 : Nat) : Int), .ref b]) ∧ H b = some (.tup (natV u.2.2))
theorem RowR.keep {H H' : Hp} {u : Row} {v : V} (h : RowR H u v) (k : TupK H H') : RowR H' u v := by
  obtain ⟨a, b, e, h1, h2⟩ := h
  exact ⟨a, b, e, k _ _ h1, k _ _ h2⟩
def spMarks (ps : List Sch) (ws : List StepT) : Sp := fun vs H Q _ => ∃ pa wa, vs = [.ref pa, .ref wa] ∧ PWAt H ps ws pa wa ∧ ∀ H', Same H H' → Q (.int (((uAll ps ws).length : Nat) : Int)) H'
def spEarned (ps : List Sch) (ws : List StepT) : Sp := fun vs H Q _ => ∃ pa wa, vs = [.ref pa, .ref wa] ∧ PWAt H ps ws pa wa ∧ ∀ (f : Addr) (rv : List V) (H' : Hp), Same H H' → H f = none → H' f = some (.lst rv) → Paired (RowR H') (eP (uAll ps ws)) rv → Q (.ref f) H'
theorem one_new {tc : TT} {t u : TS} {D : Ends} {σ : St} {H : Hp} {b : Bool} (h : ∀ Q : Bool → Hp → Prop, (∀ H', Same H H' → Q b H') → tc σ H Q) (k1 : b = true → ∀ H', Same H H' → t D σ H') (k2 : b = false → ∀ H', Same H H' → u D σ H') : tIfS tc t u D σ H := h _ fun H' s => by
  cases b with
  | true => exact iteT (k1 rfl H' s)
  | false => exact iteF (k2 rfl H' s)
theorem list_nil (ds : List PyData) : PyData.eqv (.list ds) (.list []) = ds.isEmpty := by
  cases ds with
  | nil => simp only [PyData.eqv, PyData.eqvAll]; rfl
  | cons a r => simp only [PyData.eqv, PyData.eqvAll]; rfl
def natD (l : List Nat) : List PyData := l.map fun j : Nat => PyData.int ((j : Nat) : Int)
theorem natD_eqvAll : ∀ l m : List Nat, PyData.eqvAll (natD l) (natD m) = decide (l = m)
  | [], [] => by show PyData.eqvAll [] [] = _; simp only [PyData.eqvAll]; rfl
  | [], b :: m => by show PyData.eqvAll [] (_ :: _) = _; simp only [PyData.eqvAll]; rfl
  | a :: l, [] => by show PyData.eqvAll (_ :: _) [] = _; simp only [PyData.eqvAll]; rfl
  | a :: l, b :: m => by
    have ih := natD_eqvAll l m
    show PyData.eqvAll (PyData.int ((a : Nat) : Int) :: natD l) (PyData.int ((b : Nat) : Int) :: natD m) = _
    simp only [PyData.eqvAll, PyData.eqv, ih]
    by_cases h1 : a = b
    · subst h1
      by_cases h2 : l = m
      · subst h2; simp
      · simp [h2]
    · have : ((a : Nat) : Int) ≠ ((b : Nat) : Int) := by omega
      simp [h1, this]
theorem natD_eqv (l m : List Nat) : PyData.eqv (.tuple (natD l)) (.tuple (natD m)) = decide (l = m) := by
  simp only [PyData.eqv]
  exact natD_eqvAll l m
theorem natD_sh (n : Nat) (l : List Nat) : ShAll n (natD l) := ShAll.of fun d h => by
  obtain ⟨i, _, rfl⟩ := List.mem_map.mp h
  exact .int _
theorem natD_dp {K : PySem.W.Frag} {H : Hp} : ∀ l : List Nat, DpAll K H (natV l) (natD l)
  | [] => .nil
  | n :: r => .cons (.int _) (natD_dp r)
def rowD (r : Row) : PyData := .tuple [.int ((r.1 : Nat) : Int), .int ((r.2.1 : Nat) : Int), .tuple (natD r.2.2)]
theorem rowD_sh (r : Row) : ShN 2 (rowD r) := .tup (.cons (.int _) (.cons (.int _) (.cons (.tup (natD_sh 0 _)) .nil)))
theorem rows_sh (rs : List Row) : ShN 3 (.list (rs.map rowD)) := .lst (ShAll.of fun d h => by
  obtain ⟨r, _, rfl⟩ := List.mem_map.mp h
  exact rowD_sh r)
theorem rows_dp {K : PySem.W.Frag} {H : Hp} : ∀ {rs : List Row} {rv : List V}, Paired (RowR H) rs rv → DpAll K H rv (rs.map rowD)
  | _, _, .nil => .nil
  | _, _, .cons h t => by
    obtain ⟨a, b, rfl, h1, h2⟩ := h
    exact .cons (.tup (SqT.of h1) (.cons (.int _) (.cons (.int _) (.cons (.tup (SqT.of h2) (natD_dp _)) .nil)))) (rows_dp t)
theorem paired_snoc_inv {α β : Type} {R : α → β → Prop} : ∀ {xs : List α} {x : α} {ys : List β}, Paired R (xs ++ [x]) ys → ∃ ys' y, ys = ys' ++ [y] ∧ Paired R xs ys' ∧ R x y
  | [], x, _, .cons h .nil => ⟨[], _, rfl, .nil, h⟩
  | a :: xs, x, _, .cons h t => by
    obtain ⟨ys', y, e, h1, h2⟩ := paired_snoc_inv t
    exact ⟨_ :: ys', y, by rw [e]; rfl, .cons h h1, h2⟩
theorem last_set (xs : List V) (x y : V) : (xs ++ [x]).set xs.length y = xs ++ [y] := by
  rw [List.set_append_right _ _ (Nat.le_refl _), Nat.sub_self]
  rfl
theorem ixN_last {n : Nat} : ixN (n + 1) (-1) = some n := by
  unfold ixN
  rw [if_neg (by decide), if_pos (by omega)]
  congr 1
  omega
theorem addU_len (acc : List Row) (u : Un) : (addU acc u).length ≤ acc.length + 1 := by
  unfold addU
  split
  · split
    · rw [List.length_append, List.length_dropLast, List.length_singleton]
      omega
    · simp
  · simp
def sameW (acc : List Row) (u : Un) : Bool := match acc.getLast? with
  | some r => decide (r.2.2 = u.2)
  | none => false
theorem sameW_snoc (ini : List Row) (r : Row) (u : Un) : sameW (ini ++ [r]) u = decide (r.2.2 = u.2) := by
  unfold sameW
  rw [show (ini ++ [r]).getLast? = some r by simp]
theorem addU_same (ini : List Row) (r : Row) (u : Un) (h : r.2.2 = u.2) : addU (ini ++ [r]) u = ini ++ [(u.1, r.2.1 + 1, u.2)] := by
  unfold addU
  rw [show (ini ++ [r]).getLast? = some r by simp]
  obtain ⟨a, b, c⟩ := r
  show (if c = u.2 then _ else _) = _
  rw [if_pos h]
  simp
theorem addU_else (acc : List Row) (u : Un) (h : ((!acc.isEmpty) && sameW acc u) = false) : addU acc u = acc ++ [(u.1, 1, u.2)] := by
  rcases List.eq_nil_or_concat acc with rfl | ⟨ini, r, rfl⟩
  · rfl
  · rw [List.concat_eq_append] at h ⊢
    rw [sameW_snoc] at h
    have h2 : r.2.2 ≠ u.2 := fun z => by
      rw [z, decide_eq_true rfl, Bool.and_true] at h
      cases ini <;> cases h
    unfold addU
    rw [show (ini ++ [r]).getLast? = some r by simp]
    obtain ⟨a, b, c⟩ := r
    show (if c = u.2 then _ else _) = _
    rw [if_neg h2]
section
variable {P : Program} {w : World} {K : PySem.W.Frag} {mg : Str → Option Value} {base : Heap}
end
end MS
end
section
set_option maxRecDepth 100000
set_option maxHeartbeats 4000000
namespace MS
open PySem L2
/-! ### the words of a scheme -/
def wP (ps : List Sch) : Nat → Sch → List Str
  | 0, _ => []
  | _ + 1, .step x _ => [x]
  | k + 1, .seen x s => x :: wP ps k s
  | k + 1, .behind x s => x :: wP ps k s
  | k + 1, .fin x _ s => x :: wP ps k s
  | k + 1, .most _ s => wP ps k s
  | k + 1, .half s => wP ps k s
  | k + 1, .carry s => wP ps k s
  | k + 1, .all ks => (ks.map (wP ps k)).flatten
  | k + 1, .best ks => (ks.map (wP ps k)).flatten
  | k + 1, .use n => match ps[n]? with
    | none => []
    | some s => wP ps k s
theorem wr_nonneg {i M : Nat} {c : Nat → Int} (h : ∀ j, i < j → j < M → 0 ≤ c j) : ∀ (d : Nat) (s : Sch), OkS i M d s → 0 ≤ wr c d s
  | 0, _, o => by cases o
  | _ + 1, .step _ _, _ => by show (0 : Int) ≤ 0; decide
  | d + 1, .all k, o => by
    show 0 ≤ (k.map (wr c d)).sum
    have : ∀ s ∈ k, 0 ≤ wr c d s := fun s hs => wr_nonneg h d s (o.2.2 s hs)
    clear o
    induction k with
    | nil => exact Int.le_refl _
    | cons a r ih =>
      rw [List.map_cons, List.sum_cons]
      have := ih fun s hs => this s (List.mem_cons_of_mem _ hs)
      have := ‹∀ s ∈ a :: r, 0 ≤ wr c d s› a List.mem_cons_self
      omega
  | d + 1, .best k, o => by
    show 0 ≤ (k.map (wr c d)).sum
    have : ∀ s ∈ k, 0 ≤ wr c d s := fun s hs => wr_nonneg h d s (o.2.2 s hs)
    clear o
    induction k with
    | nil => exact Int.le_refl _
    | cons a r ih =>
      rw [List.map_cons, List.sum_cons]
      have := ih fun s hs => this s (List.mem_cons_of_mem _ hs)
      have := ‹∀ s ∈ a :: r, 0 ≤ wr c d s› a List.mem_cons_self
      omega
  | d + 1, .most _ s, o => wr_nonneg h d s o.2
  | d + 1, .half s, o => wr_nonneg h d s o
  | d + 1, .seen _ s, o => by
    have := wr_nonneg h d s o.2
    show 0 ≤ 1 + wr c d s
    omega
  | d + 1, .behind _ s, o => by
    have := wr_nonneg h d s o.2
    show 0 ≤ 1 + wr c d s
    omega
  | d + 1, .carry s, o => wr_nonneg h d s o
  | d + 1, .fin _ _ s, o => wr_nonneg h d s o.2
  | _ + 1, .use n, o => h n o.1 o.2
/-- its words, the schemes within -/
structure WV (H : Hp) (i M d : Nat) (ps : List Sch) (k : Nat) (sc : Sch) (nm : Str) (rest : List V) (pre : List Str) (ks : List Sch) (kv : List V) : Prop where
  nu : (nm == "use") = false
  eq : wP ps (k + 1) sc = pre ++ (ks.map (wP ps k)).flatten
  pl : pre.length ≤ 1
  kl : ks.length ≤ 4
  ok : ∀ s ∈ ks, OkS i M d s
  at_ : Paired (SAt H d) ks kv
  w1 : inV (.str nm) [.str "step", .str "seen", .str "behind", .str "end"] = true → ∃ x, pre = [x] ∧ atI (.str nm :: rest) 1 = some (.str x)
  w0 : inV (.str nm) [.str "step", .str "seen", .str "behind", .str "end"] = false → pre = []
  k2 : inV (.str nm) [.str "all", .str "best"] = true → ∃ b, atI (.str nm :: rest) 1 = some (.ref b) ∧ H b = some (.tup kv)
  k1 : inV (.str nm) [.str "all", .str "best"] = false → nm ≠ "step" → ∃ u, atI (.str nm :: rest) (-1) = some u ∧ kv = [u]
  k0 : nm = "step" → kv = []
theorem SKind.words {H : Hp} {i M d : Nat} {ps : List Sch} {k : Nat} {sc : Sch} {nm : Str} {rest : List V} (h : SKind H i M d sc nm rest) : (∃ n : Nat, rest = [.int ((n : Nat) : Int)] ∧ sc = .use n ∧ nm = "use" ∧ i < n ∧ n < M) ∨ ∃ pre ks kv, WV H i M d ps k sc nm rest pre ks kv := by
  cases h with
  | @step x p hx _ _ => exact .inr ⟨[x], [], [], by decide +kernel, rfl, by simp, by simp, (fun s h => nomatch h), .nil, fun _ => ⟨x, rfl, at1⟩, (fun z => absurd z (by decide +kernel)), (fun z => absurd z (by decide +kernel)), fun _ z => absurd rfl z, fun _ => rfl⟩
  | @behind x s u hx hs ho => exact .inr ⟨[x], [s], [u], by decide +kernel, by show x :: wP ps k s = [x] ++ (wP ps k s ++ []); rw [List.append_nil]; rfl, by simp, by simp, (fun s' h' => by rw [List.mem_singleton.mp h']; exact ho), .cons hs .nil, fun _ => ⟨x, rfl, at1⟩, (fun z => absurd z (by decide +kernel)), (fun z => absurd z (by decide +kernel)), fun _ _ => ⟨u, rfl, rfl⟩, (fun z => absurd z (by decide +kernel))⟩
  | use h1 h2 => exact .inl ⟨_, rfl, rfl, rfl, h1, h2⟩
  | @all ks b vs eb hk ho hl => exact .inr ⟨[], ks, vs, by decide +kernel, rfl, by simp, hl, ho, hk, (fun z => absurd z (by decide +kernel)), fun _ => rfl, fun _ => ⟨b, at1, eb⟩, (fun z => absurd z (by decide +kernel)), (fun z => absurd z (by decide +kernel))⟩
  | @best ks b vs eb hk ho hl => exact .inr ⟨[], ks, vs, by decide +kernel, rfl, by simp, hl, ho, hk, (fun z => absurd z (by decide +kernel)), fun _ => rfl, fun _ => ⟨b, at1, eb⟩, (fun z => absurd z (by decide +kernel)), (fun z => absurd z (by decide +kernel))⟩
  | one h =>
    obtain ⟨u, s', hlast, hs', ho', c5, c6, cm, chh, cc, x1, ex1⟩ := h.kid
    have nst : nm ≠ "step" := fun e => by
      have := h.nb
      rw [e] at this
      exact absurd this (by decide +kernel)
    have a1 : ∀ s ∈ [s'], OkS i M d s := fun s h' => by rw [List.mem_singleton.mp h']; exact ho'
    rcases h.nm5 with e | e | e | e | e
    · obtain ⟨n, hsc, hre, _⟩ := cm e
      exact .inr ⟨[], [s'], [u], h.nu, by rw [hsc]; show wP ps k s' = [] ++ (wP ps k s' ++ []); rw [List.append_nil]; rfl, by simp, by simp, a1, .cons hs' .nil, (fun z => by rw [e] at z; exact absurd z (by decide +kernel)), fun _ => rfl, (fun z => by rw [h.na] at z; cases z), fun _ _ => ⟨u, hlast, rfl⟩, fun z => absurd z nst⟩
    · obtain ⟨hsc, hre⟩ := chh e
      exact .inr ⟨[], [s'], [u], h.nu, by rw [hsc]; show wP ps k s' = [] ++ (wP ps k s' ++ []); rw [List.append_nil]; rfl, by simp, by simp, a1, .cons hs' .nil, (fun z => by rw [e] at z; exact absurd z (by decide +kernel)), fun _ => rfl, (fun z => by rw [h.na] at z; cases z), fun _ _ => ⟨u, hlast, rfl⟩, fun z => absurd z nst⟩
    · obtain ⟨x, hsc, hre, hx⟩ := c6 e
      exact .inr ⟨[x], [s'], [u], h.nu, by rw [hsc]; show x :: wP ps k s' = [x] ++ (wP ps k s' ++ []); rw [List.append_nil]; rfl, by simp, by simp, a1, .cons hs' .nil, fun _ => ⟨x, rfl, by rw [hre]; exact at1⟩, (fun z => by rw [e] at z; exact absurd z (by decide +kernel)), (fun z => by rw [h.na] at z; cases z), fun _ _ => ⟨u, hlast, rfl⟩, fun z => absurd z nst⟩
    · obtain ⟨hsc, hre⟩ := cc e
      exact .inr ⟨[], [s'], [u], h.nu, by rw [hsc]; show wP ps k s' = [] ++ (wP ps k s' ++ []); rw [List.append_nil]; rfl, by simp, by simp, a1, .cons hs' .nil, (fun z => by rw [e] at z; exact absurd z (by decide +kernel)), fun _ => rfl, (fun z => by rw [h.na] at z; cases z), fun _ _ => ⟨u, hlast, rfl⟩, fun z => absurd z nst⟩
    · obtain ⟨x, p, hsc, hre, hx, _⟩ := c5 e
      exact .inr ⟨[x], [s'], [u], h.nu, by rw [hsc]; show x :: wP ps k s' = [x] ++ (wP ps k s' ++ []); rw [List.append_nil]; rfl, by simp, by simp, a1, .cons hs' .nil, fun _ => ⟨x, rfl, by rw [hre]; exact at1⟩, (fun z => by rw [e] at z; exact absurd z (by decide +kernel)), (fun z => by rw [h.na] at z; cases z), fun _ _ => ⟨u, hlast, rfl⟩, fun z => absurd z nst⟩
theorem flat_len {g : Sch → Int} {f : Sch → List Str} : ∀ (ks : List Sch), (∀ s ∈ ks, ((f s).length : Int) ≤ g s) → (((ks.map f).flatten).length : Int) ≤ (ks.map g).sum
  | [], _ => Int.le_refl _
  | s :: r, h => by
    rw [List.map_cons, List.flatten_cons, List.length_append, List.map_cons, List.sum_cons]
    have := h s List.mem_cons_self
    have := flat_len r fun s hs => h s (List.mem_cons_of_mem _ hs)
    omega
theorem sum_two {g h : Sch → Int} : ∀ (ks : List Sch), (ks.map fun s => g s + h s).sum = (ks.map g).sum + (ks.map h).sum
  | [] => rfl
  | s :: r => by
    rw [List.map_cons, List.sum_cons, List.map_cons, List.sum_cons, List.map_cons, List.sum_cons, sum_two r]
    omega
theorem wP_len {ps : List Sch} {ce cw : Nat → Int} {M : Nat} (hp : ∀ (j : Nat) (s : Sch), ps[j]? = some s → OkS j M 5 s ∧ ce j = er ce 5 s ∧ cw j = wr cw 5 s) (h0 : ∀ j, j < M → 0 ≤ ce j) (h1 : ∀ j, j < M → 0 ≤ cw j) :
    ∀ (k : Nat) (i d : Nat) (s : Sch), OkS i M d s → ((wP ps k s).length : Int) ≤ er ce d s + wr cw d s
  | 0, i, d, s, o => by
    have := er_nonneg (c := ce) (fun j _ hj => h0 j hj) d s o
    have := wr_nonneg (c := cw) (fun j _ hj => h1 j hj) d s o
    show (0 : Int) ≤ _
    omega
  | k + 1, i, 0, s, o => by cases o
  | k + 1, i, d + 1, .step x p, o => by show (1 : Int) ≤ 1 + 0; decide
  | k + 1, i, d + 1, .behind x s, o => by
    have := wP_len hp h0 h1 k i d s o.2
    show (((x :: wP ps k s).length : Nat) : Int) ≤ er ce d s + (1 + wr cw d s)
    rw [List.length_cons]
    omega
  | k + 1, i, d + 1, .seen x s, o => by
    have := wP_len hp h0 h1 k i d s o.2
    show (((x :: wP ps k s).length : Nat) : Int) ≤ er ce d s + (1 + wr cw d s)
    rw [List.length_cons]
    omega
  | k + 1, i, d + 1, .fin x p s, o => by
    have := wP_len hp h0 h1 k i d s o.2
    show (((x :: wP ps k s).length : Nat) : Int) ≤ (1 + er ce d s) + wr cw d s
    rw [List.length_cons]
    omega
  | k + 1, i, d + 1, .use n, o => by
    show ((match ps[n]? with
      | none => []
      | some s => wP ps k s).length : Int) ≤ ce n + cw n
    have := h0 n o.2
    have := h1 n o.2
    split
    · show (0 : Int) ≤ _
      omega
    · rename_i s e
      obtain ⟨o', e1, e2⟩ := hp n s e
      rw [e1, e2]
      exact wP_len hp h0 h1 k n 5 s o'
  | k + 1, i, d + 1, .all ks, o => by
    have := flat_len (f := wP ps k) (g := fun s => er ce d s + wr cw d s) ks fun s hs => wP_len hp h0 h1 k i d s (o.2.2 s hs)
    rw [sum_two] at this
    exact this
  | k + 1, i, d + 1, .best ks, o => by
    have := flat_len (f := wP ps k) (g := fun s => er ce d s + wr cw d s) ks fun s hs => wP_len hp h0 h1 k i d s (o.2.2 s hs)
    rw [sum_two] at this
    exact this
  | k + 1, i, d + 1, .most n s, o => wP_len hp h0 h1 k i d s o.2
  | k + 1, i, d + 1, .half s, o => wP_len hp h0 h1 k i d s o
  | k + 1, i, d + 1, .carry s, o => wP_len hp h0 h1 k i d s o
def spWords (ps : List Sch) (M k : Nat) : Sp := fun vs H Q _ => ∃ (pa : Addr) (v : V) (s : Sch) (i d : Nat), vs = [.ref pa, v] ∧ (∃ pv, H pa = some (.tup pv) ∧ Paired (SAt H 5) ps pv) ∧ SAt H d s v ∧ OkS i M d s ∧ (M - i) * 5 + d ≤ k ∧ (wP ps k s).length ≤ 100 ∧
  ∀ (f : Addr) (H' : Hp), Same H H' → H f = none → H' f = some (.lst ((wP ps k s).map V.str)) → Q (.ref f) H'
abbrev psWords : List Str := ["_law_paper_here", "_law_scheme_here"]
theorem flat_split {f : Sch → List Str} : ∀ (ks : List Sch) (j : Nat) (s : Sch), ks[j]? = some s → (((ks.take j).map f).flatten).length + (f s).length ≤ ((ks.map f).flatten).length
  | [], _, _, h => by simp at h
  | a :: r, 0, s, h => by
    obtain rfl : a = s := by simpa using h
    rw [List.map_cons, List.flatten_cons, List.length_append]
    show 0 + _ ≤ _
    omega
  | a :: r, j + 1, s, h => by
    have ih := flat_split (f := f) r j s (by simpa using h)
    rw [List.take_succ_cons, List.map_cons, List.flatten_cons, List.length_append, List.map_cons, List.flatten_cons, List.length_append]
    omega
theorem found_if {σ : St} {H1 : Hp} {Q : VK} {b : Bool} {ta : TA} {pre : List V} (h1 : b = true → ∀ R : List V → Hp → Prop, R pre H1 → ta σ H1 R) (h2 : b = false → pre = []) (lp : pre.length ≤ 1000) (c : ∀ f, H1 f = none → Q (.ref f) (upd H1 f (.lst pre))) : if b = true then tLst ta σ H1 Q else tLst tNil σ H1 Q := by
  cases b with
  | true => exact iteT (h1 rfl _ ⟨szN lp, c⟩)
  | false =>
    have e := h2 rfl
    subst e
    exact iteF ⟨Nat.zero_le _, c⟩
theorem kids_if {σ : St} {H1 : Hp} {Q : VK} {b : Bool} {t1 t2 : TE} {kv : List V} (h1 : b = true → ∀ R : VK, (∀ l, H1 l = none → R (.ref l) (upd H1 l (.lst kv))) → t1 σ H1 R) (h2 : b = false → ∀ R : VK, (∀ l, H1 l = none → R (.ref l) (upd H1 l (.lst kv))) → t2 σ H1 R)
    (c : ∀ l, H1 l = none → Q (.ref l) (upd H1 l (.lst kv))) : if b = true then t1 σ H1 Q else t2 σ H1 Q := by
  cases b with
  | true => exact iteT (h1 rfl _ c)
  | false => exact iteF (h2 rfl _ c)
section
variable {P : Program} {w : World} {K : PySem.W.Frag} {mg : Str → Option Value} {base : Heap}
end
section
variable {P : Program} {w : World} {K : PySem.W.Frag} {mg : Str → Option Value} {base : Heap}
end
/-- the words of a paper that can be are few -/
theorem wAll_len {ps : List Sch} (h : PaperOk ps) {s : Sch} {j : Nat} (e : ps[j]? = some s) (k : Nat) : (wP ps k s).length ≤ 10 := by
  obtain ⟨_, _, ce, cw, t⟩ := h
  have hp : ∀ (j : Nat) (s : Sch), ps[j]? = some s → OkS j ps.length 5 s ∧ ce j = er ce 5 s ∧ cw j = wr cw 5 s := fun j s e => by
    obtain ⟨q1, q2, q3, _⟩ := t j s e
    rw [Nat.zero_add] at q1 q2 q3
    exact ⟨q1, q2, q3⟩
  have h0 : ∀ n j, ps.length - j ≤ n → j < ps.length → 0 ≤ ce j ∧ 0 ≤ cw j := by
    intro n
    induction n with
    | zero => intro j a b; omega
    | succ n ih =>
      intro j a b
      obtain ⟨o, e1, e2⟩ := hp j _ (List.getElem?_eq_getElem b)
      rw [e1, e2]
      exact ⟨er_nonneg (fun j' h1 h2 => (ih j' (by omega) h2).1) 5 _ o, wr_nonneg (fun j' h1 h2 => (ih j' (by omega) h2).2) 5 _ o⟩
  obtain ⟨_, _, _, _, q5, q6⟩ := t j s e
  have := wP_len hp (fun j hj => (h0 _ j (Nat.le_refl _) hj).1) (fun j hj => (h0 _ j (Nat.le_refl _) hj).2) k j 5 s (hp j s e).1
  omega
end MS
end
section
set_option maxRecDepth 100000
set_option maxHeartbeats 4000000
namespace MS
open PySem L2
/-! ### rows and points: the same told twice -/
def pts (rs : List Row) : Nat := (rs.map fun r => r.2.1).sum
def expand (rs : List Row) : List Un := rs.flatMap fun r => List.replicate r.2.1 (r.1, r.2.2)
/-- the first so many points of rows -/
def firstP : List Row → Nat → List Row
  | [], _ => []
  | (i, n, wh) :: r, left => if left = 0 then [] else (i, min n left, wh) :: firstP r (left - min n left)
def bestR (f : Sch → Nat → List Row) : List Sch → Nat → List Row → List Row
  | [], _, acc => acc
  | s :: r, j, acc => bestR f r (j + 1) (if pts acc < pts (f s j) then f s j else acc)
def rP (ps : List Sch) (ws : List StepT) : Nat → Sch → Nat → Bool → List Nat → List Row
  | 0, _, _, _, _ => []
  | k + 1, .step x p, st, c, wh => match hits ws c x st with
    | [] => []
    | i :: _ => [(i, p.toNat, wh)]
  | k + 1, .behind x s, st, c, wh => match hits ws c x st with
    | [] => []
    | i :: _ => rP ps ws k s (i + 1) c (wh ++ [0])
  | k + 1, .use n, st, c, wh => match ps[n]? with
    | none => []
    | some s => rP ps ws k s st c (wh ++ [0])
  | k + 1, .all ks, st, c, wh => allU (fun s j => rP ps ws k s st c (wh ++ [j])) ks 0
  | k + 1, .best ks, st, c, wh => bestR (fun s j => rP ps ws k s st c (wh ++ [j])) ks 0 []
  | k + 1, .fin x p s, st, c, wh => if lastOk ws c x st = true then [(ws.length - 1, p.toNat, wh)] else rP ps ws k s st c (wh ++ [0])
  | k + 1, .seen x s, st, c, wh => if (ws.any fun p => p.1 == x) = true then rP ps ws k s st c (wh ++ [0]) else []
  | k + 1, .most n s, st, c, wh => firstP (rP ps ws k s st c (wh ++ [0])) n.toNat
  | k + 1, .half s, st, c, wh => firstP (rP ps ws k s st c (wh ++ [0])) (pts (rP ps ws k s st c (wh ++ [0])) / 2)
  | k + 1, .carry s, st, c, wh => rP ps ws k s st true (wh ++ [0])
theorem pts_zero : pts [] = 0 := rfl
theorem pts_cons (r : Row) (rs : List Row) : pts (r :: rs) = r.2.1 + pts rs := by
  unfold pts
  rw [List.map_cons, List.sum_cons]
theorem expand_cons (r : Row) (rs : List Row) : expand (r :: rs) = List.replicate r.2.1 (r.1, r.2.2) ++ expand rs := by
  unfold expand
  rw [List.flatMap_cons]
theorem expand_app (as bs : List Row) : expand (as ++ bs) = expand as ++ expand bs := by
  unfold expand
  rw [List.flatMap_append]
theorem expand_len : ∀ rs : List Row, (expand rs).length = pts rs
  | [] => rfl
  | r :: rs => by rw [expand_cons, List.length_append, List.length_replicate, expand_len rs, pts_cons]
theorem expand_first : ∀ (rs : List Row) (n : Nat), expand (firstP rs n) = (expand rs).take n
  | [], n => by
    show [] = List.take n []
    rw [List.take_nil]
  | (i, m, wh) :: r, n => by
    unfold firstP
    by_cases h : n = 0
    · rw [if_pos h, h, List.take_zero]
      rfl
    · rw [if_neg h, expand_cons, expand_cons, expand_first r, List.take_append, List.length_replicate, List.take_replicate]
      show List.replicate (min m n) _ ++ _ = List.replicate (min n m) _ ++ _
      rw [Nat.min_comm m n, show n - min n m = n - m by omega]
theorem expand_all {f : Sch → Nat → List Row} {g : Sch → Nat → List Un} : ∀ (ks : List Sch) (j : Nat), (∀ s ∈ ks, ∀ j, g s j = expand (f s j)) → allU g ks j = expand (allU f ks j)
  | [], _, _ => rfl
  | s :: r, j, h => by
    show g s j ++ allU g r (j + 1) = expand (f s j ++ allU f r (j + 1))
    rw [expand_app, h s List.mem_cons_self j, expand_all r (j + 1) fun s hs => h s (List.mem_cons_of_mem _ hs)]
theorem expand_best {f : Sch → Nat → List Row} {g : Sch → Nat → List Un} : ∀ (ks : List Sch) (j : Nat) (acc : List Row), (∀ s ∈ ks, ∀ j, g s j = expand (f s j)) → bestU g ks j (expand acc) = expand (bestR f ks j acc)
  | [], _, _, _ => rfl
  | s :: r, j, acc, h => by
    show bestU g r (j + 1) (if (expand acc).length < (g s j).length then g s j else expand acc) = expand (bestR f r (j + 1) (if pts acc < pts (f s j) then f s j else acc))
    rw [h s List.mem_cons_self j, expand_len, expand_len, ← expand_best r (j + 1) _ fun s hs => h s (List.mem_cons_of_mem _ hs)]
    split <;> rfl
/-- the points are those of the rows -/
theorem uP_expand {ps : List Sch} {ws : List StepT} : ∀ (k : Nat) (s : Sch) (st : Nat) (c : Bool) (wh : List Nat), uP ps ws k s st c wh = expand (rP ps ws k s st c wh)
  | 0, _, _, _, _ => rfl
  | k + 1, .step x p, st, c, wh => by
    unfold uP rP
    cases hits ws c x st with
    | nil => rfl
    | cons i r => show List.replicate _ _ = expand [_]; rw [expand_cons]; show _ = List.replicate _ _ ++ []; rw [List.append_nil]
  | k + 1, .behind x s, st, c, wh => by
    unfold uP rP
    cases hits ws c x st with
    | nil => rfl
    | cons i r => exact uP_expand k s _ c _
  | k + 1, .use n, st, c, wh => by
    unfold uP rP
    cases ps[n]? with
    | none => rfl
    | some s => exact uP_expand k s st c _
  | k + 1, .all ks, st, c, wh => expand_all ks 0 fun s _ j => uP_expand k s st c _
  | k + 1, .best ks, st, c, wh => expand_best ks 0 [] fun s _ j => uP_expand k s st c _
  | k + 1, .fin x p s, st, c, wh => by
    unfold uP rP
    split
    · rw [expand_cons]
      show _ = List.replicate _ _ ++ []
      rw [List.append_nil]
    · exact uP_expand k s st c _
  | k + 1, .seen x s, st, c, wh => by
    unfold uP rP
    split
    · exact uP_expand k s st c _
    · rfl
  | k + 1, .most n s, st, c, wh => by
    unfold uP rP
    rw [uP_expand k s st c _, expand_first]
  | k + 1, .half s, st, c, wh => by
    unfold uP rP
    rw [uP_expand k s st c _, expand_first, expand_len]
  | k + 1, .carry s, st, c, wh => uP_expand k s st true _
/-- rows that can stand side by side: each has points, no two one place -/
def Good (wh : List Nat) (rs : List Row) : Prop := (∀ r ∈ rs, 0 < r.2.1 ∧ wh <+: r.2.2) ∧ (rs.map fun r => r.2.2).Nodup
theorem Good.nil (wh : List Nat) : Good wh [] := ⟨(fun _ h => nomatch h), List.nodup_nil⟩
theorem Good.one {i n : Nat} (wh : List Nat) (h : 0 < n) : Good wh [(i, n, wh)] := ⟨fun r hr => by rw [List.mem_singleton.mp hr]; exact ⟨h, List.prefix_refl _⟩, by simp⟩
theorem Good.up {wh : List Nat} {j : Nat} {rs : List Row} (h : Good (wh ++ [j]) rs) : Good wh rs := ⟨fun r hr => ⟨(h.1 r hr).1, (List.prefix_append _ _).trans (h.1 r hr).2⟩, h.2⟩
theorem first_mem : ∀ (rs : List Row) (n : Nat) (r : Row), r ∈ firstP rs n → (∀ r ∈ rs, 0 < r.2.1) → 0 < r.2.1 ∧ ∃ r' ∈ rs, r'.2.2 = r.2.2
  | [], _, _, h, _ => by cases h
  | (i, m, w) :: t, n, r, h, hp => by
    unfold firstP at h
    by_cases hn : n = 0
    · rw [if_pos hn] at h
      cases h
    · rw [if_neg hn] at h
      rcases List.mem_cons.mp h with rfl | h
      · have : 0 < m := hp _ List.mem_cons_self
        exact ⟨by show 0 < min m n; omega, _, List.mem_cons_self, rfl⟩
      · obtain ⟨h1, r', h2, h3⟩ := first_mem t _ r h fun r hr => hp r (List.mem_cons_of_mem _ hr)
        exact ⟨h1, r', List.mem_cons_of_mem _ h2, h3⟩
theorem first_sub : ∀ (rs : List Row) (n : Nat), ((firstP rs n).map fun r => r.2.2).Sublist (rs.map fun r => r.2.2)
  | [], _ => List.Sublist.slnil
  | (i, m, w) :: t, n => by
    unfold firstP
    split
    · exact List.nil_sublist _
    · exact (first_sub t _).cons_cons _
theorem Good.first {wh : List Nat} {rs : List Row} (h : Good wh rs) (n : Nat) : Good wh (firstP rs n) := ⟨fun r hr => by
  obtain ⟨h1, r', h2, h3⟩ := first_mem rs n r hr fun r hr => (h.1 r hr).1
  exact ⟨h1, by rw [← h3]; exact (h.1 r' h2).2⟩, h.2.sublist (first_sub rs n)⟩
theorem pre_eq {wh t : List Nat} {i j : Nat} (h1 : wh ++ [i] <+: t) (h2 : wh ++ [j] <+: t) : i = j := by
  have h := List.prefix_of_prefix_length_le h1 h2 (by simp)
  obtain ⟨u, hu⟩ := h
  rw [List.append_assoc] at hu
  have := List.append_cancel_left hu
  simp at this
  exact this.1
theorem good_all {wh : List Nat} {f : Sch → Nat → List Row} : ∀ (ks : List Sch) (j : Nat), (∀ s ∈ ks, ∀ j, Good (wh ++ [j]) (f s j)) → (∀ r ∈ allU f ks j, 0 < r.2.1 ∧ ∃ j', j ≤ j' ∧ wh ++ [j'] <+: r.2.2) ∧ ((allU f ks j).map fun r => r.2.2).Nodup
  | [], _, _ => ⟨(fun _ h => nomatch h), List.nodup_nil⟩
  | s :: t, j, h => by
    obtain ⟨a1, a2⟩ := good_all t (j + 1) fun s hs => h s (List.mem_cons_of_mem _ hs)
    have g := h s List.mem_cons_self j
    show (∀ r ∈ f s j ++ allU f t (j + 1), _) ∧ ((f s j ++ allU f t (j + 1)).map fun r => r.2.2).Nodup
    refine ⟨fun r hr => ?_, ?_⟩
    · rcases List.mem_append.mp hr with hr | hr
      · exact ⟨(g.1 r hr).1, j, Nat.le_refl _, (g.1 r hr).2⟩
      · obtain ⟨p, j', h1, h2⟩ := a1 r hr
        exact ⟨p, j', by omega, h2⟩
    · rw [List.map_append]
      refine List.nodup_append.mpr ⟨g.2, a2, fun x hx y hy e => ?_⟩
      obtain ⟨r1, m1, rfl⟩ := List.mem_map.mp hx
      obtain ⟨r2, m2, e2⟩ := List.mem_map.mp hy
      obtain ⟨_, j', h1, h2⟩ := a1 r2 m2
      have p1 := (g.1 r1 m1).2
      rw [e, ← e2] at p1
      have := pre_eq p1 h2
      omega
theorem good_best {wh : List Nat} {f : Sch → Nat → List Row} : ∀ (ks : List Sch) (j : Nat) (acc : List Row), (∀ s ∈ ks, ∀ j, Good (wh ++ [j]) (f s j)) → Good wh acc → Good wh (bestR f ks j acc)
  | [], _, _, _, g => g
  | s :: t, j, acc, h, g => good_best t (j + 1) _ (fun s hs => h s (List.mem_cons_of_mem _ hs)) (by
    split
    · exact (h s List.mem_cons_self j).up
    · exact g)
theorem rP_good {ps : List Sch} {ws : List StepT} {M : Nat} (hp : ∀ (j : Nat) (s : Sch), ps[j]? = some s → OkS j M 5 s) : ∀ (k : Nat) (i d : Nat) (s : Sch) (st : Nat) (c : Bool) (wh : List Nat), OkS i M d s → Good wh (rP ps ws k s st c wh)
  | 0, _, _, _, _, _, _, _ => Good.nil _
  | k + 1, i, 0, s, st, c, wh, o => by cases o
  | k + 1, i, d + 1, .step x p, st, c, wh, o => by
    unfold rP
    have := o.2.1
    split
    · exact Good.nil _
    · exact Good.one _ (by omega)
  | k + 1, i, d + 1, .behind x s, st, c, wh, o => by
    unfold rP
    split
    · exact Good.nil _
    · exact (rP_good hp k i d s _ c _ o.2).up
  | k + 1, i, d + 1, .use n, st, c, wh, o => by
    unfold rP
    split
    · exact Good.nil _
    · rename_i s e
      exact (rP_good hp k n 5 s st c _ (hp n s e)).up
  | k + 1, i, d + 1, .all ks, st, c, wh, o => by
    obtain ⟨a1, a2⟩ := good_all (wh := wh) (f := fun s j => rP ps ws k s st c (wh ++ [j])) ks 0 fun s hs j => rP_good hp k i d s st c _ (o.2.2 s hs)
    exact ⟨fun r hr => by
      obtain ⟨p, j', _, h2⟩ := a1 r hr
      exact ⟨p, (List.prefix_append _ _).trans h2⟩, a2⟩
  | k + 1, i, d + 1, .best ks, st, c, wh, o => good_best ks 0 [] (fun s hs j => rP_good hp k i d s st c _ (o.2.2 s hs)) (Good.nil _)
  | k + 1, i, d + 1, .fin x p s, st, c, wh, o => by
    unfold rP
    have := o.1.2.1
    split
    · exact Good.one _ (by omega)
    · exact (rP_good hp k i d s st c _ o.2).up
  | k + 1, i, d + 1, .seen x s, st, c, wh, o => by
    unfold rP
    split
    · exact (rP_good hp k i d s st c _ o.2).up
    · exact Good.nil _
  | k + 1, i, d + 1, .most n s, st, c, wh, o => ((rP_good hp k i d s st c _ o.2).up).first _
  | k + 1, i, d + 1, .half s, st, c, wh, o => ((rP_good hp k i d s st c _ o).up).first _
  | k + 1, i, d + 1, .carry s, st, c, wh, o => (rP_good hp k i d s st true _ o).up
theorem add_more (acc : List Row) (i : Nat) (w : List Nat) : ∀ (n m : Nat), (List.replicate n ((i, w) : Un)).foldl addU (acc ++ [(i, m, w)]) = acc ++ [(i, m + n, w)]
  | 0, m => rfl
  | n + 1, m => by
    show (List.replicate n ((i, w) : Un)).foldl addU (addU (acc ++ [(i, m, w)]) (i, w)) = _
    rw [addU_same acc (i, m, w) (i, w) rfl]
    show (List.replicate n ((i, w) : Un)).foldl addU (acc ++ [(i, m + 1, w)]) = _
    rw [add_more acc i w n (m + 1), show m + 1 + n = m + (n + 1) by omega]
theorem add_rows : ∀ (rs acc : List Row), (∀ r ∈ rs, 0 < r.2.1) → ((acc ++ rs).map fun r => r.2.2).Nodup → (expand rs).foldl addU acc = acc ++ rs
  | [], acc, _, _ => by rw [List.append_nil]; rfl
  | (i, n, w) :: t, acc, hp, hn => by
    have n0 : 0 < n := hp _ List.mem_cons_self
    obtain ⟨m, rfl⟩ : ∃ m, n = m + 1 := ⟨n - 1, by omega⟩
    have hnw : w ∉ acc.map fun r => r.2.2 := fun z => by
      rw [List.map_append] at hn
      exact (List.nodup_append.mp hn).2.2 w z w List.mem_cons_self rfl
    have he : addU acc (i, w) = acc ++ [(i, 1, w)] := addU_else acc (i, w) (by
      have : sameW acc (i, w) = false := by
        unfold sameW
        cases hl : acc.getLast? with
        | none => rfl
        | some r =>
          refine decide_eq_false fun e => hnw ?_
          rw [← show r.2.2 = w from e]
          exact List.mem_map_of_mem (List.mem_of_getLast? hl)
      rw [this, Bool.and_false])
    rw [expand_cons, List.foldl_append]
    show (expand t).foldl addU ((List.replicate m ((i, w) : Un)).foldl addU (addU acc (i, w))) = _
    rw [he, add_more, add_rows t _ (fun r hr => hp r (List.mem_cons_of_mem _ hr)) (by
      rw [show acc ++ [(i, 1 + m, w)] ++ t = acc ++ ((i, 1 + m, w) :: t) by simp]
      rw [List.map_append] at hn ⊢
      exact hn)]
    rw [show 1 + m = m + 1 by omega]
    simp
theorem eP_expand {wh : List Nat} {rs : List Row} (h : Good wh rs) : eP (expand rs) = rs := by
  have := add_rows rs [] (fun r hr => (h.1 r hr).1) (by simpa using h.2)
  simpa [eP] using this
/-- all rows that a work earns -/
def rAll (ps : List Sch) (ws : List StepT) : List Row := match ps with
  | [] => []
  | s :: _ => rP ps ws 30 s 0 false []
theorem eP_all {ps : List Sch} {ws : List StepT} (h : PaperOk ps) : eP (uAll ps ws) = rAll ps ws := by
  obtain ⟨ce, hp, _, _⟩ := h.facts
  cases ps with
  | nil => rfl
  | cons s r =>
    show eP (uP (s :: r) ws 30 s 0 false []) = rP (s :: r) ws 30 s 0 false []
    rw [uP_expand]
    exact eP_expand (rP_good (fun j s e => (hp j s e).1) 30 0 5 s 0 false [] (hp 0 s rfl).1)
theorem uAll_len {ps : List Sch} {ws : List StepT} : (uAll ps ws).length = pts (rAll ps ws) := by
  cases ps with
  | nil => rfl
  | cons s r =>
    show (uP (s :: r) ws 30 s 0 false []).length = pts (rP (s :: r) ws 30 s 0 false [])
    rw [uP_expand, expand_len]
end MS
end
section
set_option maxRecDepth 100000
set_option maxHeartbeats 4000000
namespace MS
open PySem L2
/-- the word that a scheme names itself -/
def wordOf : Sch → Str
  | .step x _ => x
  | .seen x _ => x
  | .behind x _ => x
  | .fin x _ _ => x
  | _ => ""
/-- the schemes within -/
def kidsOf : Sch → List Sch
  | .step _ _ => []
  | .all k => k
  | .best k => k
  | .most _ s => [s]
  | .half s => [s]
  | .seen _ s => [s]
  | .behind _ s => [s]
  | .carry s => [s]
  | .fin _ _ s => [s]
  | .use _ => []
structure Shp (H : Hp) (i M d : Nat) (sc : Sch) (nm : Str) (rest : List V) (kinds : List Str) (kv : List V) : Prop where
  mem : (nm, kinds) ∈ shapesL
  fit : Paired (FitsR H i M) rest kinds
  ok : ∀ s ∈ kidsOf sc, OkS i M d s
  at_ : Paired (SAt H d) (kidsOf sc) kv
  w1 : ∃ k0 kr, kinds = k0 :: kr ∧ ((k0 = "word" ∧ atI (.str nm :: rest) 1 = some (.str (wordOf sc))) ∨ (k0 ≠ "word" ∧ wordOf sc = ""))
  k1 : ∃ kl, atI (kinds.map V.str) (-1) = some (.str kl) ∧ ((kl = "schemes" ∧ ∃ b, atI (.str nm :: rest) (-1) = some (.ref b) ∧ H b = some (.tup kv)) ∨ (kl = "scheme" ∧ ∃ u, atI (.str nm :: rest) (-1) = some u ∧ kv = [u]) ∨ (kl ≠ "schemes" ∧ kl ≠ "scheme" ∧ kv = []))
theorem SAt.shape {H : Hp} {i M d : Nat} {sc : Sch} {a : Addr} {nm : Str} {rest : List V} (h : SAt H (d + 1) sc (.ref a)) (o : OkS i M (d + 1) sc) (ea : H a = some (.tup (.str nm :: rest))) : ∃ kinds kv, Shp H i M d sc nm rest kinds kv := by
  have inj : ∀ {a' : Addr} {nm' : Str} {rest' : List V}, (V.ref a = V.ref a') → H a' = some (.tup (.str nm' :: rest')) → nm' = nm ∧ rest' = rest := fun e h => by
    cases e
    rw [ea] at h
    cases h
    exact ⟨rfl, rfl⟩
  have fw : ∀ {x : Str}, IsW x → FitsR H i M (.str x) "word" := fun hx => .inl ⟨rfl, _, rfl, hx⟩
  have fp : ∀ {p : Int}, 1 ≤ p → p ≤ 9 → FitsR H i M (.int p) "points" := fun h1 h2 => .inr (.inl ⟨rfl, _, rfl, h1, h2⟩)
  have fs : ∀ {u : V}, FitsR H i M u "scheme" := .inr (.inr (.inr (.inr (.inl rfl))))
  have one : ∀ {s : Sch}, OkS i M d s → ∀ s' ∈ [s], OkS i M d s' := fun o s' h' => by rw [List.mem_singleton.mp h']; exact o
  cases sc with
  | step x p =>
    obtain ⟨a', e, h⟩ := h
    obtain ⟨rfl, rfl⟩ := inj e h
    exact ⟨["word", "points"], [], by decide +kernel, .cons (fw o.1) (.cons (fp o.2.1 o.2.2) .nil), (fun _ h => nomatch h), .nil, ⟨_, _, rfl, .inl ⟨rfl, at1⟩⟩, ⟨"points", rfl, .inr (.inr ⟨by decide +kernel, by decide +kernel, rfl⟩)⟩⟩
  | all k =>
    obtain ⟨a', b, vs, e, h, eb, hk⟩ := h
    obtain ⟨rfl, rfl⟩ := inj e h
    have := Paired.length hk
    have h1 := o.1
    have h2 := o.2.1
    exact ⟨["schemes"], vs, by decide +kernel, .cons (.inr (.inr (.inr (.inl ⟨rfl, b, vs, rfl, eb, by omega, by omega⟩)))) .nil, o.2.2, hk, ⟨_, _, rfl, .inr ⟨by decide +kernel, rfl⟩⟩, ⟨"schemes", rfl, .inl ⟨rfl, b, rfl, eb⟩⟩⟩
  | best k =>
    obtain ⟨a', b, vs, e, h, eb, hk⟩ := h
    obtain ⟨rfl, rfl⟩ := inj e h
    have := Paired.length hk
    have h1 := o.1
    have h2 := o.2.1
    exact ⟨["schemes"], vs, by decide +kernel, .cons (.inr (.inr (.inr (.inl ⟨rfl, b, vs, rfl, eb, by omega, by omega⟩)))) .nil, o.2.2, hk, ⟨_, _, rfl, .inr ⟨by decide +kernel, rfl⟩⟩, ⟨"schemes", rfl, .inl ⟨rfl, b, rfl, eb⟩⟩⟩
  | most n s =>
    obtain ⟨a', u, e, h, hs⟩ := h
    obtain ⟨rfl, rfl⟩ := inj e h
    exact ⟨["limit", "scheme"], [u], by decide +kernel, .cons (.inr (.inr (.inl ⟨rfl, n, rfl, o.1.1, o.1.2⟩))) (.cons fs .nil), one o.2, .cons hs .nil, ⟨_, _, rfl, .inr ⟨by decide +kernel, rfl⟩⟩, ⟨"scheme", rfl, .inr (.inl ⟨rfl, u, rfl, rfl⟩)⟩⟩
  | half s =>
    obtain ⟨a', u, e, h, hs⟩ := h
    obtain ⟨rfl, rfl⟩ := inj e h
    exact ⟨["scheme"], [u], by decide +kernel, .cons fs .nil, one o, .cons hs .nil, ⟨_, _, rfl, .inr ⟨by decide +kernel, rfl⟩⟩, ⟨"scheme", rfl, .inr (.inl ⟨rfl, u, rfl, rfl⟩)⟩⟩
  | seen x s =>
    obtain ⟨a', u, e, h, hs⟩ := h
    obtain ⟨rfl, rfl⟩ := inj e h
    exact ⟨["word", "scheme"], [u], by decide +kernel, .cons (fw o.1) (.cons fs .nil), one o.2, .cons hs .nil, ⟨_, _, rfl, .inl ⟨rfl, at1⟩⟩, ⟨"scheme", rfl, .inr (.inl ⟨rfl, u, rfl, rfl⟩)⟩⟩
  | behind x s =>
    obtain ⟨a', u, e, h, hs⟩ := h
    obtain ⟨rfl, rfl⟩ := inj e h
    exact ⟨["word", "scheme"], [u], by decide +kernel, .cons (fw o.1) (.cons fs .nil), one o.2, .cons hs .nil, ⟨_, _, rfl, .inl ⟨rfl, at1⟩⟩, ⟨"scheme", rfl, .inr (.inl ⟨rfl, u, rfl, rfl⟩)⟩⟩
  | carry s =>
    obtain ⟨a', u, e, h, hs⟩ := h
    obtain ⟨rfl, rfl⟩ := inj e h
    exact ⟨["scheme"], [u], by decide +kernel, .cons fs .nil, one o, .cons hs .nil, ⟨_, _, rfl, .inr ⟨by decide +kernel, rfl⟩⟩, ⟨"scheme", rfl, .inr (.inl ⟨rfl, u, rfl, rfl⟩)⟩⟩
  | fin x p s =>
    obtain ⟨a', u, e, h, hs⟩ := h
    obtain ⟨rfl, rfl⟩ := inj e h
    exact ⟨["word", "points", "scheme"], [u], by decide +kernel, .cons (fw o.1.1) (.cons (fp o.1.2.1 o.1.2.2) (.cons fs .nil)), one o.2, .cons hs .nil, ⟨_, _, rfl, .inl ⟨rfl, at1⟩⟩, ⟨"scheme", rfl, .inr (.inl ⟨rfl, u, rfl, rfl⟩)⟩⟩
  | use n =>
    obtain ⟨a', e, h⟩ := h
    obtain ⟨rfl, rfl⟩ := inj e h
    exact ⟨["later"], [], by decide +kernel, .cons (.inr (.inr (.inr (.inr (.inr ⟨rfl, n, rfl, o.1, o.2⟩))))) .nil, (fun _ h => nomatch h), .nil, ⟨_, _, rfl, .inr ⟨by decide +kernel, rfl⟩⟩, ⟨"later", rfl, .inr (.inr ⟨by decide +kernel, by decide +kernel, rfl⟩)⟩⟩
def spWordIn : Sp := fun vs H Q _ => ∃ (v : V) (sc : Sch) (i M d : Nat), vs = [v] ∧ SAt H (d + 1) sc v ∧ OkS i M (d + 1) sc ∧ Q (.str (wordOf sc)) H
def spWithin : Sp := fun vs H Q _ => ∃ (v : V) (sc : Sch) (i M d : Nat), vs = [v] ∧ SAt H (d + 1) sc v ∧ OkS i M (d + 1) sc ∧ ∀ (f : Addr) (kv : List V), H f = none → Paired (SAt H d) (kidsOf sc) kv → Q (.ref f) (upd H f (.lst kv))
section
variable {P : Program} {w : World} {K : PySem.W.Frag} {mg : Str → Option Value} {base : Heap}
theorem ok_within (T : PTx w K mg) (D : Def K mg "within" s_within ["scheme"]) : FnOk P w K mg base CX0 1 D.f D.fd ["scheme"] spWithin := by
  obtain ⟨aS, gS, low, hS⟩ := T.shapes
  have nd := sc_within.nd
  refine D.ok sc_within (fun vs H Q E h => ?_) (fun cdv A outer s H vs Q E hr h => ?_)
  · obtain ⟨v, sc, i, M, d, rfl, _⟩ := h
    rfl
  obtain ⟨v, sc, i, M, d, rfl, hs, ho, q⟩ := h
  refine ⟨_, pss_cons (ps_set (i := 1) nd rfl (Or.inl rfl) (pe_ix ix_tup (pe_ix ix_kdict (pe_glob rfl gS (v := .ref aS) rfl) (pe_ix ix_tup (pv 0) pe_int (fun _ _ => rfl)) (fun _ _ => rfl)) (pe_un un_neg pe_int) (fun _ _ => rfl)))
    (pss_cons (ps_if (pt_cmpR op_eq (pv 1) pe_str (nomark _)) (pss_one (ps_ret (pe_callTy call_list_of rfl (T.free "list" (by decide +kernel)) (by decide +kernel) (pa_cons (pe_ix ix_tup (pv 0) (pe_un un_neg pe_int) (fun _ _ => rfl)) pa_nil)))) pss_nil)
    (pss_one (ps_ret (pe_ifExp (pt_cmpR op_eq (pv 1) pe_str (nomark _)) (pe_lst (pa_cons (pe_ix ix_tup (pv 0) (pe_un un_neg pe_int) (fun _ _ => rfl)) pa_nil)) (pe_lst pa_nil))))), ?_⟩
  obtain ⟨a, nm, rest, rfl, ea⟩ := hs.tag
  obtain ⟨kinds, kv, S⟩ := hs.shape ho ea
  obtain ⟨t, kd, qt⟩ := hS _ S.mem
  obtain ⟨kl, hl, hk⟩ := S.k1
  refine ⟨_, rfl, a, _, 0, .str nm, rfl, rfl, SqT.of ea, at0, aS, nm, .ref t, rfl, rfl, kd, 1, rfl, t, _, -1, .str kl, rfl, rfl, qt _, hl, ?_⟩
  have S_at := S.at_
  rcases hk with ⟨e, b, e1, eb⟩ | ⟨e, u, e1, ek⟩ | ⟨n1, n2, ek⟩
  · refine seq_if (b := true) (is_word rfl (by rw [e]; decide +kernel)) (fun _ => ?_) (fun z => nomatch z)
    exact ⟨_, rfl, 1, rfl, a, _, -1, .ref b, rfl, rfl, SqT.of ea, e1, b, kv, rfl, .inr (SqT.of eb), fun l hl' => q l kv hl' S_at⟩
  · refine seq_if (b := false) (is_word rfl (by rw [e]; decide +kernel)) (fun z => nomatch z) (fun _ => ?_)
    refine is_word (b := true) rfl (by rw [e]; decide +kernel) _ (iteT ?_)
    exact ⟨_, rfl, 1, rfl, a, _, -1, u, rfl, rfl, SqT.of ea, e1, szN (by show 1 ≤ 1000; decide), fun l hl' => q l _ hl' (by rw [← ek]; exact S_at)⟩
  · refine seq_if (b := false) (is_word rfl (beq_eq_false_iff_ne.mpr n1)) (fun z => nomatch z) (fun _ => ?_)
    refine is_word (b := false) rfl (beq_eq_false_iff_ne.mpr n2) _ (iteF ?_)
    exact ⟨Nat.zero_le _, fun l hl' => q l _ hl' (by rw [← ek]; exact S_at)⟩
end
end MS
end
section
set_option maxRecDepth 100000
set_option maxHeartbeats 4000000
namespace MS
open PySem L2
/-! ### rows in the program -/
theorem pts_sum : ∀ rs : List Row, (rs.map fun r => ((r.2.1 : Nat) : Int)).sum = ((pts rs : Nat) : Int)
  | [] => rfl
  | r :: t => by
    rw [List.map_cons, List.sum_cons, pts_sum t, pts_cons]
    omega
def spPoints : Sp := fun vs H Q _ => ∃ (a : Addr) (rs : List Row) (rv : List V), vs = [.ref a] ∧ H a = some (.lst rv) ∧ Paired (RowR H) rs rv ∧ rs.length ≤ 1000 ∧ ∀ H', Same H H' → Q (.int ((pts rs : Nat) : Int)) H'
def spFirst : Sp := fun vs H Q _ => ∃ (a : Addr) (n : Nat) (rs : List Row) (rv : List V), vs = [.ref a, .int ((n : Nat) : Int)] ∧ H a = some (.lst rv) ∧ Paired (RowR H) rs rv ∧ rs.length ≤ 1000 ∧
  ∀ (f : Addr) (rv' : List V) (H' : Hp), Same H H' → H f = none → H' f = some (.lst rv') → Paired (RowR H') (firstP rs n) rv' → Q (.ref f) H'
theorem first_step (r : Row) (t : List Row) (left : Nat) : firstP (r :: t) left = if left = 0 then [] else (r.1, min r.2.1 left, r.2.2) :: firstP t (left - min r.2.1 left) := rfl
theorem first_zero (rs : List Row) : firstP rs 0 = [] := by
  cases rs with
  | nil => rfl
  | cons r t => rw [first_step, if_pos rfl]
theorem Same.newer {H H1 : Hp} {p : Addr} {o : HO} (k : Same H H1) (h : H p = none) : Same H (upd H1 p o) := fun b u q => by
  rw [upd_ne (ne_of_none q h)]
  exact k b u q
section
variable {P : Program} {w : World} {K : PySem.W.Frag} {mg : Str → Option Value} {base : Heap}
end
end MS
end
section
set_option maxRecDepth 100000
set_option maxHeartbeats 4000000
namespace MS
open PySem L2
theorem word_ne {x : Str} (h : IsW x) : x.length ≠ 0 := by rw [h.len]; decide
theorem wP_shape {ps : List Sch} {k i M d : Nat} {sc : Sch} (o : OkS i M (d + 1) sc) (nu : ∀ n, sc ≠ .use n) : wP ps (k + 1) sc = (if (wordOf sc).length ≠ 0 then [wordOf sc] else []) ++ ((kidsOf sc).map (wP ps k)).flatten := by
  have one : ∀ s, ([s].map (wP ps k)).flatten = wP ps k s := fun s => by
    show wP ps k s ++ [] = _
    rw [List.append_nil]
  have z0 : ¬ (Str.length "" ≠ 0) := by decide
  cases sc with
  | step x p => rw [if_pos (show (wordOf (Sch.step x p)).length ≠ 0 from word_ne o.1)]; rfl
  | all ks => rw [if_neg (show ¬ (wordOf (Sch.all ks)).length ≠ 0 from z0)]; rfl
  | best ks => rw [if_neg (show ¬ (wordOf (Sch.best ks)).length ≠ 0 from z0)]; rfl
  | most n s => rw [if_neg (show ¬ (wordOf (Sch.most n s)).length ≠ 0 from z0)]; exact (one s).symm
  | half s => rw [if_neg (show ¬ (wordOf (Sch.half s)).length ≠ 0 from z0)]; exact (one s).symm
  | seen x s => rw [if_pos (show (wordOf (Sch.seen x s)).length ≠ 0 from word_ne o.1)]; show x :: wP ps k s = x :: ([s].map (wP ps k)).flatten; rw [one]
  | behind x s => rw [if_pos (show (wordOf (Sch.behind x s)).length ≠ 0 from word_ne o.1)]; show x :: wP ps k s = x :: ([s].map (wP ps k)).flatten; rw [one]
  | carry s => rw [if_neg (show ¬ (wordOf (Sch.carry s)).length ≠ 0 from z0)]; exact (one s).symm
  | fin x p s => rw [if_pos (show (wordOf (Sch.fin x p s)).length ≠ 0 from word_ne o.1.1)]; show x :: wP ps k s = x :: ([s].map (wP ps k)).flatten; rw [one]
  | use n => exact absurd rfl (nu n)
theorem wordOf_len {i M d : Nat} {sc : Sch} (o : OkS i M (d + 1) sc) : (wordOf sc).length ≤ 1 := by
  cases sc with
  | step x p => exact Nat.le_of_eq (IsW.len o.1)
  | seen x s => exact Nat.le_of_eq (IsW.len o.1)
  | behind x s => exact Nat.le_of_eq (IsW.len o.1)
  | fin x p s => exact Nat.le_of_eq (IsW.len o.1.1)
  | all ks => show Str.length "" ≤ 1; decide
  | best ks => show Str.length "" ≤ 1; decide
  | most n s => show Str.length "" ≤ 1; decide
  | half s => show Str.length "" ≤ 1; decide
  | carry s => show Str.length "" ≤ 1; decide
  | use n => show Str.length "" ≤ 1; decide

theorem paired_impM {α β : Type} {R T : α → β → Prop} : ∀ {xs : List α} {ys : List β}, Paired R xs ys → (∀ x ∈ xs, ∀ y, R x y → T x y) → Paired T xs ys
  | _, _, .nil, _ => .nil
  | _, _, .cons r t, h => .cons (h _ List.mem_cons_self _ r) (paired_impM t fun x hx => h x (List.mem_cons_of_mem _ hx))
/-- the schemes within, of a use the used one -/
def partsOf (ps : List Sch) : Sch → List Sch
  | .use n => (ps[n]?).toList
  | s => kidsOf s
theorem parts_kids {ps : List Sch} {sc : Sch} (nu : ∀ n, sc ≠ .use n) : partsOf ps sc = kidsOf sc := by
  cases sc with
  | use n => exact absurd rfl (nu n)
  | _ => rfl
theorem wP_parts {ps : List Sch} {k i M d : Nat} {sc : Sch} (o : OkS i M (d + 1) sc) : wP ps (k + 1) sc = (if (wordOf sc).length ≠ 0 then [wordOf sc] else []) ++ ((partsOf ps sc).map (wP ps k)).flatten := by
  by_cases h : ∃ n, sc = .use n
  · obtain ⟨n, rfl⟩ := h
    have z0 : ¬ (Str.length "" ≠ 0) := by decide
    rw [if_neg (show ¬ (wordOf (Sch.use n)).length ≠ 0 from z0)]
    show (match ps[n]? with
      | none => []
      | some s => wP ps k s) = [] ++ (((ps[n]?).toList).map (wP ps k)).flatten
    cases ps[n]? with
    | none => rfl
    | some s => show wP ps k s = wP ps k s ++ []; rw [List.append_nil]
  · have nu : ∀ n, sc ≠ .use n := fun n e => h ⟨n, e⟩
    rw [parts_kids nu]
    exact wP_shape o nu
def PartR (H : Hp) (M k : Nat) (s : Sch) (v : V) : Prop := ∃ i d, SAt H d s v ∧ OkS i M d s ∧ (M - i) * 5 + d ≤ k
def spParts (ps : List Sch) (M k : Nat) : Sp := fun vs H Q _ => ∃ (pa : Addr) (v : V) (s : Sch) (i d : Nat), vs = [.ref pa, v] ∧ (∃ pv, H pa = some (.tup pv) ∧ Paired (SAt H 5) ps pv) ∧ SAt H (d + 1) s v ∧ OkS i M (d + 1) s ∧ (M - i) * 5 + (d + 1) ≤ k + 1 ∧
  ∀ (f : Addr) (kv : List V), H f = none → Paired (PartR H M k) (partsOf ps s) kv → (partsOf ps s).length ≤ 4 → Q (.ref f) (upd H f (.lst kv))
section
variable {P : Program} {w : World} {K : PySem.W.Frag} {mg : Str → Option Value} {base : Heap}
theorem kids_few {i M d : Nat} {sc : Sch} (o : OkS i M (d + 1) sc) : (kidsOf sc).length ≤ 4 := by
  cases sc with
  | all k => exact o.2.1
  | best k => exact o.2.1
  | _ => first | (show 0 ≤ 4; decide) | (show 1 ≤ 4; decide)
theorem PartR.keep {H H' : Hp} {M k : Nat} {s : Sch} {v : V} (h : PartR H M k s v) (t : TupK H H') : PartR H' M k s v := by
  obtain ⟨i, d, h1, h2, h3⟩ := h
  exact ⟨i, d, SAt.keep t _ _ _ h1, h2, h3⟩
end
end MS
end
section
set_option maxRecDepth 100000
set_option maxHeartbeats 4000000
namespace MS
open PySem L2
theorem walk_zipT {K : PySem.W.Frag} {a b : Addr} {xs ys : List V} {n : Nat} (hn : n = min xs.length ys.length) : Walk (RZ.ItzT K a b) n (fun H => SqT K H a xs ∧ SqT K H b ys) (YPair (fun i => xs[i]?) (fun i => ys[i]?)) := by
  subst hn
  refine ⟨fun i _ hi q => ?_, fun _ q => ⟨xs, ys, q.1, q.2, by omega⟩, fun i H v H' _ q y => ?_⟩
  · have h1 : i < xs.length := by omega
    have h2 : i < ys.length := by omega
    exact ⟨xs, ys, xs[i], ys[i], q.1, q.2, by simp [h1], by simp [h2]⟩
  · obtain ⟨T, x, z, h1, h2, h3, h4, h5⟩ := y
    exact ⟨T, x, z, h1, h2, h3, h4 xs q.1, h5 ys q.2⟩
def spCanBe (i M : Nat) : Sp := fun vs H Q _ => ∃ (v : V) (sc : Sch) (d : Nat), vs = [v, .int ((i : Nat) : Int), .int ((M : Nat) : Int)] ∧ SAt H (d + 1) sc v ∧ OkS i M (d + 1) sc ∧ ∀ H', Same H H' → Q (.bl true) H'
abbrev nmCanBe : List Str := ["thing", "number", "many", "shape", "part", "kind"]
abbrev psFits : List Str := ["part", "kind", "number", "many"]
theorem FitsR.keep {H H' : Hp} {i M : Nat} {v : V} {z : Str} (h : FitsR H i M v z) (k : Same H H') : FitsR H' i M v z := by
  rcases h with h | h | h | ⟨e, b, vs, e1, e2, h1, h2⟩ | h | h
  · exact .inl h
  · exact .inr (.inl h)
  · exact .inr (.inr (.inl h))
  · exact .inr (.inr (.inr (.inl ⟨e, b, vs, e1, k _ _ e2, h1, h2⟩)))
  · exact .inr (.inr (.inr (.inr (.inl h))))
  · exact .inr (.inr (.inr (.inr (.inr h))))
theorem not_whole {n : Nat} (h : 0 < n) : ¬ (HT.sIx n 0 (some 1) = 0 ∧ HT.sIx n n none = n) := fun ⟨h1, _⟩ => by
  have e := HT.sIx_nat n 0 1
  have h2 : HT.sIx n 0 (some ((1 : Nat) : Int)) = 0 := h1
  rw [e] at h2
  omega
section
variable {P : Program} {w : World} {K : PySem.W.Frag} {mg : Str → Option Value} {base : Heap}
theorem ok_can_be {i M : Nat} (T : PTx w K mg) (D : Def K mg "can_be" s_can_be ["thing", "number", "many"]) (DF : Def K mg "fits" s_fits psFits) (DN : Def K mg "is_number" s_is_number ["thing"]) : FnOk P w K mg base CX0 3 D.f D.fd ["thing", "number", "many"] (spCanBe i M) := by
  have GF : FnOk P w K mg base CX0 2 DF.f DF.fd psFits (spFits i M) := ok_fits T DF DN
  obtain ⟨aS, gS, low, hS⟩ := T.shapes
  have nd := sc_can_be.nd
  refine D.ok sc_can_be (fun vs H Q E h => ?_) (fun cdv A outer s H vs Q E hr h => ?_)
  · obtain ⟨v, sc, d, rfl, _⟩ := h
    rfl
  obtain ⟨v, sc, d, rfl, hs, ho, q⟩ := h
  refine ⟨_, pss_cons (ps_if (PW.pt (pw_or (pt_not (pt_val (pe_callB call_isi rfl (T.free "isinstance" (by decide +kernel)) (by decide +kernel) (pa_cons (pv 0) (pa_cons (pe_bltn rfl (T.free "tuple" (by decide +kernel)) (by decide +kernel) (v := .ty "tuple") rfl) pa_nil)))))
      (pw_or (pt_not (pt_truth (pv 0) (by intro _; rfl))) (pw_or1 (pt_not (pt_val (pe_callB call_isi rfl (T.free "isinstance" (by decide +kernel)) (by decide +kernel) (pa_cons (pe_ix ix_tup (pv 0) pe_int (fun _ _ => rfl)) (pa_cons (pe_bltn rfl (T.free "str" (by decide +kernel)) (by decide +kernel) (v := .ty "str") rfl) pa_nil))))))))) (pss_one (ps_ret pe_bl)) pss_nil)
    (pss_cons (ps_set (i := 3) nd rfl (Or.inl rfl) (pe_kget2 (pe_glob rfl gS (v := .ref aS) rfl) (pe_ix ix_tup (pv 0) pe_int (fun _ _ => rfl)) pe_non ⟨rfl, rfl, rfl, rfl⟩))
    (pss_cons (ps_if (PW.pt (pw_or (pt_cmpR op_isN (pv 3) pe_non (nomark _)) (pw_or1 (pt_cmpR op_ne (pe_callB call_len_seq rfl (T.free "len" (by decide +kernel)) PySem.boot_len (pa_cons (pv 0) pa_nil)) (pe_op op_add (pe_callB call_len_seq rfl (T.free "len" (by decide +kernel)) PySem.boot_len (pa_cons (pv 3) pa_nil)) pe_int) (nomark _))))) (pss_one (ps_ret pe_bl)) pss_nil)
    (pss_one (ps_ret (pe_callB (cr_all rfl) rfl (T.free "all" (by decide +kernel)) (by decide +kernel) (pa_cons
      (pe_lc (own := [("part", 4), ("kind", 5)]) (g := gTup K 2 (gCons (gName 4) (gCons (gName 5) gNil))) (tt := tYes) rfl nd (RZ.pi_zipA rfl (T.free "zip" (by decide +kernel)) (pa_cons (pe_slice sl_tupA (pv 0) (po_some pe_int) po_none) (pa_cons (pv 3) pa_nil))) (blkOk_by (N := nmCanBe) (sc := defScope s_can_be) (by decide +kernel))
        (fun _ _ _ _ _ => pg_tup rfl (pgs_cons (pg_name (i := 4) nd rfl (Or.inl rfl)) (pgs_cons (pg_name (i := 5) nd rfl (Or.inl rfl)) pgs_nil))) (fun _ _ _ _ _ => pts_nil)
        (fun _ _ _ _ _ => pcall DF GF hr (pa_cons (pv 4) (pa_cons (pv 5) (pa_cons (pv 1) (pa_cons (pv 2) pa_nil)))))) pa_nil)))))), ?_⟩
  obtain ⟨a, nm, rest, rfl, ea⟩ := hs.tag
  obtain ⟨kinds, kv, S⟩ := hs.shape ho ea
  obtain ⟨t, kd, qt⟩ := hS _ S.mem
  have lrk := Paired.length S.fit
  have lk3 : kinds.length ≤ 3 := by
    have z : ∀ p ∈ shapesL, p.2.length ≤ 3 := by decide +kernel
    exact z _ S.mem
  refine seq_if (b := false || (false || false)) (ev_or (b := false) (c := false || false) (fun Q q => ⟨_, rfl, _, .ty "tuple", .type "tuple", .type "tuple", true, rfl, .ty _, .base (.tup ea), kit_ty (by decide +kernel), _, rfl, q⟩)
    (ev_or (b := false) (c := false) (fun Q q => ⟨_, rfl, true, .inr (.inl ⟨_, SqT.of ea, rfl⟩), q⟩) (fun Q q => ⟨_, rfl, a, _, 0, .str nm, rfl, rfl, SqT.of ea, at0, _, .ty "str", .type "str", .type "str", true, rfl, .ty _, .base (.str nm), kit_ty (by decide +kernel), _, rfl, q⟩))) (fun z => nomatch z) (fun _ => ?_)
  refine ⟨aS, rfl, low, ⟨_, _, kd⟩, _, rfl, a, _, 0, .str nm, rfl, rfl, SqT.of ea, at0, nm, rfl, .inl ⟨_, kd, ?_⟩⟩
  dsimp only [gName]
  refine seq_if (b := false || false) (ev_or (b := false) (c := false) (fun Q q => ⟨_, rfl, rfl, _, rfl, by rw [decide_eq_false (fun z => nomatch z)]; exact q⟩)
    (fun Q q => ⟨_, rfl, a, _, rfl, .inr (SqT.of ea), _, rfl, t, _, rfl, .inr (qt _), _, _, rfl, rfl, rfl, _, rfl, (by
      have e : V.int (((V.str nm :: rest).length : Nat) : Int) = V.int (((kinds.map V.str).length : Nat) + 1 : Int) := by
        rw [List.length_cons, List.length_map, lrk]
        rfl
      rw [decide_eq_true e]
      exact q)⟩)) (fun z => nomatch z) (fun _ => ?_)
  refine ⟨_, rfl, 1, rfl, a, _, rfl, SqT.of ea, fun z => absurd z (not_whole (Nat.succ_pos _)), fun _ p hp => ?_⟩
  have s1 : Same H (upd H p (.tup (cutV (V.str nm :: rest) (some 1) none))) := Same.new hp
  have ec : cutV (V.str nm :: rest) (some 1) none = rest := cut_from (V.str nm :: rest) 1
  rw [ec] at s1 ⊢
  refine ⟨_, rfl, p, t, rest, kinds.map V.str, rfl, .inr ⟨SqT.of upd_same, qt _, fun Dd hD => ?_⟩⟩
  have s2 := s1.trans (Same.new (o := .lst []) hD)
  have ep : upd H p (.tup rest) p = some (.tup rest) := upd_same
  refine lc_it (walk_zipT (K := K) (a := p) (b := t) (xs := rest) (ys := kinds.map V.str) (n := rest.length) (by rw [List.length_map]; omega)) (fun j H'' => H'' Dd = some (.lst ((List.replicate j true).map V.bl)) ∧ Same (upd H p (.tup rest)) H'') ⟨upd_same, Same.new hD⟩ (fun j H'' _ ⟨_, s3⟩ => ⟨SqT.of (s3 _ _ ep), qt _⟩) ?_ ?_
  · rintro j x H2 H3 hj ⟨eD, s3⟩ ⟨T1, x1, x2, rfl, hT1, rfl, ex1, ex2⟩
    obtain ⟨k', ek', rfl⟩ : ∃ k', kinds[j]? = some k' ∧ x2 = V.str k' := by
      have ex2 : (kinds.map V.str)[j]? = some x2 := ex2
      rw [List.getElem?_map] at ex2
      cases e : kinds[j]? with
      | none => rw [e] at ex2; cases ex2
      | some k' => rw [e] at ex2; exact ⟨k', rfl, (Option.some.inj ex2).symm⟩
    obtain ⟨x', ex', hf⟩ := paired_get' S.fit ek'
    have ex1 : rest[j]? = some x1 := ex1
    rw [ex1] at ex'
    cases ex'
    have s4 := (s1.trans s3).trans (Same.new (o := .tup [x1, .str k']) hT1)
    refine ⟨T1, _, rfl, SqT.of upd_same, rfl, _, _, rfl, _, _, rfl, rfl, rfl, _, rfl, _, rfl, _, rfl, _, rfl, x1, k', rfl, hf.keep s4, _, Same.new hT1 _ _ eD, ?_, ?_, ?_⟩
    · rw [List.length_map, List.length_replicate]
      exact small1000 (by omega)
    · rw [upd_same, List.replicate_succ']
      rw [List.map_append]
      rfl
    · exact fun b o e => by
        rw [upd_ne (ne_of_none e hD)]
        exact (s3.trans (Same.new hT1)) b o e
  · rintro H'' ⟨eD, s3⟩
    refine ⟨Dd, _, rfl, SqL.of eD, ?_⟩
    rw [show (List.replicate rest.length true).all id = true by rw [List.all_replicate]; simp]
    exact q _ (s1.trans s3)
end
end MS
end
section
set_option maxRecDepth 100000
set_option maxHeartbeats 4000000
namespace MS
open PySem L2
theorem cat_at {K : PySem.W.Frag} {σ : St} {H : Hp} {wr : Addr} {wh : List Nat} {j i : Nat} {te : TE} {Q : VK} (s5 : σ[i]? = some (some (.ref wr))) (ewr : H wr = some (.tup (natV wh))) (hl : wh.length ≤ 200) (ht : ∀ Q : VK, Q (.int ((j : Nat) : Int)) H → te σ H Q)
    (q : ∀ (wr' : Addr) (H' : Hp), Same H H' → H' wr' = some (.tup (natV (wh ++ [j]))) → Q (.ref wr') H') : tOp (rCatA K) (tVar i) (tTup (tCons te tNil)) σ H Q := by
  refine ⟨_, s5, ht _ ⟨(by show 1 ≤ sizeLine; decide), fun t htn => ⟨wr, t, natV wh, [.int ((j : Nat) : Int)], rfl, rfl, SqT.of (Same.new htn _ _ ewr), SqT.of upd_same, szN (by rw [natV_len]; show wh.length + 1 ≤ 1000; omega), (fun z => ?_), (fun _ z => nomatch z), fun z _ p hp => ?_⟩⟩⟩
  · have z' : wh = [] := List.map_eq_nil_iff.mp z
    subst z'
    exact q t _ (Same.new htn) upd_same
  · exact q p _ ((Same.new htn).trans (Same.new hp)) (by rw [upd_same, natV_snoc])
/-- a place and what stands there -/
def PlR (H : Hp) (x : List Nat × V) (v : V) : Prop := ∃ b q, v = V.ref b ∧ H b = some (.tup [.ref q, x.2]) ∧ H q = some (.tup (natV x.1))
theorem PlR.keep {H H' : Hp} {x : List Nat × V} {v : V} (h : PlR H x v) (k : TupK H H') : PlR H' x v := by
  obtain ⟨b, q, e, h1, h2⟩ := h
  exact ⟨b, q, e, k _ _ h1, k _ _ h2⟩
def placedL (wh : List Nat) (xs : List V) : List (List Nat × V) := xs.zipIdx.map fun p => (wh ++ [p.2], p.1)
def spPlaced : Sp := fun vs H Q _ => ∃ (l pl : Addr) (xs : List V) (wh : List Nat), vs = [.ref l, .ref pl] ∧ H l = some (.lst xs) ∧ H pl = some (.tup (natV wh)) ∧ xs.length ≤ 100 ∧ wh.length ≤ 100 ∧
  ∀ (f : Addr) (pv : List V) (H' : Hp), Same H H' → H f = none → H' f = some (.lst pv) → Paired (PlR H') (placedL wh xs) pv → Q (.ref f) H'
section
variable {P : Program} {w : World} {K : PySem.W.Frag} {mg : Str → Option Value} {base : Heap}
theorem ok_placed (T : PTx w K mg) (D : Def K mg "placed" s_placed ["schemes", "place"]) : FnOk P w K mg base CX0 1 D.f D.fd ["schemes", "place"] spPlaced := by
  have nd := sc_placed.nd
  refine D.ok sc_placed (fun vs H Q E h => ?_) (fun cdv A outer s H vs Q E hr h => ?_)
  · obtain ⟨l, pl, xs, wh, rfl, _⟩ := h
    rfl
  obtain ⟨l, pl, xs, wh, rfl, el, epl, lx, lw, q⟩ := h
  refine ⟨_, pss_one (ps_ret (pe_lc (own := [("at", 2), ("scheme", 3)]) (g := gTup K 2 (gCons (gName 2) (gCons (gName 3) gNil))) (tt := tYes) rfl nd (pi_enum rfl (T.free "enumerate" (by decide +kernel)) (pa_cons (pv 0) pa_nil)) (blkOk_by (N := ["schemes", "place", "at", "scheme"]) (sc := defScope s_placed) (by decide +kernel))
      (fun _ _ _ _ _ => pg_tup rfl (pgs_cons (pg_name (i := 2) nd rfl (Or.inl rfl)) (pgs_cons (pg_name (i := 3) nd rfl (Or.inl rfl)) pgs_nil))) (fun _ _ _ _ _ => pts_nil)
      (fun _ _ _ _ _ => pe_tup (pa_cons (pe_op (r := rCatA K) op_catA (pv 1) (pe_tup (pa_cons (pv 2) pa_nil))) (pa_cons (pv 3) pa_nil))))), ?_⟩
  refine ⟨_, rfl, l, _, rfl, SqL.of el, fun Dd hD => ?_⟩
  have nlD : l ≠ Dd := ne_of_none el hD
  refine lc_it (walk_enum (K := K) (a := l) (xs := xs)) (fun j H'' => ∃ pv, H'' Dd = some (.lst pv) ∧ Paired (PlR H'') (placedL wh (xs.take j)) pv ∧ Same H H'') ⟨[], upd_same, .nil, Same.new hD⟩ (fun j H'' _ ⟨_, _, _, s3⟩ => SqL.of (s3 _ _ el)) ?_ ?_
  · rintro j x H2 H3 hj ⟨pv0, eD, pp, s3⟩ ⟨T1, x1, x2, rfl, hT1, rfl, ex1, ex2⟩
    obtain rfl : V.int ((j : Nat) : Int) = x1 := Option.some.inj ex1
    have ex2 : xs[j]? = some x2 := ex2
    have s4 := s3.trans (Same.new (o := .tup [.int ((j : Nat) : Int), x2]) hT1)
    refine ⟨T1, _, rfl, SqT.of upd_same, rfl, _, _, rfl, _, _, rfl, rfl, rfl, ?_⟩
    refine cat_at (i := 1) (j := j) rfl (s4 _ _ epl) (by omega) (fun Q q => ⟨_, rfl, q⟩) (fun wr' H5 s5 ew => ?_)
    refine ⟨_, rfl, sz2, fun p hp => ?_⟩
    have s6 := (Same.new (o := .tup [.int ((j : Nat) : Int), x2]) hT1).trans (s5.trans (Same.new (o := .tup [.ref wr', x2]) hp))
    have eD6 := s6 _ _ eD
    have lpv := Paired.length pp
    have tk : TupK H2 (upd (upd H5 p (.tup [.ref wr', x2])) Dd (.lst (pv0 ++ [.ref p]))) := (Same.tupK s6).trans (TupK.put eD6)
    have npD : p ≠ Dd := fun e => by rw [e] at eD6; rw [upd_same] at eD6; cases eD6
    refine ⟨_, eD6, ?_, _, upd_same, ?_, ?_⟩
    · have : (placedL wh (xs.take j)).length ≤ 100 := by
        unfold placedL
        rw [List.length_map, List.length_zipIdx, List.length_take]
        omega
      exact small1000 (by omega)
    · have e : placedL wh (xs.take (j + 1)) = placedL wh (xs.take j) ++ [(wh ++ [j], x2)] := by
        have hjl := (List.getElem?_eq_some_iff.mp ex2).1
        unfold placedL
        rw [List.take_succ, ex2]
        simp [List.zipIdx_append, List.length_take, Nat.min_eq_left (Nat.le_of_lt hjl)]
      rw [e]
      refine paired_app (paired_imp pp fun _ _ h => PlR.keep h tk) (.cons ⟨p, wr', rfl, by rw [upd_ne npD, upd_same], ?_⟩ .nil)
      exact TupK.put eD6 _ _ (Same.new hp _ _ ew)
    · intro b o e
      rw [upd_ne (ne_of_none e hD)]
      exact (s3.trans s6) b o e
  · rintro H'' ⟨pv0, eD, pp, s3⟩
    rw [List.take_length] at pp
    exact q Dd pv0 H'' s3 hD eD pp
end
/-- the one row of a step, or none -/
def spRowAt : Sp := fun vs H Q _ => ∃ (o : Option Nat) (p : Nat) (wr : Addr) (wh : List Nat), vs = [(match o with | some i => V.int ((i : Nat) : Int) | none => V.non), .int ((p : Nat) : Int), .ref wr] ∧ H wr = some (.tup (natV wh)) ∧
  ∀ (f : Addr) (rv : List V) (H' : Hp), Same H H' → H f = none → H' f = some (.lst rv) → Paired (RowR H') (match o with | some i => [(i, p, wh)] | none => []) rv → Q (.ref f) H'
section
variable {P : Program} {w : World} {K : PySem.W.Frag} {mg : Str → Option Value} {base : Heap}
end
end MS
end
section
set_option maxRecDepth 100000
set_option maxHeartbeats 4000000
namespace MS
open PySem L2
/-! ### all schemes in one -/
def pre : Nat → Sch → List Sch
  | 0, _ => []
  | d + 1, s => s :: ((kidsOf s).map (pre d)).flatten
theorem pre_succ (d : Nat) (s : Sch) : pre (d + 1) s = s :: ((kidsOf s).map (pre d)).flatten := rfl
theorem ok_kids {i M d : Nat} {s : Sch} (o : OkS i M (d + 1) s) : ∀ x ∈ kidsOf s, OkS i M d x := by
  cases s with
  | step w p => exact fun _ h => nomatch h
  | all k => exact o.2.2
  | best k => exact o.2.2
  | most n s => intro x h; rw [List.mem_singleton.mp h]; exact o.2
  | half s => intro x h; rw [List.mem_singleton.mp h]; exact o
  | seen w s => intro x h; rw [List.mem_singleton.mp h]; exact o.2
  | behind w s => intro x h; rw [List.mem_singleton.mp h]; exact o.2
  | carry s => intro x h; rw [List.mem_singleton.mp h]; exact o
  | fin w p s => intro x h; rw [List.mem_singleton.mp h]; exact o.2
  | use n => exact fun _ h => nomatch h
theorem sz_kids (d : Nat) (s : Sch) : sz (d + 1) s = 1 + ((kidsOf s).map (sz d)).sum := by
  cases s <;> simp [sz, kidsOf]
/-- what a scheme is itself -/
def ownE (c : Nat → Int) : Sch → Int
  | .step _ _ => 1
  | .fin _ _ _ => 1
  | .use n => c n
  | _ => 0
def ownW (c : Nat → Int) : Sch → Int
  | .seen _ _ => 1
  | .behind _ _ => 1
  | .use n => c n
  | _ => 0
theorem er_kids (c : Nat → Int) (d : Nat) (s : Sch) : er c (d + 1) s = ownE c s + ((kidsOf s).map (er c d)).sum := by
  cases s <;> simp [er, ownE, kidsOf]
theorem wr_kids (c : Nat → Int) (d : Nat) (s : Sch) : wr c (d + 1) s = ownW c s + ((kidsOf s).map (wr c d)).sum := by
  cases s <;> simp [wr, ownW, kidsOf]
theorem flat_lenEq {f : Sch → List Sch} {g : Sch → Int} : ∀ ks : List Sch, (∀ s ∈ ks, ((f s).length : Int) = g s) → (((ks.map f).flatten).length : Int) = (ks.map g).sum
  | [], _ => rfl
  | s :: r, h => by
    rw [List.map_cons, List.flatten_cons, List.length_append, List.map_cons, List.sum_cons]
    have := h s List.mem_cons_self
    have := flat_lenEq r fun s hs => h s (List.mem_cons_of_mem _ hs)
    omega
theorem flat_sumEq {f : Sch → List Sch} {o g : Sch → Int} : ∀ ks : List Sch, (∀ s ∈ ks, ((f s).map o).sum = g s) → (((ks.map f).flatten).map o).sum = (ks.map g).sum
  | [], _ => rfl
  | s :: r, h => by
    rw [List.map_cons, List.flatten_cons, List.map_append, List.sum_append, List.map_cons, List.sum_cons, h s List.mem_cons_self, flat_sumEq r fun s hs => h s (List.mem_cons_of_mem _ hs)]
theorem pre_len {i M : Nat} : ∀ (d : Nat) (s : Sch), OkS i M d s → ((pre d s).length : Int) = sz d s
  | 0, _, o => by cases o
  | d + 1, s, o => by
    rw [pre_succ, List.length_cons, sz_kids]
    have := flat_lenEq (f := pre d) (g := sz d) (kidsOf s) fun x hx => pre_len d x (ok_kids o x hx)
    omega
theorem pre_er {i M : Nat} (c : Nat → Int) : ∀ (d : Nat) (s : Sch), OkS i M d s → ((pre d s).map (ownE c)).sum = er c d s
  | 0, _, o => by cases o
  | d + 1, s, o => by
    rw [pre_succ, List.map_cons, List.sum_cons, er_kids, flat_sumEq (f := pre d) (g := er c d) (kidsOf s) fun x hx => pre_er c d x (ok_kids o x hx)]
theorem pre_wr {i M : Nat} (c : Nat → Int) : ∀ (d : Nat) (s : Sch), OkS i M d s → ((pre d s).map (ownW c)).sum = wr c d s
  | 0, _, o => by cases o
  | d + 1, s, o => by
    rw [pre_succ, List.map_cons, List.sum_cons, wr_kids, flat_sumEq (f := pre d) (g := wr c d) (kidsOf s) fun x hx => pre_wr c d x (ok_kids o x hx)]
/-- a scheme that was found -/
def FoundR (H : Hp) (i M : Nat) (s : Sch) (v : V) : Prop := ∃ d, SAt H (d + 1) s v ∧ OkS i M (d + 1) s
theorem FoundR.keep {H H' : Hp} {i M : Nat} {s : Sch} {v : V} (h : FoundR H i M s v) (k : TupK H H') : FoundR H' i M s v := by
  obtain ⟨d, h1, h2⟩ := h
  exact ⟨d, SAt.keep k _ _ _ h1, h2⟩
/-- a scheme that waits, behind its place -/
def WaitR (H : Hp) (i M : Nat) (x : List Nat × Sch) (v : V) : Prop := ∃ b q u, v = V.ref b ∧ H b = some (.tup [.ref q, u]) ∧ H q = some (.tup (natV x.1)) ∧ x.1.length ≤ 4 ∧ SAt H (5 - x.1.length) x.2 u ∧ OkS i M (5 - x.1.length) x.2
theorem WaitR.keep {H H' : Hp} {i M : Nat} {x : List Nat × Sch} {v : V} (h : WaitR H i M x v) (k : TupK H H') : WaitR H' i M x v := by
  obtain ⟨b, q, u, e, h1, h2, h3, h4, h5⟩ := h
  exact ⟨b, q, u, e, k _ _ h1, k _ _ h2, h3, SAt.keep k _ _ _ h4, h5⟩
def restOf (L : List (List Nat × Sch)) : List Sch := (L.map fun p => pre (5 - p.1.length) p.2).flatten
def waitsOf (wh : List Nat) (n : Nat) (ks : List Sch) : List (List Nat × Sch) := (ks.zipIdx n).map fun p => (wh ++ [p.2], p.1)
theorem rest_waits {wh : List Nat} {d : Nat} (hd : 5 - (wh.length + 1) = d) : ∀ (ks : List Sch) (n : Nat), restOf (waitsOf wh n ks) = (ks.map (pre d)).flatten
  | [], _ => rfl
  | s :: r, n => by
    have ih := rest_waits hd r (n + 1)
    unfold restOf waitsOf at ih ⊢
    rw [List.zipIdx_cons, List.map_cons, List.map_cons, List.flatten_cons, ih, List.map_cons, List.flatten_cons]
    show pre (5 - (wh ++ [n]).length) s ++ _ = _
    rw [List.length_append, List.length_singleton, hd]
theorem rest_app (a b : List (List Nat × Sch)) : restOf (a ++ b) = restOf a ++ restOf b := by
  unfold restOf
  rw [List.map_append, List.flatten_append]
theorem waits_at {H : Hp} {i M d : Nat} {wh : List Nat} (hd : 5 - (wh.length + 1) = d) : ∀ {ks : List Sch} {kv : List V} (n : Nat), Paired (SAt H d) ks kv → (∀ s ∈ ks, OkS i M d s) → ∀ {pv : List V}, Paired (PlR H) ((kv.zipIdx n).map fun p => (wh ++ [p.2], p.1)) pv → Paired (WaitR H i M) (waitsOf wh n ks) pv
  | _, _, n, .nil, _, _, .nil => .nil
  | s :: ks, v :: kv, n, .cons h t, ok, pv, hp => by
    rw [List.zipIdx_cons, List.map_cons] at hp
    cases hp with
    | @cons _ p0 _ pr h0 hr =>
      obtain ⟨b, q, e, h1, h2⟩ := h0
      have o := ok s List.mem_cons_self
      have hd0 : d ≠ 0 := fun z => by rw [z] at o; cases o
      have el : (wh ++ [n]).length = wh.length + 1 := by rw [List.length_append, List.length_singleton]
      show Paired (WaitR H i M) ((wh ++ [n], s) :: waitsOf wh (n + 1) ks) _
      refine .cons ⟨b, q, v, e, h1, h2, ?_, ?_, ?_⟩ (waits_at hd (n + 1) t (fun s hs => ok s (List.mem_cons_of_mem _ hs)) hr)
      · show (wh ++ [n]).length ≤ 4
        rw [el]
        omega
      · show SAt H (5 - (wh ++ [n]).length) s v
        rw [el, hd]
        exact h
      · show OkS i M (5 - (wh ++ [n]).length) s
        rw [el, hd]
        exact o
def SIn (K : PySem.W.Frag) (M i : Nat) (s : Sch) (pa f : Addr) (H : Hp) (m : Nat) (σ : St) (H' : Hp) : Prop :=
  ∃ (wl : Addr) (done : List Sch) (L : List (List Nat × Sch)) (fv wv : List V) (v4 v5 : Option V), σ = [some (.ref pa), some (.int ((i : Nat) : Int)), some (.ref f), some (.ref wl), v4, v5] ∧ H' f = some (.lst fv) ∧ H' wl = some (.lst wv) ∧
    Paired (FoundR H' i M) done fv ∧ Paired (WaitR H' i M) L wv ∧ done ++ restOf L = pre 5 s ∧ L.length ≤ 1000 ∧ m = (restOf L).length ∧ Same H H'
def spSchemesIn (ps : List Sch) (i : Nat) : Sp := fun vs H Q _ => ∃ (pa : Addr) (pv : List V) (s : Sch), vs = [.ref pa, .int ((i : Nat) : Int)] ∧ H pa = some (.tup pv) ∧ Paired (SAt H 5) ps pv ∧ ps[i]? = some s ∧ OkS i ps.length 5 s ∧ sz 5 s ≤ 12 ∧
  ∀ (f : Addr) (fv : List V) (H' : Hp), Same H H' → H f = none → H' f = some (.lst fv) → Paired (FoundR H' i ps.length) (pre 5 s) fv → Q (.ref f) H'
theorem paired_get2 {α β : Type} {R : α → β → Prop} : ∀ {xs : List α} {ys : List β}, Paired R xs ys → ∀ {k : Nat} {x : α}, xs[k]? = some x → ∃ y, ys[k]? = some y ∧ R x y
  | _, _, .nil, _, _, h => by simp at h
  | _, _, .cons r t, 0, _, h => by
    simp at h
    subst h
    exact ⟨_, rfl, r⟩
  | _, _, .cons _ t, k + 1, x, h => by
    obtain ⟨y, e, r⟩ := paired_get2 t (k := k) (x := x) (by simpa using h)
    exact ⟨y, by simpa using e, r⟩
theorem rest_len_le : ∀ {H : Hp} {i M : Nat} {L : List (List Nat × Sch)} {wv : List V}, Paired (WaitR H i M) L wv → L.length ≤ (restOf L).length
  | _, _, _, _, _, .nil => Nat.le_refl _
  | H, i, M, x :: L, _, .cons h t => by
    have ih := rest_len_le t
    obtain ⟨b, q, u, e, h1, h2, h3, h4, h5⟩ := h
    obtain ⟨d, hd⟩ : ∃ d, 5 - x.1.length = d + 1 := ⟨4 - x.1.length, by omega⟩
    show (x :: L).length ≤ (restOf ([x] ++ L)).length
    rw [rest_app, List.length_append, List.length_cons]
    have : 1 ≤ (restOf [x]).length := by
      show 1 ≤ ((pre (5 - x.1.length) x.2) ++ []).length
      rw [hd, pre_succ, List.append_nil, List.length_cons]
      omega
    omega
section
variable {P : Program} {w : World} {K : PySem.W.Frag} {mg : Str → Option Value} {base : Heap}
theorem ok_schemes_in {ps : List Sch} {i : Nat} (T : PTx w K mg) (D : Def K mg "schemes_in" s_schemes_in ["paper", "number"]) (DB : Def K mg "can_be" s_can_be ["thing", "number", "many"]) (DF : Def K mg "fits" s_fits psFits) (DN : Def K mg "is_number" s_is_number ["thing"])
    (DI : Def K mg "within" s_within ["scheme"]) (DP : Def K mg "placed" s_placed ["schemes", "place"]) : FnOk P w K mg base CX0 4 D.f D.fd ["paper", "number"] (spSchemesIn ps i) := by
  have GB : FnOk P w K mg base CX0 3 DB.f DB.fd ["thing", "number", "many"] (spCanBe i ps.length) := ok_can_be T DB DF DN
  have GI : FnOk P w K mg base CX0 1 DI.f DI.fd ["scheme"] spWithin := ok_within T DI
  have GP : FnOk P w K mg base CX0 1 DP.f DP.fd ["schemes", "place"] spPlaced := ok_placed T DP
  obtain ⟨tS, gS⟩ := T.mostInScheme
  obtain ⟨tL, gL⟩ := T.longest
  have nd := sc_schemes_in.nd
  refine D.ok sc_schemes_in (fun vs H Q E h => ?_) (fun cdv A outer s H vs Q E hr h => ?_)
  · obtain ⟨pa, pv, s, rfl, _⟩ := h
    rfl
  obtain ⟨pa, pv0, sc, rfl, epv, pp, es, ho, hz, q⟩ := h
  have hr1 : Room 1 _ := hr.mono (by decide)
  refine ⟨_, pss_cons (ps_set (i := 2) nd rfl (Or.inl rfl) (pe_lst pa_nil))
    (pss_cons (ps_set (i := 3) nd rfl (Or.inl rfl) (pe_lst (pa_cons (pe_tup (pa_cons (pe_tup pa_nil) (pa_cons (pe_ix ix_tup (pv 0) (pv 1) (fun _ _ => rfl)) pa_nil))) pa_nil)))
    (pss_cons (ps_while PassesOwn.never (pt_truth (pv 3) (by intro _; rfl))
      (pss_cons (ps_asg (pe_ix ix_list (pv 3) pe_int (fun _ _ => rfl)) (pg_tup (by rfl) (pgs_cons (pg_name (i := 4) nd rfl (Or.inl rfl)) (pgs_cons (pg_name (i := 5) nd rfl (Or.inl rfl)) pgs_nil))))
      (pss_cons (ps_if (PW.pt (pw_or (pt_cmpR op_eq (pe_callB call_len_seq rfl (T.free "len" (by decide +kernel)) PySem.boot_len (pa_cons (pv 2) pa_nil)) (pe_glob rfl gS (v := .int 12) ⟨_, rfl⟩) (nomark _)) (pw_or1 (pt_cmpR op_gt (pe_callB call_len_seq rfl (T.free "len" (by decide +kernel)) PySem.boot_len (pa_cons (pv 4) pa_nil)) (pe_glob rfl gL (v := .int 4) ⟨_, rfl⟩) (nomark _))))) (pss_one ps_never) pss_nil)
      (pss_cons (ps_if (pt_not (pt_val (pcall DB GB hr (pa_cons (pv 5) (pa_cons (pv 1) (pa_cons (pe_callB call_len_seq rfl (T.free "len" (by decide +kernel)) PySem.boot_len (pa_cons (pv 0) pa_nil)) pa_nil)))))) (pss_one ps_never) pss_nil)
      (pss_cons (ps_expr (pe_bm PySem.F.plainAttrs_list PySem.F.slot_list_append PySem.F.type_list_append mt_append (pv 2) (pa_cons (pv 5) pa_nil)))
      (pss_one (ps_set (i := 3) nd rfl (Or.inl rfl) (pe_op op_cat (pcall DP GP hr1 (pa_cons (pcall DI GI hr1 (pa_cons (pv 5) pa_nil)) (pa_cons (pv 4) pa_nil))) (pe_slice sl_list (pv 3) (po_some pe_int) po_none)))))))))
    (pss_one (ps_ret (pv 2))))), ?_⟩
  have hM := Paired.length pp
  have hlen : ((pre 5 sc).length : Int) = sz 5 sc := pre_len 5 sc ho
  obtain ⟨v0, ev0, hs0⟩ := paired_get2 pp es
  refine ⟨Nat.zero_le _, fun f hf => ?_⟩
  have s1 : Same H (upd H f (.lst [])) := Same.new hf
  dsimp only [gName]
  refine ⟨Nat.zero_le _, fun t0 ht0 => ?_⟩
  have s2 := s1.trans (Same.new (o := .tup []) ht0)
  refine ⟨_, rfl, _, rfl, pa, _, _, v0, rfl, rfl, SqT.of (s2 _ _ epv), atI_nat ev0, sz2, fun t1 ht1 => ?_⟩
  have s3 := s2.trans (Same.new (o := .tup [.ref t0, v0]) ht1)
  refine ⟨szN (by show 1 ≤ 1000; decide), fun wl hwl => ?_⟩
  have s4 := s3.trans (Same.new (o := .lst [.ref t1]) hwl)
  dsimp only [gName]
  have b1 := Same.new (o := .lst [V.ref t1]) hwl
  have b2 := (Same.new (o := .tup [.ref t0, v0]) ht1).trans b1
  have b3 := (Same.new (o := .tup []) ht0).trans b2
  have R0 : restOf [(([] : List Nat), sc)] = pre 5 sc := by show pre 5 sc ++ [] = _; rw [List.append_nil]
  refine ⟨fun m σ H' => SIn K ps.length i sc pa f H m σ H', ⟨(restOf [([], sc)]).length, wl, [], [([], sc)], [], [.ref t1], none, none, rfl, b3 _ _ upd_same, upd_same, .nil, .cons ⟨t1, t0, v0, rfl, b1 _ _ upd_same, b2 _ _ upd_same, by show 0 ≤ 4; decide, SAt.keep (Same.tupK s4) _ _ _ hs0, ho⟩ .nil, R0, by show 1 ≤ 1000; decide, rfl, s4⟩, ?_⟩
  rintro m σ H1 ⟨wl1, done, L, fv, wv, v4, v5, rfl, ef, ewl, pf, pw, eall, hL, em, sm⟩
  have lall := congrArg List.length eall
  rw [List.length_append] at lall
  have hrl := rest_len_le pw
  have lfv := Paired.length pf
  have lwv := Paired.length pw
  refine ⟨_, rfl, !wv.isEmpty, .inl ⟨_, SqL.of ewl, rfl⟩, ?_⟩
  cases pw with
  | nil =>
    have e : done = pre 5 sc := by rw [← eall]; show done = done ++ []; rw [List.append_nil]
    rw [e] at pf
    exact iteF ⟨_, rfl, q f fv H1 sm hf ef pf⟩
  | @cons x vb L' wr hx hrest =>
    obtain ⟨b, qa, u, rfl, eb, eqa, hx4, hsx, hox⟩ := hx
    obtain ⟨wh, s'⟩ := x
    have hx4 : wh.length ≤ 4 := hx4
    obtain ⟨d, hd⟩ : ∃ d, 5 - wh.length = d + 1 := ⟨4 - wh.length, by omega⟩
    have hsx : SAt H1 (5 - wh.length) s' u := hsx
    have hox : OkS i ps.length (5 - wh.length) s' := hox
    rw [hd] at hsx hox
    have eR : restOf ((wh, s') :: L') = s' :: (((kidsOf s').map (pre d)).flatten ++ restOf L') := by
      show pre (5 - wh.length) s' ++ restOf L' = _
      rw [hd, pre_succ]
      rfl
    rw [eR] at eall lall em hrl
    rw [List.length_cons] at lall em
    have hrl' : L'.length ≤ 12 := by
      rw [List.length_cons, List.length_cons] at hrl
      omega
    refine iteT ⟨fun σ' H' => ∃ m', m' < m ∧ SIn K ps.length i sc pa f H m' σ' H', fun _ _ z => z, ?_⟩
    refine ⟨_, rfl, wl1, _, 0, .ref b, rfl, rfl, SqL.of ewl, at0, b, _, rfl, SqT.of eb, rfl, _, _, rfl, _, _, rfl, rfl, ?_⟩
    dsimp only [gName]
    refine seq_if (b := false || false) (ev_or (b := false) (c := false) (fun Q q => ⟨_, rfl, f, _, rfl, .inl (SqL.of ef), rfl, _, rfl, by
        rw [decide_eq_false (fun z => by have z2 := V.int.inj z; omega)]
        exact q⟩) (fun Q q => ⟨_, rfl, qa, _, rfl, .inr (SqT.of eqa), _, _, rfl, rfl, _, rfl, by
        rw [decide_eq_false (show ¬ ((4 : Int) < (((natV wh).length : Nat) : Int)) by rw [natV_len]; omega)]
        exact q⟩)) (fun z => nomatch z) (fun _ => ?_)
    refine seq_new (b := false) (fun Q q => ⟨_, rfl, _, rfl, _, rfl, pa, _, rfl, .inr (SqT.of (sm _ _ epv)), u, s', d, by rw [hM]; rfl, hsx, hox, fun H3 s3 => ⟨_, rfl, q H3 s3⟩⟩) (fun z => nomatch z) (fun _ H3 s3 => ?_)
    have ef3 := s3 _ _ ef
    refine ⟨_, rfl, .inl ⟨rfl, _, SqL.of ef3⟩, _, rfl, f, _, _, rfl, rfl, ef3, small1000 (by omega), ?_⟩
    have t4 : TupK H1 (upd H3 f (.lst (fv ++ [u]))) := (Same.tupK s3).trans (TupK.put ef3)
    have ef4 : upd H3 f (.lst (fv ++ [u])) f = some (.lst (fv ++ [u])) := upd_same
    have nfw : wl1 ≠ f := fun z => by
      rw [z, ef] at ewl
      have e2 := HO.lst.inj (Option.some.inj ewl)
      subst e2
      cases pf with
      | @cons s9 v9 _ _ h9 _ =>
        obtain ⟨d9, h9, _⟩ := h9
        obtain ⟨a9, nm9, r9, e9, ea9⟩ := h9.tag
        cases e9
        rw [eb] at ea9
        cases ea9
    have ewl4 : upd H3 f (.lst (fv ++ [u])) wl1 = some (.lst (V.ref b :: wr)) := by rw [upd_ne nfw]; exact s3 _ _ ewl
    have sm4 : Same H (upd H3 f (.lst (fv ++ [u]))) := Same.newer (sm.trans s3) hf
    generalize hH4 : upd H3 f (.lst (fv ++ [u])) = H4 at t4 ef4 ewl4 sm4 ⊢
    refine ⟨_, rfl, u, s', i, ps.length, d, rfl, SAt.keep t4 _ _ _ hsx, hox, fun l kv hl at_ => ?_⟩
    have lkv := Paired.length at_
    have lkf := kids_few hox
    have s5 := Same.new (o := .lst kv) hl
    have t5 := t4.trans (Same.tupK s5)
    refine ⟨_, rfl, l, qa, kv, wh, rfl, upd_same, t5 _ _ eqa, by omega, by omega, fun g pv' H6 s6 hg eg pp6 => ?_⟩
    have s56 := s5.trans s6
    refine ⟨_, rfl, 1, rfl, wl1, _, rfl, SqL.of (s56 _ _ ewl4), fun p hp => ?_⟩
    have ec : cutV (V.ref b :: wr) (some 1) none = wr := cut_from (V.ref b :: wr) 1
    rw [ec]
    have ngp : g ≠ p := ne_of_none eg hp
    have lpv := Paired.length pp6
    have lpl : (placedL wh kv).length = kv.length := by unfold placedL; rw [List.length_map, List.length_zipIdx]
    have lcat : pv'.length + wr.length ≤ 1000 := by
      have := Paired.length hrest
      omega
    refine ⟨g, p, _, _, rfl, rfl, by rw [upd_ne ngp]; exact eg, upd_same, szN lcat, fun r hr => ?_⟩
    have s7 := (s56.trans (Same.new (o := .lst wr) hp)).trans (Same.new (o := .lst (pv' ++ wr)) hr)
    have s67 := (s6.trans (Same.new (o := .lst wr) hp)).trans (Same.new (o := .lst (pv' ++ wr)) hr)
    have t6 := (Same.new (o := .lst wr) hp).trans (Same.new (o := .lst (pv' ++ wr)) hr)
    dsimp only [gName]
    have hd' : 5 - (wh.length + 1) = d := by omega
    have tk7 := t4.trans (Same.tupK s7)
    refine ⟨(restOf (waitsOf wh 0 (kidsOf s') ++ L')).length, ?_, r, done ++ [s'], waitsOf wh 0 (kidsOf s') ++ L', fv ++ [u], pv' ++ wr, _, _, rfl, s7 _ _ ef4, upd_same, ?_, ?_, ?_, ?_, rfl, sm4.trans s7⟩
    · rw [rest_app, rest_waits hd']
      omega
    · exact paired_app (paired_imp pf fun _ _ h => FoundR.keep h tk7) (.cons ⟨d, SAt.keep tk7 _ _ _ hsx, hox⟩ .nil)
    · refine paired_app ?_ (paired_imp hrest fun _ _ h => WaitR.keep h tk7)
      exact waits_at hd' 0 (paired_imp at_ fun _ _ h => SAt.keep (Same.tupK (s5.trans s67)) _ _ _ h) (ok_kids hox) (paired_imp pp6 fun _ _ h => PlR.keep h (Same.tupK t6))
    · rw [rest_app, rest_waits hd', ← eall]
      simp
    · rw [List.length_append]
      unfold waitsOf
      rw [List.length_map, List.length_zipIdx]
      omega
end
end MS
end
section
set_option maxRecDepth 100000
set_option maxHeartbeats 4000000
namespace MS
open PySem L2
/-! ### how many of some names -/
def rGetL (K : PySem.W.Frag) : V → V → Hp → VK → Prop := fun x y H Q => ∃ p xs i v, x = .ref p ∧ y = .int i ∧ SqL K H p xs ∧ 0 ≤ i ∧ xs[i.toNat]? = some v ∧ Q v H
theorem pget_list {X : Cx} : PGet X (rGetL X.K) := by
  intro pins s σ H o i ov iv Q I ro ri h
  obtain ⟨p, xs, k, v, rfl, rfl, hq, h0, he, q⟩ := h
  cases ro
  obtain ⟨t, rfl⟩ := ri
  obtain ⟨its, r, pl, hz⟩ := I.list hq
  obtain ⟨w, ew, rw'⟩ := r.get he
  have hl := r.length
  have hn := line63
  have hk := (List.getElem?_eq_some_iff.mp he).1
  exact PyProof.Rows.getItem_listL pl.isList h0 (by omega) ew ⟨v, H, I, rw', q⟩
theorem ix_nat {n k : Nat} (h : k < n) : ixN n ((k : Nat) : Int) = some k := by
  unfold ixN
  rw [if_pos (by omega), if_pos (by omega)]
  congr 1
def own (E : Bool) (c : Nat → Int) (s : Sch) : Int := match E with
  | true => ownE c s
  | false => ownW c s
def namesV (E : Bool) : List V := match E with
  | true => [.str "step", .str "end"]
  | false => [.str "seen", .str "behind"]
theorem names_flat (E : Bool) : (namesV E).all flatV = true := by cases E <;> rfl
theorem own_tag {H : Hp} {d : Nat} {s : Sch} {a : Addr} {nm : Str} {rest : List V} (h : SAt H (d + 1) s (.ref a)) (ea : H a = some (.tup (.str nm :: rest))) :
    (∃ n, s = .use n ∧ nm = "use" ∧ rest = [.int ((n : Nat) : Int)]) ∨ ((nm == "use") = false ∧ ∀ E c, own E c s = if inV (.str nm) (namesV E) = true then 1 else 0) := by
  have inj : ∀ {a' : Addr} {nm' : Str} {rest' : List V}, (V.ref a = V.ref a') → H a' = some (.tup (.str nm' :: rest')) → nm' = nm ∧ rest' = rest := fun e h => by
    cases e
    rw [ea] at h
    cases h
    exact ⟨rfl, rfl⟩
  cases s with
  | step x p =>
    obtain ⟨a', e, h⟩ := h
    obtain ⟨rfl, rfl⟩ := inj e h
    refine .inr ⟨by decide +kernel, fun E c => ?_⟩
    cases E
    · show (0 : Int) = if inV (.str "step") [.str "seen", .str "behind"] = true then 1 else 0
      decide +kernel
    · show (1 : Int) = if inV (.str "step") [.str "step", .str "end"] = true then 1 else 0
      decide +kernel
  | all k =>
    obtain ⟨a', b, vs, e, h, _⟩ := h
    obtain ⟨rfl, rfl⟩ := inj e h
    refine .inr ⟨by decide +kernel, fun E c => ?_⟩
    cases E
    · show (0 : Int) = if inV (.str "all") [.str "seen", .str "behind"] = true then 1 else 0
      decide +kernel
    · show (0 : Int) = if inV (.str "all") [.str "step", .str "end"] = true then 1 else 0
      decide +kernel
  | best k =>
    obtain ⟨a', b, vs, e, h, _⟩ := h
    obtain ⟨rfl, rfl⟩ := inj e h
    refine .inr ⟨by decide +kernel, fun E c => ?_⟩
    cases E
    · show (0 : Int) = if inV (.str "best") [.str "seen", .str "behind"] = true then 1 else 0
      decide +kernel
    · show (0 : Int) = if inV (.str "best") [.str "step", .str "end"] = true then 1 else 0
      decide +kernel
  | most n s =>
    obtain ⟨a', u, e, h, _⟩ := h
    obtain ⟨rfl, rfl⟩ := inj e h
    refine .inr ⟨by decide +kernel, fun E c => ?_⟩
    cases E
    · show (0 : Int) = if inV (.str "most") [.str "seen", .str "behind"] = true then 1 else 0
      decide +kernel
    · show (0 : Int) = if inV (.str "most") [.str "step", .str "end"] = true then 1 else 0
      decide +kernel
  | half s =>
    obtain ⟨a', u, e, h, _⟩ := h
    obtain ⟨rfl, rfl⟩ := inj e h
    refine .inr ⟨by decide +kernel, fun E c => ?_⟩
    cases E
    · show (0 : Int) = if inV (.str "half") [.str "seen", .str "behind"] = true then 1 else 0
      decide +kernel
    · show (0 : Int) = if inV (.str "half") [.str "step", .str "end"] = true then 1 else 0
      decide +kernel
  | seen x s =>
    obtain ⟨a', u, e, h, _⟩ := h
    obtain ⟨rfl, rfl⟩ := inj e h
    refine .inr ⟨by decide +kernel, fun E c => ?_⟩
    cases E
    · show (1 : Int) = if inV (.str "seen") [.str "seen", .str "behind"] = true then 1 else 0
      decide +kernel
    · show (0 : Int) = if inV (.str "seen") [.str "step", .str "end"] = true then 1 else 0
      decide +kernel
  | behind x s =>
    obtain ⟨a', u, e, h, _⟩ := h
    obtain ⟨rfl, rfl⟩ := inj e h
    refine .inr ⟨by decide +kernel, fun E c => ?_⟩
    cases E
    · show (1 : Int) = if inV (.str "behind") [.str "seen", .str "behind"] = true then 1 else 0
      decide +kernel
    · show (0 : Int) = if inV (.str "behind") [.str "step", .str "end"] = true then 1 else 0
      decide +kernel
  | carry s =>
    obtain ⟨a', u, e, h, _⟩ := h
    obtain ⟨rfl, rfl⟩ := inj e h
    refine .inr ⟨by decide +kernel, fun E c => ?_⟩
    cases E
    · show (0 : Int) = if inV (.str "carry") [.str "seen", .str "behind"] = true then 1 else 0
      decide +kernel
    · show (0 : Int) = if inV (.str "carry") [.str "step", .str "end"] = true then 1 else 0
      decide +kernel
  | fin x p s =>
    obtain ⟨a', u, e, h, _⟩ := h
    obtain ⟨rfl, rfl⟩ := inj e h
    refine .inr ⟨by decide +kernel, fun E c => ?_⟩
    cases E
    · show (0 : Int) = if inV (.str "end") [.str "seen", .str "behind"] = true then 1 else 0
      decide +kernel
    · show (1 : Int) = if inV (.str "end") [.str "step", .str "end"] = true then 1 else 0
      decide +kernel
  | use n =>
    obtain ⟨a', e, h⟩ := h
    obtain ⟨rfl, rfl⟩ := inj e h
    exact .inl ⟨n, rfl, rfl, rfl⟩
def mvOf (N : Nat) (g : Nat → Int) : List V := (List.range N).map fun j => V.int (g j)
theorem mv_len (N : Nat) (g : Nat → Int) : (mvOf N g).length = N := by unfold mvOf; simp
theorem mv_get {N k : Nat} {g : Nat → Int} (h : k < N) : (mvOf N g)[k]? = some (.int (g k)) := by
  unfold mvOf
  rw [List.getElem?_map, List.getElem?_range h]
  rfl
theorem mv_congr {N : Nat} {g g' : Nat → Int} (h : ∀ j, j < N → g j = g' j) : mvOf N g = mvOf N g' := by
  unfold mvOf
  exact List.map_congr_left fun j hj => by rw [h j (List.mem_range.mp hj)]
theorem mv_set (N k : Nat) (g : Nat → Int) (z : Int) : (mvOf N g).set k (.int z) = mvOf N (fun j => if j = k then z else g j) := by
  refine List.ext_getElem (by simp [mvOf]) fun j h1 h2 => ?_
  simp only [mvOf, List.getElem_set, List.getElem_map, List.getElem_range]
  by_cases e : k = j
  · subst e
    simp
  · rw [if_neg e, if_neg (fun z => e z.symm)]
theorem mv_zero {N : Nat} {g : Nat → Int} (h : ∀ j, j < N → g j = 0) : mvOf N g = List.replicate N (V.int 0) := by
  refine List.ext_getElem (by simp [mvOf]) fun j h1 h2 => ?_
  simp only [mvOf, List.getElem_map, List.getElem_range, List.getElem_replicate]
  rw [h j (by simpa [mvOf] using h1)]
/-- the schemes of each of a paper stand at plv -/
def PartsAt (H : Hp) (ps : List Sch) (plv : List V) : Prop := ∀ j s, ps[j]? = some s → ∃ fj fv, plv[j]? = some (V.ref fj) ∧ H fj = some (.lst fv) ∧ Paired (FoundR H j ps.length) (pre 5 s) fv
theorem PartsAt.keep {H H' : Hp} {ps : List Sch} {plv : List V} (h : PartsAt H ps plv) (k : Same H H') : PartsAt H' ps plv := fun j s e => by
  obtain ⟨fj, fv, h1, h2, h3⟩ := h j s e
  exact ⟨fj, fv, h1, k _ _ h2, paired_imp h3 fun _ _ h => FoundR.keep h (Same.tupK k)⟩
def spMany (K : PySem.W.Frag) (E : Bool) (ps : List Sch) (c : Nat → Int) : Sp := fun vs H Q _ => ∃ (na pl : Addr) (plv : List V), vs = [.ref na, .ref pl] ∧ (∀ H', SqT K H' na (namesV E)) ∧ H pl = some (.lst plv) ∧ plv.length = ps.length ∧ 0 < ps.length ∧ ps.length ≤ 5 ∧ PartsAt H ps plv ∧
  (∀ j s, ps[j]? = some s → c j = ((pre 5 s).map (own E c)).sum) ∧ ∀ H', Same H H' → Q (.int (c 0)) H'
section
variable {P : Program} {w : World} {K : PySem.W.Frag} {mg : Str → Option Value} {base : Heap}
theorem ok_many_of {E : Bool} {ps : List Sch} {c : Nat → Int} (T : PTx w K mg) (D : Def K mg "many_of" s_many_of ["names", "parts"]) : FnOk P w K mg base CX0 1 D.f D.fd ["names", "parts"] (spMany K E ps c) := by
  have nd := sc_many_of.nd
  refine D.ok sc_many_of (fun vs H Q E h => ?_) (fun cdv A outer s H vs Q E' hr h => ?_)
  · obtain ⟨na, pl, plv, rfl, _⟩ := h
    rfl
  obtain ⟨na, pl, plv, rfl, hna, epl, hl, h0, h5, hparts, hc, q⟩ := h
  refine ⟨_, pss_cons (ps_set (i := 2) nd rfl (Or.inl rfl) (pe_op op_rep (pe_lst (pa_cons pe_int pa_nil)) (pe_callB call_len_seq rfl (T.free "len" (by decide +kernel)) PySem.boot_len (pa_cons (pv 1) pa_nil))))
    (pss_cons (ps_for PassesOwn.never rfl (pi_revR rfl (T.free "reversed" (by decide +kernel)) (prg_1 rfl (T.free "range" (by decide +kernel)) (pe_callB call_len_seq rfl (T.free "len" (by decide +kernel)) PySem.boot_len (pa_cons (pv 1) pa_nil)))) (pg_name (i := 3) nd rfl (Or.inl rfl))
      (pss_one (ps_for PassesOwn.never rfl (pi_list (pe_ix ix_list (pv 1) (pv 3) (fun _ _ => rfl))) (pg_name (i := 4) nd rfl (Or.inl rfl))
        (pss_one (ps_if (pt_cmpR op_eq (pe_ix ix_tup (pv 4) pe_int (fun _ _ => rfl)) pe_str (nomark _))
          (pss_one (ps_augS (pv 2) (pv 3) pget_list (pe_ix ix_list (pv 2) (pe_ix ix_tup (pv 4) pe_int (fun _ _ => rfl)) (fun _ _ => rfl)) ip_add set_list))
          (pss_one (ps_if (pt_cmpR op_in_seq (pe_ix ix_tup (pv 4) pe_int (fun _ _ => rfl)) (pv 0) (by rfl)) (pss_one (ps_augS (pv 2) (pv 3) pget_list pe_int ip_add set_list)) pss_nil)))))))
    (pss_one (ps_ret (pe_ix ix_list (pv 2) pe_int (fun _ _ => rfl))))), ?_⟩
  have hN : (((plv.length : Nat) : Int) - 0).toNat = ps.length := by rw [hl]; omega
  refine ⟨szN (by show 1 ≤ 1000; decide), fun p0 hp0 => ?_⟩
  have s1 : Same H (upd H p0 (.lst [.int 0])) := Same.new hp0
  refine ⟨_, rfl, pl, _, rfl, .inl (SqL.of (s1 _ _ epl)), p0, _, _, rfl, rfl, upd_same, by omega, by omega, szN (by show 1 * _ ≤ 1000; omega), fun ml hml => ?_⟩
  rw [flat_rep, show (((plv.length : Nat) : Int)).toNat = ps.length by omega]
  have s2 := s1.trans (Same.new (o := .lst (List.replicate ps.length (V.int 0))) hml)
  have hm0 : H ml = none := s1.free hml
  dsimp only [gName]
  refine ⟨_, rfl, pl, _, rfl, .inl (SqL.of (s2 _ _ epl)), _, rfl, by omega, by omega, by omega, by omega, ?_⟩
  refine for_rangeC (lo := 0 + ((((plv.length : Nat) : Int) - 0).toNat : Int) - 1) (c := -1) (n := (((plv.length : Nat) : Int) - 0).toNat) (fun i σ H' => ∃ v3 v4 : Option V, σ = [some (.ref na), some (.ref pl), some (.ref ml), v3, v4] ∧ H' ml = some (.lst (mvOf ps.length fun j => if ps.length - i ≤ j then c j else 0)) ∧ Same H H')
    ⟨none, none, rfl, by rw [mv_zero fun j hj => if_neg (by omega)]; exact upd_same, s2⟩ ?_ ?_
  · rintro i σ H1 hi ⟨v3, v4, rfl, em, sm⟩
    rw [hN] at hi
    dsimp only [gName]
    have ez : 0 + ((((plv.length : Nat) : Int) - 0).toNat : Int) - 1 + ((i : Nat) : Int) * -1 = ((ps.length - 1 - i : Nat) : Int) := by rw [hN]; omega
    rw [ez]
    have hk : ps.length - 1 - i < ps.length := by omega
    obtain ⟨fj, fv, e1, e2, e3⟩ := hparts _ _ (List.getElem?_eq_getElem hk)
    have ck := hc _ _ (List.getElem?_eq_getElem hk)
    have lfv := Paired.length e3
    generalize hs : ps[ps.length - 1 - i]'hk = s at e3 ck lfv
    have hki : ps.length - 1 - i + 1 = ps.length - i := by omega
    generalize ps.length - 1 - i = k at e1 e3 ck hk hki ⊢
    refine ⟨_, rfl, _, rfl, pl, _, _, .ref fj, rfl, rfl, SqL.of (sm _ _ epl), atI_nat e1, fj, rfl, ⟨_, SqL.of (sm _ _ e2)⟩, ?_⟩
    have gt : ∀ t, t < (pre 5 s).length → ∀ s', (pre 5 s)[t]? = some s' → (((pre 5 s).take (t + 1)).map (own E c)).sum = (((pre 5 s).take t).map (own E c)).sum + own E c s' := fun t ht s' e => by
      rw [List.take_succ, e, List.map_append, List.sum_append]
      simp
    have hstart : ∀ j, (if ps.length - i ≤ j then c j else 0) = if j = k then (((pre 5 s).take 0).map (own E c)).sum else if ps.length - i ≤ j then c j else 0 := fun j => by
      by_cases ej : j = k
      · rw [if_pos ej, if_neg (by omega)]
        rfl
      · rw [if_neg ej]
    refine for_list (K := K) (a := fj) (xs := fv) (fun t σ H' => ∃ v4 : Option V, σ = [some (.ref na), some (.ref pl), some (.ref ml), some (.int ((k : Nat) : Int)), v4] ∧ H' ml = some (.lst (mvOf ps.length fun j => if j = k then (((pre 5 s).take t).map (own E c)).sum else if ps.length - i ≤ j then c j else 0)) ∧ Same H H')
      ⟨v4, rfl, by rw [em]; exact congrArg (fun z => some (HO.lst z)) (mv_congr fun j _ => hstart j), sm⟩ (fun t σ H' _ ⟨_, _, _, s5⟩ => SqL.of (s5 _ _ e2)) ?_ ?_
    · rintro t y σ H2 hy ⟨v4', rfl, em2, s5⟩
      obtain ⟨s', es', d, hsx, hox⟩ := paired_get' e3 hy
      have htl := (List.getElem?_eq_some_iff.mp es').1
      have gt1 := gt t htl s' es'
      obtain ⟨a, nm, rest, rfl, ea⟩ := hsx.tag
      have ea2 := s5 _ _ ea
      dsimp only [gName]
      have fin : ∀ z : Int, (((pre 5 s).take (t + 1)).map (own E c)).sum = z → ∃ v4 : Option V, [some (V.ref na), some (V.ref pl), some (V.ref ml), some (V.int ((k : Nat) : Int)), some (V.ref a)] = [some (V.ref na), some (V.ref pl), some (V.ref ml), some (V.int ((k : Nat) : Int)), v4] ∧
          upd H2 ml (.lst ((mvOf ps.length fun j => if j = k then (((pre 5 s).take t).map (own E c)).sum else if ps.length - i ≤ j then c j else 0).set k (.int z))) ml = some (.lst (mvOf ps.length fun j => if j = k then (((pre 5 s).take (t + 1)).map (own E c)).sum else if ps.length - i ≤ j then c j else 0)) ∧
          Same H (upd H2 ml (.lst ((mvOf ps.length fun j => if j = k then (((pre 5 s).take t).map (own E c)).sum else if ps.length - i ≤ j then c j else 0).set k (.int z)))) := fun z hz => by
        refine ⟨_, rfl, ?_, Same.newer s5 hm0⟩
        rw [upd_same, mv_set]
        congr 2
        refine mv_congr fun j hj => ?_
        by_cases ej : j = k
        · rw [if_pos ej, if_pos ej, hz]
        · rw [if_neg ej, if_neg ej, if_neg ej]
      have gk : (mvOf ps.length fun j => if j = k then (((pre 5 s).take t).map (own E c)).sum else if ps.length - i ≤ j then c j else 0)[k]? = some (.int (((pre 5 s).take t).map (own E c)).sum) := by
        rw [mv_get hk, if_pos rfl]
      have ixk : ixN (mvOf ps.length fun j => if j = k then (((pre 5 s).take t).map (own E c)).sum else if ps.length - i ≤ j then c j else 0).length ((k : Nat) : Int) = some k := by rw [mv_len]; exact ix_nat hk
      refine ⟨_, rfl, a, _, 0, .str nm, rfl, rfl, SqT.of ea2, at0, rfl, _, rfl, ?_⟩
      rw [dec_str]
      rcases own_tag hsx ea with ⟨n, rfl, rfl, rfl⟩ | ⟨nu, ho⟩
      · have hn : k < n ∧ n < ps.length := hox
        rw [show (("use" : Str) == "use") = true by decide +kernel]
        have eo : own E c (.use n) = c n := by cases E <;> rfl
        rw [eo] at gt1
        have gn : (mvOf ps.length fun j => if j = k then (((pre 5 s).take t).map (own E c)).sum else if ps.length - i ≤ j then c j else 0)[n]? = some (.int (c n)) := by
          rw [mv_get hn.2, if_neg (by omega), if_pos (by omega)]
        exact iteT ⟨_, rfl, _, rfl, ml, _, _, _, rfl, rfl, SqL.of em2, by omega, gk, _, rfl, _, rfl, a, _, 1, .int ((n : Nat) : Int), rfl, rfl, SqT.of ea2, at1, ml, _, _, .int (c n), rfl, rfl, SqL.of em2, atI_nat gn, _, _, rfl, rfl, ml, _, _, k, rfl, rfl, em2, ixk, fin _ gt1⟩
      · rw [nu]
        rw [ho E c] at gt1
        refine iteF ⟨_, rfl, a, _, 0, .str nm, rfl, rfl, SqT.of ea2, at0, _, rfl, na, _, rfl, .inr (hna _), rfl, names_flat E, _, rfl, ?_⟩
        refine ite2 (fun z => ?_) (fun z => ?_)
        · have z : inV (.str nm) (namesV E) = true := z
          rw [if_pos z] at gt1
          exact ⟨_, rfl, _, rfl, ml, _, _, _, rfl, rfl, SqL.of em2, by omega, gk, _, _, rfl, rfl, ml, _, _, k, rfl, rfl, em2, ixk, fin _ gt1⟩
        · have z : ¬ inV (.str nm) (namesV E) = true := z
          rw [if_neg z, Int.add_zero] at gt1
          refine ⟨_, rfl, ?_, s5⟩
          rw [em2, gt1]
    · rintro σ H2 ⟨v4', rfl, em2, s5⟩
      rw [← lfv, List.take_length, ← ck] at em2
      refine ⟨_, _, rfl, ?_, s5⟩
      rw [em2]
      congr 2
      refine mv_congr fun j hj => ?_
      by_cases ej : j = k
      · rw [if_pos ej, if_pos (by omega), ej]
      · rw [if_neg ej]
        by_cases e2 : ps.length - i ≤ j
        · rw [if_pos e2, if_pos (by omega)]
        · rw [if_neg e2, if_neg (by omega)]
  · rintro σ H1 ⟨v3, v4, rfl, em, sm⟩
    rw [hN] at em
    refine ⟨_, rfl, ml, _, 0, .int (c 0), rfl, rfl, SqL.of em, ?_, q _ sm⟩
    refine atI_nat (j := 0) ?_
    rw [mv_get h0, if_pos (by omega)]
end
end MS
end
section
set_option maxRecDepth 100000
set_option maxHeartbeats 4000000
namespace MS
open PySem L2
/-! ### what can be a paper -/
theorem ev_or_new {t u : TT} {σ : St} {H : Hp} {b c : Bool} (h1 : ∀ Q : Bool → Hp → Prop, (∀ H', Same H H' → Q b H') → t σ H Q) (h2 : b = false → ∀ H', Same H H' → ∀ Q : Bool → Hp → Prop, (∀ H'', Same H' H'' → Q c H'') → u σ H' Q) :
    ∀ Q : Bool → Hp → Prop, (∀ H', Same H H' → Q (b || c) H') → tOr t u σ H Q := fun Q q => h1 _ fun H' s => by
  cases b with
  | true => exact iteT (q H' s)
  | false => exact iteF (h2 rfl H' s _ fun H'' s'' => q H'' (s.trans s''))
def spCheckPaper : Sp := fun vs H Q _ => ∃ (pa : Addr) (ps : List Sch) (pv : List V), vs = [.ref pa] ∧ H pa = some (.tup pv) ∧ Paired (SAt H 5) ps pv ∧ PaperOk ps ∧ ∀ H', Same H H' → Q .non H'
def spCheckPaper1 (ps : List Sch) : Sp := fun vs H Q _ => ∃ (pa : Addr) (pv : List V), vs = [.ref pa] ∧ H pa = some (.tup pv) ∧ Paired (SAt H 5) ps pv ∧ PaperOk ps ∧ ∀ H', Same H H' → Q .non H'
structure DPaper (K : PySem.W.Frag) (mg : Str → Option Value) where
  DN : Def K mg "is_number" s_is_number ["thing"]
  DF : Def K mg "fits" s_fits psFits
  DB : Def K mg "can_be" s_can_be ["thing", "number", "many"]
  DI : Def K mg "within" s_within ["scheme"]
  DP : Def K mg "placed" s_placed ["schemes", "place"]
  DS : Def K mg "schemes_in" s_schemes_in ["paper", "number"]
  DM : Def K mg "many_of" s_many_of ["names", "parts"]
  DC : Def K mg "check_paper" s_check_paper ["paper"]
section
variable {P : Program} {w : World} {K : PySem.W.Frag} {mg : Str → Option Value} {base : Heap}
theorem ok_check_paper1 {ps : List Sch} (T : PTx w K mg) (D : DPaper K mg) : FnOk P w K mg base CX0 5 D.DC.f D.DC.fd ["paper"] (spCheckPaper1 ps) := by
  by_cases hP : PaperOk ps
  case neg =>
    have e : spCheckPaper1 ps = fun _ _ _ _ => False := by
      funext vs H Q E
      refine propext ⟨fun h => ?_, fun h => h.elim⟩
      obtain ⟨_, _, _, _, _, z, _⟩ := h
      exact hP z
    rw [e]
    exact no_sp
  have hPl := hP.1
  have hP5 := hP.2.1
  obtain ⟨ce, cw, tl⟩ := hP.2.2
  have GS : FnOk P w K mg base CX0 4 D.DS.f D.DS.fd ["paper", "number"] (fun vs H Q E => ∃ i, spSchemesIn ps i vs H Q E) := fn_any fun i => ok_schemes_in T D.DS D.DB D.DF D.DN D.DI D.DP
  have GE : FnOk P w K mg base CX0 1 D.DM.f D.DM.fd ["names", "parts"] (spMany K true ps ce) := ok_many_of T D.DM
  have GW : FnOk P w K mg base CX0 1 D.DM.f D.DM.fd ["names", "parts"] (spMany K false ps cw) := ok_many_of T D.DM
  obtain ⟨tP, gP⟩ := T.mostInPaper
  obtain ⟨tE, gE⟩ := T.mostE
  obtain ⟨tW, gW⟩ := T.mostW
  obtain ⟨aE, hE, qE⟩ := T.earners
  obtain ⟨aW, hW, qW⟩ := T.watchers
  have nd := sc_check_paper.nd
  refine D.DC.ok sc_check_paper (fun vs H Q E h => ?_) (fun cdv A outer s H vs Q E hr h => ?_)
  · obtain ⟨pa, pv, rfl, _⟩ := h
    rfl
  obtain ⟨pa, pv0, rfl, epv, pp, _, q⟩ := h
  have hr1 : Room 1 _ := hr.mono (by decide)
  refine ⟨_, pss_cons (ps_if (PW.pt (pw_or (pt_not (pt_val (pe_callB call_isi rfl (T.free "isinstance" (by decide +kernel)) (by decide +kernel) (pa_cons (pv 0) (pa_cons (pe_bltn rfl (T.free "tuple" (by decide +kernel)) (by decide +kernel) (v := .ty "tuple") rfl) pa_nil)))))
      (pw_or1 (pt_not (pt_truth (pv 0) (by intro _; rfl)))))) (pss_one ps_never) pss_nil)
    (pss_cons (ps_set (i := 1) nd rfl (Or.inl rfl) (pe_lst pa_nil))
    (pss_cons (ps_for PassesOwn.never rfl (pi_range1 rfl (T.free "range" (by decide +kernel)) (pa_cons (pe_callB call_len_seq rfl (T.free "len" (by decide +kernel)) PySem.boot_len (pa_cons (pv 0) pa_nil)) pa_nil)) (pg_name (i := 2) nd rfl (Or.inl rfl))
      (pss_cons (ps_if (pt_cmpR op_eq (pv 2) (pe_glob rfl gP (v := .int 5) ⟨_, rfl⟩) (nomark _)) (pss_one ps_never) pss_nil)
      (pss_one (ps_expr (pe_bm PySem.F.plainAttrs_list PySem.F.slot_list_append PySem.F.type_list_append mt_append (pv 1) (pa_cons (pcall D.DS GS hr (pa_cons (pv 0) (pa_cons (pv 2) pa_nil))) pa_nil))))))
    (pss_one (ps_if (PW.pt (pw_or (pt_cmpR op_gt (pcall D.DM GE hr1 (pa_cons (pe_glob rfl hE (v := .ref aE) rfl) (pa_cons (pv 1) pa_nil))) (pe_glob rfl gE (v := .int 7) ⟨_, rfl⟩) (nomark _))
      (pw_or1 (pt_cmpR op_gt (pcall D.DM GW hr1 (pa_cons (pe_glob rfl hW (v := .ref aW) rfl) (pa_cons (pv 1) pa_nil))) (pe_glob rfl gW (v := .int 3) ⟨_, rfl⟩) (nomark _))))) (pss_one ps_never) pss_nil)))), ?_⟩
  have hM := Paired.length pp
  refine seq_if (b := false || false) (ev_or (b := false) (c := false) (fun Q q => ⟨_, rfl, _, .ty "tuple", .type "tuple", .type "tuple", true, rfl, .ty _, .base (.tup epv), kit_ty (by decide +kernel), _, rfl, q⟩)
    (fun Q q => ⟨_, rfl, true, .inr (.inl ⟨_, SqT.of epv, by cases pp with
      | nil => exact absurd hPl (by simp)
      | cons _ _ => rfl⟩), q⟩)) (fun z => nomatch z) (fun _ => ?_)
  refine ⟨Nat.zero_le _, fun p hp => ?_⟩
  have s1 : Same H (upd H p (.lst [])) := Same.new hp
  dsimp only [gName]
  refine ⟨_, rfl, pa, _, rfl, .inr (SqT.of (s1 _ _ epv)), _, rfl, by omega, by omega, ?_⟩
  have hn : (((pv0.length : Nat) : Int)).toNat = ps.length := by omega
  refine for_range (lo := 0) (n := (((pv0.length : Nat) : Int)).toNat) (fun i σ H' => ∃ (plv : List V) (v : Option V), σ = [some (.ref pa), some (.ref p), v] ∧ H' p = some (.lst plv) ∧ plv.length = i ∧
      (∀ j s, j < i → ps[j]? = some s → ∃ fj fv, plv[j]? = some (V.ref fj) ∧ fj ≠ p ∧ H' fj = some (.lst fv) ∧ Paired (FoundR H' j ps.length) (pre 5 s) fv) ∧ Same H H')
    ⟨[], none, rfl, upd_same, rfl, (fun _ _ h => by omega), s1⟩ ?_ ?_
  · rintro i σ H1 hi ⟨plv, v, rfl, ep, hl, hparts, sm⟩
    rw [hn] at hi
    have ez : (0 : Int) + ((i : Nat) : Int) = ((i : Nat) : Int) := by omega
    dsimp only [gName]
    rw [ez]
    refine seq_if (b := false) (fun Q q => ⟨_, rfl, rfl, _, rfl, by rw [decide_eq_false (fun z => by have := V.int.inj z; omega)]; exact q⟩) (fun z => nomatch z) (fun _ => ?_)
    obtain ⟨t1, t2, t3, t4, _⟩ := tl i _ (List.getElem?_eq_getElem hi)
    rw [Nat.zero_add] at t1
    refine ⟨_, rfl, .inl ⟨rfl, _, SqL.of ep⟩, _, rfl, _, rfl, i, pa, pv0, _, rfl, sm _ _ epv, paired_imp pp fun _ _ => SAt.keep (Same.tupK sm) _ _ _, List.getElem?_eq_getElem hi, t1, t4, fun f fv H2 s2 hf ef pf => ?_⟩
    have ep2 := s2 _ _ ep
    have nfp : f ≠ p := fun z => by rw [z, ep] at hf; cases hf
    have tk : TupK H2 (upd H2 p (.lst (plv ++ [.ref f]))) := TupK.put ep2
    refine ⟨p, _, _, rfl, rfl, ep2, small1000 (by omega), ?_⟩
    refine ⟨plv ++ [.ref f], _, rfl, upd_same, by rw [List.length_append, hl]; rfl, fun j s hj es => ?_, Same.newer (sm.trans s2) hp⟩
    by_cases e : j < i
    · obtain ⟨fj, fv', e1, e2, e3, e4⟩ := hparts j s e es
      exact ⟨fj, fv', by rw [List.getElem?_append_left (by omega)]; exact e1, e2, by rw [upd_ne e2]; exact s2 _ _ e3, paired_imp e4 fun _ _ h => FoundR.keep h ((Same.tupK s2).trans tk)⟩
    · have e : j = i := by omega
      subst e
      obtain rfl : ps[j] = s := Option.some.inj ((List.getElem?_eq_getElem hi).symm.trans es)
      refine ⟨f, fv, ?_, nfp, by rw [upd_ne nfp]; exact ef, paired_imp pf fun _ _ h => FoundR.keep h tk⟩
      rw [List.getElem?_append_right (by omega), hl, Nat.sub_self]
      rfl
  · rintro σ H1 ⟨plv, v, rfl, ep, hl, hparts, sm⟩
    rw [hn] at hl hparts
    have hPA : PartsAt H1 ps plv := fun j s es => by
      obtain ⟨fj, fv, e1, _, e3, e4⟩ := hparts j s (List.getElem?_eq_some_iff.mp es).1 es
      exact ⟨fj, fv, e1, e3, e4⟩
    obtain ⟨t1, t2, t3, t4, t5, t6⟩ := tl 0 _ (List.getElem?_eq_getElem hPl)
    rw [Nat.zero_add] at t2 t3
    dsimp only
    refine one_new (u := tNext) (b := false || false) (ev_or_new (b := false) (c := false) (fun Q q => ?_) (fun _ H2 s2 Q q => ?_)) (fun z => nomatch z) (fun _ H2 s2 => ?_)
    · refine ⟨_, rfl, aE, p, plv, rfl, qE, ep, hl, hPl, hP5, hPA, fun j s es => ?_, fun H2 s2 => ?_⟩
      · obtain ⟨u1, u2, _⟩ := tl j s es
        rw [Nat.zero_add] at u1 u2
        rw [u2]
        exact (pre_er ce 5 s u1).symm
      · refine ⟨_, _, rfl, rfl, _, rfl, ?_⟩
        rw [decide_eq_false (show ¬ (7 : Int) < ce 0 by omega)]
        exact q H2 s2
    · refine ⟨_, rfl, aW, p, plv, rfl, qW, s2 _ _ ep, hl, hPl, hP5, hPA.keep s2, fun j s es => ?_, fun H3 s3 => ?_⟩
      · obtain ⟨u1, _, u3, _⟩ := tl j s es
        rw [Nat.zero_add] at u1 u3
        rw [u3]
        exact (pre_wr cw 5 s u1).symm
      · refine ⟨_, _, rfl, rfl, _, rfl, ?_⟩
        rw [decide_eq_false (show ¬ (3 : Int) < cw 0 by omega)]
        exact q H3 s3
    · exact q H2 (sm.trans s2)
theorem ok_check_paper (T : PTx w K mg) (D : DPaper K mg) : FnOk P w K mg base CX0 5 D.DC.f D.DC.fd ["paper"] spCheckPaper := by
  have G : FnOk P w K mg base CX0 5 D.DC.f D.DC.fd ["paper"] (fun vs H Q E => ∃ ps, spCheckPaper1 ps vs H Q E) := fn_any fun ps => ok_check_paper1 T D
  have e : spCheckPaper = fun vs H Q E => ∃ ps, spCheckPaper1 ps vs H Q E := by
    funext vs H Q E
    refine propext ⟨fun h => ?_, fun h => ?_⟩
    · obtain ⟨pa, ps, pv, h⟩ := h
      exact ⟨ps, pa, pv, h⟩
    · obtain ⟨ps, pa, pv, h⟩ := h
      exact ⟨pa, ps, pv, h⟩
  rw [e]
  exact G
end
end MS
end
section
set_option maxRecDepth 100000
set_option maxHeartbeats 4000000
namespace MS
open PySem L2
/-- two values are of the same kinds, and the same -/
def Alk (H : Hp) : Nat → V → V → Prop
  | 0, x, y => (∃ i : Int, x = .int i ∧ y = .int i) ∨ ∃ z : Str, x = .str z ∧ y = .str z
  | n + 1, x, y => Alk H n x y ∨ ∃ (a b : Addr) (xs ys : List V), x = .ref a ∧ y = .ref b ∧ ((H a = some (.lst xs) ∧ H b = some (.lst ys)) ∨ (H a = some (.tup xs) ∧ H b = some (.tup ys))) ∧ xs.length ≤ 1000 ∧ Paired (Alk H n) xs ys
theorem Alk.keep {H H' : Hp} (k : Same H H') : ∀ (n : Nat) (x y : V), Alk H n x y → Alk H' n x y
  | 0, _, _, h => h
  | n + 1, x, y, .inl h => .inl (Alk.keep k n x y h)
  | n + 1, x, y, .inr ⟨a, b, xs, ys, e1, e2, h, l, p⟩ => .inr ⟨a, b, xs, ys, e1, e2, by
      rcases h with ⟨h1, h2⟩ | ⟨h1, h2⟩
      · exact .inl ⟨k _ _ h1, k _ _ h2⟩
      · exact .inr ⟨k _ _ h1, k _ _ h2⟩, l, paired_imp p fun x y => Alk.keep k n x y⟩
def spAlike (n : Nat) : Sp := fun vs H Q _ => ∃ x y, vs = [x, y] ∧ Alk H n x y ∧ ∀ H', Same H H' → Q (.bl true) H'
theorem Alk.up {H : Hp} {n : Nat} {x y : V} (h : Alk H n x y) : Alk H (n + 1) x y := .inl h
theorem Alk.kind {H : Hp} : ∀ {n : Nat} {x y : V}, Alk H n x y → (∃ i : Int, x = .int i ∧ y = .int i) ∨ (∃ z : Str, x = .str z ∧ y = .str z) ∨ ∃ (m : Nat) (a b : Addr) (xs ys : List V), n = m + 1 ∧ x = .ref a ∧ y = .ref b ∧ ((H a = some (.lst xs) ∧ H b = some (.lst ys)) ∨ (H a = some (.tup xs) ∧ H b = some (.tup ys))) ∧ xs.length ≤ 1000 ∧ Paired (Alk H m) xs ys
  | 0, _, _, .inl h => .inl h
  | 0, _, _, .inr h => .inr (.inl h)
  | n + 1, x, y, .inl h => by
    rcases Alk.kind h with h1 | h1 | ⟨m, a, b, xs, ys, e, e1, e2, h1, l, p⟩
    · exact .inl h1
    · exact .inr (.inl h1)
    · subst e
      exact .inr (.inr ⟨m + 1, a, b, xs, ys, rfl, e1, e2, h1, l, paired_imp p fun _ _ z => z.up⟩)
  | n + 1, x, y, .inr ⟨a, b, xs, ys, e1, e2, h, l, p⟩ => .inr (.inr ⟨n, a, b, xs, ys, rfl, e1, e2, h, l, p⟩)
theorem one_to {tc : TT} {t u : TS} {D : Ends} {σ : St} {H : Hp} {b : Bool} (h : ∀ Q : Bool → Hp → Prop, (∀ H', Same H H' → Q b H') → tc σ H Q) (k1 : b = true → ∀ H', Same H H' → t D σ H') (k2 : b = false → ∀ H', Same H H' → u D σ H') : tIfS tc t u D σ H := h _ fun H' s => by
  cases b with
  | true => exact iteT (k1 rfl H' s)
  | false => exact iteF (k2 rfl H' s)
section
variable {P : Program} {w : World} {K : PySem.W.Frag} {mg : Str → Option Value} {base : Heap}
abbrev psAlike : List Str := ["_law_found", "_law_due_here"]
theorem alike_turn {n : Nat} {sp' : Sp} (D : Def K mg "_law_alike" s_L_alike psAlike) (mis : mg "isinstance" = none) (mb : mg "bool" = none) (mi : mg "int" = none) (ms : mg "str" = none) (mt : mg "tuple" = none) (mli : mg "list" = none) (ml : mg "len" = none) (mr : mg "range" = none)
    (G : FnOk P w K mg base CX0 n D.f D.fd psAlike sp') (hs : ∀ n', n = n' + 1 → sp' = spAlike n') : FnOk P w K mg base CX0 (n + 1) D.f D.fd psAlike (spAlike n) := by
  have nd := sc_L_alike.nd
  refine D.ok sc_L_alike (fun vs H Q E h => ?_) (fun cdv A outer s H vs Q E hr h => ?_)
  · obtain ⟨x, y, rfl, _⟩ := h
    rfl
  obtain ⟨x, y, rfl, hxy, q⟩ := h
  refine ⟨_, pss_cons (ps_if (pt_cmpR op_isN (pv 1) pe_non (nomark _)) (pss_one (ps_ret (pe_cmpR op_isN (pv 0) pe_non (by rfl)))) pss_nil)
    (pss_cons (ps_if (pt_val (pe_callB call_isi rfl mis (by decide +kernel) (pa_cons (pv 1) (pa_cons (pe_bltn rfl mb (by decide +kernel) (v := .ty "bool") rfl) pa_nil)))) (pss_one (ps_ret (pe_and (pe_callB call_isi rfl mis (by decide +kernel) (pa_cons (pv 0) (pa_cons (pe_bltn rfl mb (by decide +kernel) (v := .ty "bool") rfl) pa_nil))) (pe_one (pe_cmpR op_eq (pv 0) (pv 1) (nomark _)))))) pss_nil)
    (pss_cons (ps_if (pt_val (pe_callB call_isi rfl mis (by decide +kernel) (pa_cons (pv 1) (pa_cons (pe_bltn rfl mi (by decide +kernel) (v := .ty "int") rfl) pa_nil)))) (pss_one (ps_ret (pe_and (pe_callB call_isi rfl mis (by decide +kernel) (pa_cons (pv 0) (pa_cons (pe_bltn rfl mi (by decide +kernel) (v := .ty "int") rfl) pa_nil)))
        (pe_and (pe_not (pe_callB call_isi rfl mis (by decide +kernel) (pa_cons (pv 0) (pa_cons (pe_bltn rfl mb (by decide +kernel) (v := .ty "bool") rfl) pa_nil)))) (pe_one (pe_cmpR op_eq (pv 0) (pv 1) (nomark _))))))) pss_nil)
    (pss_cons (ps_if (pt_val (pe_callB call_isi rfl mis (by decide +kernel) (pa_cons (pv 1) (pa_cons (pe_bltn rfl ms (by decide +kernel) (v := .ty "str") rfl) pa_nil)))) (pss_one (ps_ret (pe_and (pe_callB call_isi rfl mis (by decide +kernel) (pa_cons (pv 0) (pa_cons (pe_bltn rfl ms (by decide +kernel) (v := .ty "str") rfl) pa_nil))) (pe_one (pe_cmpR op_eq (pv 0) (pv 1) (nomark _)))))) pss_nil)
    (pss_cons (ps_if (PW.pt (pw_or (pt_cmpR op_ne (pe_callB call_isi rfl mis (by decide +kernel) (pa_cons (pv 1) (pa_cons (pe_bltn rfl mt (by decide +kernel) (v := .ty "tuple") rfl) pa_nil))) (pe_callB call_isi rfl mis (by decide +kernel) (pa_cons (pv 0) (pa_cons (pe_bltn rfl mt (by decide +kernel) (v := .ty "tuple") rfl) pa_nil))) (nomark _))
        (pw_or1 (pt_cmpR op_ne (pe_callB call_isi rfl mis (by decide +kernel) (pa_cons (pv 1) (pa_cons (pe_bltn rfl mli (by decide +kernel) (v := .ty "list") rfl) pa_nil))) (pe_callB call_isi rfl mis (by decide +kernel) (pa_cons (pv 0) (pa_cons (pe_bltn rfl mli (by decide +kernel) (v := .ty "list") rfl) pa_nil))) (nomark _))))) (pss_one (ps_ret pe_bl)) pss_nil)
    (pss_cons (ps_if (pt_cmpR op_ne (pe_callB call_len_seq rfl ml PySem.boot_len (pa_cons (pv 0) pa_nil)) (pe_callB call_len_seq rfl ml PySem.boot_len (pa_cons (pv 1) pa_nil)) (nomark _)) (pss_one (ps_ret pe_bl)) pss_nil)
    (pss_cons (ps_for PassesOwn.never rfl (pi_range1 rfl mr (pa_cons (pe_callB call_len_seq rfl ml PySem.boot_len (pa_cons (pv 1) pa_nil)) pa_nil)) (pg_name (i := 2) nd rfl (Or.inl rfl))
      (pss_one (ps_if (pt_not (pt_val (pcall D G hr (pa_cons (pe_ix ix_seq (pv 0) (pv 2) (fun _ _ => rfl)) (pa_cons (pe_ix ix_seq (pv 1) (pv 2) (fun _ _ => rfl)) pa_nil))))) (pss_one (ps_ret pe_bl)) pss_nil)))
    (pss_one (ps_ret pe_bl)))))))), ?_⟩
  have qq : ∀ b : Bool, b = true → Q (.bl b) H := fun b e => by
    subst e
    exact q H (Same.refl _)
  rcases hxy.kind with ⟨i, rfl, rfl⟩ | ⟨z, rfl, rfl⟩ | ⟨m, a, b, xs, ys, rfl, rfl, rfl, hab, hl, hp⟩
  · refine seq_if (b := false) (fun Q q => ⟨_, rfl, rfl, _, rfl, by rw [decide_eq_false (fun z => nomatch z)]; exact q⟩) (fun z => nomatch z) (fun _ => ?_)
    refine seq_if (b := false) (fun Q q => ⟨_, rfl, _, .ty "bool", .type "int", .type "bool", false, rfl, .ty _, .base (.int i), kit_ty (by decide +kernel), _, rfl, q⟩) (fun z => nomatch z) (fun _ => ?_)
    refine seq_if (b := true) (fun Q q => ⟨_, rfl, _, .ty "int", .type "int", .type "int", true, rfl, .ty _, .base (.int i), kit_ty (by decide +kernel), _, rfl, q⟩) (fun _ => ?_) (fun z => nomatch z)
    exact ⟨_, rfl, _, .ty "int", .type "int", .type "int", true, rfl, .ty _, .base (.int i), kit_ty (by decide +kernel), _, rfl, _, rfl, _, .ty "bool", .type "int", .type "bool", false, rfl, .ty _, .base (.int i), kit_ty (by decide +kernel), _, rfl, _, rfl, _, rfl, _, rfl, rfl, qq _ (decide_eq_true rfl)⟩
  · refine seq_if (b := false) (fun Q q => ⟨_, rfl, rfl, _, rfl, by rw [decide_eq_false (fun z => nomatch z)]; exact q⟩) (fun z => nomatch z) (fun _ => ?_)
    refine seq_if (b := false) (fun Q q => ⟨_, rfl, _, .ty "bool", .type "str", .type "bool", false, rfl, .ty _, .base (.str z), kit_ty (by decide +kernel), _, rfl, q⟩) (fun z => nomatch z) (fun _ => ?_)
    refine seq_if (b := false) (fun Q q => ⟨_, rfl, _, .ty "int", .type "str", .type "int", false, rfl, .ty _, .base (.str z), kit_ty (by decide +kernel), _, rfl, q⟩) (fun z => nomatch z) (fun _ => ?_)
    refine seq_if (b := true) (fun Q q => ⟨_, rfl, _, .ty "str", .type "str", .type "str", true, rfl, .ty _, .base (.str z), kit_ty (by decide +kernel), _, rfl, q⟩) (fun _ => ?_) (fun z => nomatch z)
    exact ⟨_, rfl, _, .ty "str", .type "str", .type "str", true, rfl, .ty _, .base (.str z), kit_ty (by decide +kernel), _, rfl, _, rfl, _, rfl, rfl, qq _ (decide_eq_true rfl)⟩
  · obtain rfl := hs m rfl
    have lxy := Paired.length hp
    obtain ⟨isT, tn, tya, tyb, cT, cL, sa, sb, nb, ni, nsx⟩ : ∃ (isT : Bool) (tn : String), TyX K H (.ref a) (.type tn) ∧ TyX K H (.ref b) (.type tn) ∧ PySem.W.kitOne K (.type tn) (.type "tuple") = some isT ∧ PySem.W.kitOne K (.type tn) (.type "list") = some (!isT) ∧
        (SqL K H a xs ∨ SqT K H a xs) ∧ (SqL K H b ys ∨ SqT K H b ys) ∧ PySem.W.kitOne K (.type tn) (.type "bool") = some false ∧ PySem.W.kitOne K (.type tn) (.type "int") = some false ∧ PySem.W.kitOne K (.type tn) (.type "str") = some false := by
      rcases hab with ⟨h1, h2⟩ | ⟨h1, h2⟩
      · exact ⟨false, "list", .base (.lst h1), .base (.lst h2), kit_ty (by decide +kernel), kit_ty (by decide +kernel), .inl (SqL.of h1), .inl (SqL.of h2), kit_ty (by decide +kernel), kit_ty (by decide +kernel), kit_ty (by decide +kernel)⟩
      · exact ⟨true, "tuple", .base (.tup h1), .base (.tup h2), kit_ty (by decide +kernel), kit_ty (by decide +kernel), .inr (SqT.of h1), .inr (SqT.of h2), kit_ty (by decide +kernel), kit_ty (by decide +kernel), kit_ty (by decide +kernel)⟩
    refine seq_if (b := false) (fun Q q => ⟨_, rfl, rfl, _, rfl, by rw [decide_eq_false (fun z => nomatch z)]; exact q⟩) (fun z => nomatch z) (fun _ => ?_)
    refine seq_if (b := false) (fun Q q => ⟨_, rfl, _, .ty "bool", _, .type "bool", false, rfl, .ty _, tyb, nb, _, rfl, q⟩) (fun z => nomatch z) (fun _ => ?_)
    refine seq_if (b := false) (fun Q q => ⟨_, rfl, _, .ty "int", _, .type "int", false, rfl, .ty _, tyb, ni, _, rfl, q⟩) (fun z => nomatch z) (fun _ => ?_)
    refine seq_if (b := false) (fun Q q => ⟨_, rfl, _, .ty "str", _, .type "str", false, rfl, .ty _, tyb, nsx, _, rfl, q⟩) (fun z => nomatch z) (fun _ => ?_)
    refine seq_if (b := false || false) (ev_or (b := false) (c := false) (fun Q q => ⟨_, rfl, _, .ty "tuple", _, .type "tuple", isT, rfl, .ty _, tyb, cT, _, rfl, _, .ty "tuple", _, .type "tuple", isT, rfl, .ty _, tya, cT, rfl, _, rfl, by rw [decide_eq_true rfl]; exact q⟩)
      (fun Q q => ⟨_, rfl, _, .ty "list", _, .type "list", !isT, rfl, .ty _, tyb, cL, _, rfl, _, .ty "list", _, .type "list", !isT, rfl, .ty _, tya, cL, rfl, _, rfl, by rw [decide_eq_true rfl]; exact q⟩)) (fun z => nomatch z) (fun _ => ?_)
    refine seq_if (b := false) (fun Q q => ⟨_, rfl, a, xs, rfl, sa, _, rfl, b, ys, rfl, sb, rfl, _, rfl, by rw [lxy, decide_eq_true rfl]; exact q⟩) (fun z => nomatch z) (fun _ => ?_)
    refine ⟨_, rfl, b, ys, rfl, sb, _, rfl, by omega, by omega, ?_⟩
    rw [Int.toNat_natCast]
    have ix : ∀ {c : Addr} {zs : List V} {H' : Hp} {j : Nat} {v : V} {Q : VK}, (SqL K H' c zs ∨ SqT K H' c zs) → zs[j]? = some v → Q v H' → rIx K (.ref c) (.int ((j : Nat) : Int)) H' Q := fun h e q => by
      rcases h with h | h
      · exact .inl ⟨_, _, _, _, rfl, rfl, h, atI_nat e, q⟩
      · exact .inr (.inl ⟨_, _, _, _, rfl, rfl, h, atI_nat e, q⟩)
    have seqK : ∀ {c : Addr} {zs : List V} {H' : Hp}, ((H c = some (.lst zs)) ∨ (H c = some (.tup zs))) → Same H H' → (SqL K H' c zs ∨ SqT K H' c zs) := fun h s => by
      rcases h with h | h
      · exact .inl (SqL.of (s _ _ h))
      · exact .inr (SqT.of (s _ _ h))
    have ha' : (H a = some (.lst xs)) ∨ (H a = some (.tup xs)) := hab.imp (·.1) (·.1)
    have hb' : (H b = some (.lst ys)) ∨ (H b = some (.tup ys)) := hab.imp (·.2) (·.2)
    refine for_range (lo := 0) (n := ys.length) (fun j σ H' => ∃ v2 : Option V, σ = [some (.ref a), some (.ref b), v2] ∧ Same H H') ⟨none, rfl, Same.refl _⟩ ?_ ?_
    · rintro j σ H' hj ⟨v2, rfl, s1⟩
      have hjx : j < xs.length := by omega
      have ex : xs[j]? = some (xs[j]'hjx) := List.getElem?_eq_getElem hjx
      obtain ⟨y', ey, hy⟩ : ∃ y', ys[j]? = some y' ∧ Alk H m (xs[j]'hjx) y' := by
        have eyj : ys[j]? = some (ys[j]'hj) := List.getElem?_eq_getElem hj
        obtain ⟨x', ex', hx'⟩ := paired_get' hp eyj
        rw [ex] at ex'
        cases ex'
        exact ⟨_, eyj, hx'⟩
      simp only [Int.zero_add]
      dsimp only [gName]
      refine one_to (b := false) (fun Q q => ⟨_, rfl, _, rfl, ix (seqK ha' s1) ex ⟨_, rfl, _, rfl, ix (seqK hb' s1) ey ⟨_, _, rfl, Alk.keep s1 _ _ _ hy, fun H6 s6 => ⟨_, rfl, q H6 s6⟩⟩⟩⟩) (fun z => nomatch z) (fun _ H6 s6 => ?_)
      exact ⟨_, rfl, s1.trans s6⟩
    · rintro σ H' ⟨v2, rfl, s1⟩
      exact q H' s1
theorem ok_alike (D : Def K mg "_law_alike" s_L_alike psAlike) (mis : mg "isinstance" = none) (mb : mg "bool" = none) (mi : mg "int" = none) (ms : mg "str" = none) (mt : mg "tuple" = none) (mli : mg "list" = none) (ml : mg "len" = none) (mr : mg "range" = none) :
    ∀ n : Nat, FnOk P w K mg base CX0 (n + 1) D.f D.fd psAlike (spAlike n)
  | 0 => alike_turn (sp' := fun _ _ _ _ => False) D mis mb mi ms mt mli ml mr ⟨fun vs H Q E h => h.elim, fun A outer s H args us vs Q E _ _ _ _ h => h.elim⟩ fun n' e => by omega
  | n + 1 => alike_turn (sp' := spAlike n) D mis mb mi ms mt mli ml mr (ok_alike D mis mb mi ms mt mli ml mr n) fun n' e => by
      have e' : n = n' := by omega
      rw [e']
end
end MS
end
section
set_option maxRecDepth 100000
set_option maxHeartbeats 4000000
/-! super().__init__(e) in an own exception's __init__, the class somewhere below ValueError -/
namespace XSU
open PySem PySem.Spec PyProof.Rows L2 NdefX
/-- what the written part says of such a class and of its __init__ -/
structure SupC (P : Program) (K : PySem.W.Frag) (C f cc cd : Addr) (name qual : Str) (params : Arguments) (body : List Stmt) (scope : Scope) : Prop where
  T : OexC K C
  along : ∃ nm q N bs bm sn sub ab col dd k0 k1 k2 k3 k5, K.lookup C = some (excClassObj nm q C N bs bm true sn sub ab col dd k0 k1 k2 k3 k5 "ValueError.__new__") ∧ PySem.HandSPX.refsVE bm = true ∧ PySem.W.alongIn K "__init__" bm = some (some (.builtin "ValueError.__init__"))
  self : PySem.W.mroIn K C (.ref C) = some true
  isVE : PySem.W.subIn K (.ref C) (.type "ValueError") = some true
  opq : PySem.W.nsIn K cStatics "thirdparty.any" = some none
  fn : ∃ oc od osl dV kV doc pm an ct, K.lookup f = some ⟨oc, od, .func (PySem.W.ksFn name qual params body scope dV kV doc pm an (.ref cd) ct cc), osl⟩
  code : PySem.W.codeIn K (.ref cd) qual = true
  file : ∃ e dd vs sl fl tf, K.lookup cd = some ⟨e, dd, .fields vs, sl⟩ ∧ vs[2]? = some (.str fl tf) ∧ ((P.main.file : Str) == fl) = true
  cell : ∃ e dd sl, K.lookup cc = some ⟨e, dd, .cell (some (.ref C)), sl⟩
section
variable {P : Program} {w : World} {K : PySem.W.Frag} {mg : Str → Option Value} {base : Heap} {N ps : List Str} {C f cc cd : Addr} {name qual : Str} {params : Arguments} {body : List Stmt} {scope : Scope}
abbrev nf (name qual : Str) (params : Arguments) (body : List Stmt) (scope : Scope) (cc cd : Addr) : NF := ⟨name, qual, params, body, scope, [("__class__", cc)], cd⟩
theorem call_mw {prog : Program} {w : World} {A : Around} {E : Value → Shared → Prop} {h : Heap} {g : Array GenState} {d : Drawn} {t : Nat} {os : OsState} {nm q : Str} {C N : Addr} {bs bm : List Value} {hdct : Bool} {sn : List Str} {sub : List Value} {ab : Bool} {col : Option Bool} {dd : Option Addr} {k0 k1 k2 k3 k5 : Option Value}
    {u e t0 : Addr} {rest : List Value} {Q : Value → Shared → Prop}
    (hC : h.get? C = some (excClassObj nm q C N bs bm hdct sn sub ab col dd k0 k1 k2 k3 k5 "ValueError.__new__")) (he : h.get? e = some (HandSPX.excO C t0)) (hu : h.get? u = some (PySem.W.kxs_mw "ValueError.__init__" e)) (hrest : rest.length ≤ sizeLine)
    (hq : ∀ h' t1, (∀ b o, b ≠ e → h.get? b = some o → h'.get? b = some o) → h'.get? e = some (HandSPX.excO C t1) → Q .none ⟨h', g, d, t, os⟩) :
    wpAny (model prog w) A (call (.ref u) rest) Q E ⟨h, g, d, t, os⟩ := by
  refine wpAny_call (codeAny_of_tree ?_)
  show wpAny _ A.in1 (callAny (.ref u) ⟨rest, []⟩) _ _ _
  simp only [callAny]
  refine wpAny_bind (wpAny_load hu ?_)
  simp only [PySem.W.kxs_mw, show (Value.type "method-wrapper" == Value.type "method" || Value.type "method-wrapper" == Value.type "builtin_function_or_method" || Value.type "method-wrapper" == Value.type "method-wrapper") = true by decide, if_true]
  refine W.KFB.if_so (by decide) ?_
  refine wpAny_bind (ESX.check_bound F.excBase_ValueError hC he rfl ?_)
  refine wpAny_bind (wpAny_pure (wpAny_pure ?_))
  refine ⟨Code.quiet_builtin _ (by decide +kernel), codeAny_builtin F.excBase_ValueError.initEntry ?_⟩
  rw [Around.under_plainId F.excBase_ValueError.init.plain _]
  wp_walk
  refine hq _ h.objs.size (fun b o hb ho => ?_) ?_
  · rw [Heap.get?_update_other _ _ (Ne.symm hb)]
    exact Heap.get?_push_of_some _ ho
  · rw [Heap.get?_update_self _ (Heap.get?_push_of_some _ he) rfl]
    rfl
/-- THE RULE -/
theorem fn_super {CX : CXT} {k : Nat} {fd : FuncData} {sp : Sp} {e : Expr} {rest : List Stmt} {p0 p1 p2 p3 p4 : Pos} {ar : Arg} {pl : Sem Bool} (Y : SupC P K C f cc cd name qual params body scope) (hbd : body = .Expr (.Call (.Attribute (.Call (.Name "super" p0) [] [] p1) "__init__" p2) [e] [] p3) p4 :: rest)
    (hfd : ∃ oc od osl, K.lookup f = some ⟨oc, od, .func fd, osl⟩) (S : NScope N ps ["__class__"] scope) (hp : (params.posonlyargs ++ params.args).head? = some ar) (hps : ps.head? = some ar.arg) (msu : mg "super" = none) (gsu : scope.names.lookup ("super" : Str) = some .globalImplicit)
    (htop : (P.main.scope.names.lookup ("super" : Str)).isSome = false) (len : ∀ vs H Q E, sp vs H Q E → vs.length = ps.length)
    (he : ∀ env, eval (.Call (.Attribute (.Call (.Name "super" p0) [] [] p1) "__init__" p2) [e] [] p3) env = (do
      let ov ← attributeBase (.Call (.Name "super" p0) [] [] p1) "__init__" env (eval (.Call (.Name "super" p0) [] [] p1) env)
      standAt p2.atName
      let (f, first) ← holding [ov] (getMethod ov "__init__" pl)
      callWith p3 f first (backTo p3 (starEach [e] env)) []))
    (hst : ∀ env, starEach [e] env = [(false, eval e env)])
    (hbody : ∀ (A : Around) (outer : List Env) (s : Shared) (H : Hp) (vs : List V) (Q : VK) (E : XK), Room k (A.deeper (envF (nf name qual params body scope cc cd) f s.heap.objs.size)) → sp vs H Q E →
      ∃ (a : Addr) (vr : List V) (te : TE) (t : TS), vs = .ref a :: vr ∧ PE (ncx CX P w K mg base N (nf name qual params body scope cc cd) f A outer s H E) e te ∧ PSs (ncx CX P w K mg base N (nf name qual params body scope cc cd) f A outer s H E) rest t ∧ H a = some (exo a C none) ∧
        te (startF N vs [some (.ref C)]) H fun _ H' => H' a = some (exo a C none) ∧ t { nx := fun _ H'' => Q .non H'', rt := Q } (startF N vs [some (.ref C)]) H') :
    FnOk P w K mg base CX (k + 1) f fd ps sp := by
  obtain ⟨oc, od, osl, dV, kV, doc, pm, an, ct, lk⟩ := Y.fn
  obtain ⟨oc2, od2, osl2, lk2⟩ := hfd
  rw [lk] at lk2
  cases lk2
  obtain ⟨nm, q, N', bs, bm, sn, sub, ab, col, dd, k0, k1, k2, k3, k5, hC, hbm, hal⟩ := Y.along
  have hcl : PySem.W.clsIn K C = some { name := nm, bases := bs, mro := .ref C :: bm, ns := N', qualname := q, hasDict := true, slotNames := sn, subclasses := sub, abstract := ab, collection := col, hasDel := false } := by unfold PySem.W.clsIn; rw [hC] <;> rfl
  obtain ⟨ec, ddc, vsc, slc, fl, tf, lcd, hv2, hfl⟩ := Y.file
  obtain ⟨ecc, ddcc, slcc, lcc⟩ := Y.cell
  refine ⟨len, fun A outer s H args us vs Q E hr e0 hb r hsp => ?_⟩
  have hl := len _ _ _ _ hsp
  have KX : K.In s.heap := e0.mod.kin.keeps fun b o e => (e0.bs b o e).1
  have lim : s.heap.NoLimit := e0.mod.nolimit.keeps fun b o e => (e0.bs b o e).1
  refine codeAny_call_function hr.depth (KX _ _ lk) rfl S.co S.gen rfl (PySem.W.codeRec_of KX Y.code) (hb _ _ _ _ ?_)
  refine wpAny_newFunctionEnv S.nocell (fun ⟨n, _⟩ hy => S.par n (List.of_mem_zip hy).1) (fun h₁ hns hsb => ⟨lim.fresh _ hsb, ?_⟩) S.kind
  show codeAny _ _ (.func body (envF (nf name qual params body scope cc cd) f s.heap.objs.size)) _ _
  refine ks_codeAny_funcAt ?_
  have kp : ∀ b o, s.heap.get? b = some o → h₁.get? b = some o := fun b o e => hsb.extBut b o (Nat.ne_of_lt (Heap.lt_size e)) (Heap.get?_push_of_some _ e)
  have CA : CellsAt [("__class__", cc)] ["__class__"] [some (.ref C)] s.heap H := by
    have isc : s.heap.IsCell cc (some (.ref C)) := ⟨_, KX _ _ lcc, rfl⟩
    have one : ∀ {y : Str} {c : Addr}, ([(("__class__" : Str), cc)] : List (Str × Addr)).lookup y = some c → y = "__class__" ∧ c = cc := fun {y c} h => by
      have h := PySem.mem_of_lookup h
      have h := List.mem_singleton.mp h
      cases h
      exact ⟨rfl, rfl⟩
    refine ⟨rfl, fun y c h => ?_, fun x y c h1 h2 => (one h1).1.trans (one h2).1.symm, fun i y h => ?_⟩
    · rw [(one h).2]
      exact ⟨(e0.bs _ _ (e0.mod.kin _ _ lcc)).2, _, isc⟩
    · have ey : y = "__class__" := List.mem_singleton.mp (List.mem_of_getElem? h)
      subst ey
      have hi : i = 0 := by
        have := (List.getElem?_eq_some_iff.mp h).1
        simp at this
        exact this
      subst hi
      exact ⟨cc, by simp [List.lookup], fun v hv => by
        cases hv
        exact ⟨_, rfl, isc⟩⟩
  obtain ⟨a, vr, te, t, hvs, pe, ps', ea, hq⟩ := hbody A outer s H vs Q E (hr.deeper _) hsp
  have I : Inv (ncx CX P w K mg base N (nf name qual params body scope cc cd) f A outer s H E) [] (startF N vs [some (.ref C)]) H { s with heap := h₁, toks := s.toks + (ps.zip us).length } := inv_startN S hr.hd e0 hl r CA hns kp
  obtain ⟨t0, hx⟩ := exo_at I.hok ea
  have hlt : (a : Nat) < h₁.objs.size := Heap.lt_size hx
  have hxC : a ≠ C := fun z => by
    rw [z] at hx
    have z1 := I.kIn _ _ hC
    rw [hx] at z1
    cases z1
  have hn1 : scope.names.lookup ("__class__" : Str) = some .free := S.frk _ (by simp)
  have hself : scope.names.lookup ar.arg = some .local := S.par _ (List.mem_of_mem_head? hps)
  have hp0 : ps[0]? = some ar.arg := by
    rw [← List.head?_eq_getElem?]
    exact hps
  have hu0 : us[0]? = some (.ref a) := by
    obtain ⟨u, e1, e2⟩ := r.get (i := 0) (x := .ref a) (by rw [hvs]; rfl)
    rw [e1, show u = Value.ref a from e2]
  have ndP : ps.Nodup := by
    have q := S.nd.sublist (List.take_sublist (ps.length + 1) N)
    rw [show ps.length + 1 = ps.length + [("__class__" : Str)].length from rfl, S.pre] at q
    exact (List.nodup_append.mp q).1
  have hlook : (ps.zip us).reverse.lookup ar.arg = some (.ref a) := zip_look ndP hp0 hu0
  rw [hbd]
  refine ks_wpAt_execs_cons (ks_wpAt_Expr_any (ks_wpAt_MethodCall (pl := pl) ?_ (he _)) (by unfold interactive; simp [S.kind]))
  have X1 := I.kIn
  obtain ⟨oD, hD1, hD2⟩ : ∃ oD, h₁.get? C = some oD ∧ oD.data = .cls { name := nm, bases := bs, mro := .ref C :: bm, ns := N', qualname := q, hasDict := true, slotNames := sn, subclasses := sub, abstract := ab, collection := col, hasDel := false } := ⟨_, X1 _ _ hC, rfl⟩
  obtain ⟨mb, hb1, hb2⟩ := I.mod.blt
  refine ks_wpAt_super_base (env := envF (nf name qual params body scope cc cd) f s.heap.objs.size) gsu hn1 (by decide) rfl (X1 _ _ lk) rfl hp rfl (X1 _ _ lcd) rfl hv2 hfl htop ?_
  refine PySem.W.ks_loadName_global S.kind gsu (Calls.loadGlobal_builtin (env := envF (nf name qual params body scope cc cd) f s.heap.objs.size) (I.mod.glob.keeps I.bk) msu (hb1.keeps I.bk) ((hb2 _ (by decide)).trans (by kernel_rfl)) ⟨rfl, ?_⟩)
  refine wpAny_loadName_free S.kind hn1 rfl ⟨_, X1 _ _ lcc, rfl⟩ ?_
  refine wpAny_loadName_local S.kind hself hns hlook ?_
  refine ks_wpAny_isType_cls hD1 hD2 ⟨rfl, ?_⟩
  refine ks_wpAny_call_super hD1 hD2 hx rfl (fun c z => by cases z) (PySem.W.looks_mroIn X1 Y.self) (fun h' hso k => ?_)
  have I2 : Inv (ncx CX P w K mg base N (nf name qual params body scope cc cd) f A outer s H E) [] (startF N vs [some (.ref C)]) H { s with heap := h', toks := s.toks + (ps.zip us).length } := I.kept (t' := s.toks + (ps.zip us).length) k
  have X2 := I2.kIn
  have IA : PySem.W.InstAt h' a { cls := .ref C, dict := none, data := .fields #[.ref t0, .none, .none, .none, .bool false, .none] } C none := ⟨k _ _ hx, rfl, rfl, trivial⟩
  refine PySem.W.kxs_getMethod PySem.W.kxs_ValueError hso (PySem.W.looks_opaque X2 Y.opq) (l₀ := .ref C :: bm) (l := bm) ?_ (ESX.drop_own C bm) X2 hal (IA.type.andThen (PySem.W.looks_subIn X2 Y.isVE)) hxC (by decide) ?_
  · exact fun A Q E s k q => wpAny_bind ((PySem.W.looks_clsIn X2 hcl) A _ E s k (wpAny_pure q))
  have k2 : ∀ b o, h'.get? b = some o → (h'.push (PySem.W.kxs_mw "ValueError.__init__" a)).get? b = some o := fun b o e => Heap.get?_push_of_some _ e
  have I3 : Inv (ncx CX P w K mg base N (nf name qual params body scope cc cd) f A outer s H E) [] (startF N vs [some (.ref C)]) H { s with heap := h'.push (PySem.W.kxs_mw "ValueError.__init__" a), toks := s.toks + (ps.zip us).length + 1 } := I2.kept (t' := s.toks + (ps.zip us).length + 1) k2
  have hmw : (h'.push (PySem.W.kxs_mw "ValueError.__init__" a)).get? h'.objs.size = some (PySem.W.kxs_mw "ValueError.__init__" a) := Heap.get?_push_size _ rfl
  have I4 : Inv (ncx CX P w K mg base N (nf name qual params body scope cc cd) f A outer s H E) [(h'.objs.size, PySem.W.kxs_mw "ValueError.__init__" a)] (startF N vs [some (.ref C)]) H { s with heap := h'.push (PySem.W.kxs_mw "ValueError.__init__" a), toks := s.toks + (ps.zip us).length + 1 } := I3.pins_of fun p hp => by
    rw [List.mem_singleton.mp hp]
    exact ⟨hmw, I2.hok.fresh (Nat.le_refl _), Nat.ne_of_gt I2.lt, I2.nofs (Nat.le_refl _), fun v z => by cases z⟩
  dsimp only
  rw [hst]
  refine PySem.W.kxs_callWith (i := "ValueError.__init__") (x := a) rfl (Calls.evalArgs_plain (Calls.spliced_cons (thn (pe.run _ _ _ _ _ I4 hq) fun u s1 ⟨v, H1, I5, r1, ea1, hq1⟩ => Calls.spliced_nil ?_)))
  have hpin := (I5.pin (h'.objs.size, PySem.W.kxs_mw "ValueError.__init__" a) (by simp)).1
  refine ⟨hpin, ?_⟩
  obtain ⟨t1, hx1⟩ := exo_at I5.hok ea1
  have hC5 := I5.kIn _ _ hC
  obtain ⟨hp1, g1, d1, tk1, os1⟩ := s1
  refine call_mw hC5 hx1 hpin (by show 1 ≤ sizeLine; decide) fun h2 t2 k5 hx2 => ?_
  have J := I5.write (t' := tk1) (x := a) (e := a) (o := exo a C none) (by rw [ea1]; exact True.intro) (.inl rfl) k5 ⟨_, hx2⟩ (exo_ok hx2)
  have eu : upd H1 a (exo a C none) = H1 := by
    funext b
    by_cases hb : b = a
    · rw [hb, upd_same, ea1]
    · rw [upd_ne hb]
  rw [eu] at J
  have J := J.pins_of (pins' := []) (fun p hp => nomatch hp)
  refine wpAt_of_wpAny ?_
  refine wpAny_mono (ps'.run [] _ (startF N vs [some (.ref C)]) H1 _ J hq1) (fun fl s' hs => ?_) fun e s' hs => hs
  have fin : ∀ {σ' : L2.St} {H' : Hp} {v : V} {u : Value}, Inv (ncx CX P w K mg base N (nf name qual params body scope cc cd) f A outer s H E) [] σ' H' s' → L2.RelV v u → Q v H' → CE outer P w H s Q u s' :=
    fun {σ' H' v u} J rv q => ⟨v, H', J.os, J.bare, J.base, J.hok, rv, q⟩
  cases fl with
  | ret u =>
    obtain ⟨v, σ', H', J, rv, q⟩ := hs
    exact fin J rv q
  | next =>
    obtain ⟨σ', H', J, q⟩ := hs
    exact fin (v := V.non) (u := Value.none) J rfl q
  | brk =>
    obtain ⟨_, _, _, q⟩ := hs
    exact False.elim q
  | cont =>
    obtain ⟨_, _, _, q⟩ := hs
    exact False.elim q
end
end XSU
end
section
set_option maxRecDepth 100000
set_option maxHeartbeats 4000000
/-! list.count of flat things; isinstance of a caught error, with or without a dict -/
namespace XEU
open PySem PySem.Spec PyProof.Rows L2
theorem count_eqU {x : V} : ∀ {xs : List V} {us : List Value}, Vals xs us → xs.all flatV = true → us.countP (eqU x) = xs.countP fun y => eqV y x
  | _, _, .nil, _ => rfl
  | _, _, .cons r t, f => by
    rw [List.all_cons, Bool.and_eq_true] at f
    rw [List.countP_cons, List.countP_cons, count_eqU t f.2, eqU_of r f.1]
section
variable {X : Cx}
def rCountF (K : PySem.W.Frag) : V → List V → Hp → VK → Prop := fun x xs H Q => ∃ (a : Addr) (ys : List V) (y : V), x = V.ref a ∧ xs = [y] ∧ SqL K H a ys ∧ flatV y = true ∧ ys.all flatV = true ∧ Q (.int ((ys.countP fun z => eqV z y : Nat) : Int)) H
theorem mt_countF : MtR X "list.count" (rCountF X.K) := by
  intro pins s σ H x xs v us Q I rx rxs h
  obtain ⟨a, ys, y, rfl, rfl, hs, fy, fys, q⟩ := h
  cases rx
  cases rxs with
  | cons ry rt =>
    rename_i uy ut
    cases rt
    obtain ⟨its, rv, ⟨⟨cls, dd, data, sl⟩, n, ho, hc, hdn, hd⟩, hlen⟩ := I.list hs
    simp only at hc hd
    subst hc hd
    refine call_meets PySem.F.slot_list_count ⟨_, ho, rfl⟩ PySem.F.entry_list_count (PySem.F.args_list_count_2 _ _)
      (SeqAt.list_countAt a its.toArray n dd sl uy (eqU y)) ⟨ho, fun u' hu' => mem_eqAt ry fy rv fys u' (by simpa using hu'), ?_⟩
    have ec : its.toArray.toList.countP (eqU y) = ys.countP fun z => eqV z y := count_eqU rv fys
    rw [ec]
    exact ⟨.int ((ys.countP fun z => eqV z y : Nat) : Int), H, I.tok _, ⟨_, rfl⟩, q⟩
end
/-- the dict of the caught error, if it has one, stands -/
def DictAt (d : Option Addr) (H : Hp) : Prop := d = none ∨ ∃ dd fs, d = some dd ∧ H dd = some (.xd fs)
def rIsE (K : PySem.W.Frag) (cls : Value) (d : Option Addr) (a : Addr) : List V → Hp → VK → Prop := fun xs H Q => ∃ (D : Addr) (c : V) (cv : Value) (b : Bool), cls = .ref D ∧ ExcC K D ∧ xs = [.ref a, c] ∧ (∀ u, RelV c u → u = cv) ∧ PySem.W.kitOne K (.ref D) cv = some b ∧ DictAt d H ∧ Q (.bl b) H
theorem call_isE {X : Cx} {a : Addr} {cls : Value} {d : Option Addr} {oe : Obj} {pn : List (Addr × Obj)} (hz : Zc cls d oe) (hf : ∃ vs, oe.data = .fields vs) : CallR (X.suite a ((a, oe) :: pn)) (.builtin "isinstance") (rIsE X.K cls d a) := by
  intro pins s σ H xs us Q I r h
  obtain ⟨D, c, cv, b, rfl, C, rfl, hcv, e, hd, q⟩ := h
  cases r with
  | cons rx rr =>
    cases rr with
    | cons rt rr =>
      cases rr
      cases rx
      have ec := hcv _ rt
      subst ec
      obtain ⟨hget, _⟩ := I.pin (a, oe) (List.mem_append.mpr (.inl List.mem_cons_self))
      obtain ⟨vs, hv⟩ := hf
      have hcl : (PySem.W.clsIn X.K D).isSome = true := by
        obtain ⟨cd, hc, _⟩ := PySem.W.any_some C.hd
        rw [hc]
        rfl
      have J : ∃ od, PySem.W.InstAt s.heap a oe D od := by
        obtain ⟨oc, od, oda, osl⟩ := oe
        obtain ⟨h1, h2⟩ := hz
        dsimp only at h1 h2 hv
        subst h1 h2 hv
        rcases hd with e1 | ⟨dd, fs, e1, e2⟩
        · subst e1
          exact ⟨none, hget, rfl, rfl, trivial⟩
        · subst e1
          have hx : ObjOk X.prog X.w H s.heap dd (.xd fs) := I.hok dd _ e2
          obtain ⟨mA, hns, hr⟩ := hx
          obtain ⟨od, ho, hl⟩ := lookIn_ns hns
          exact ⟨some od, hget, rfl, rfl, ho⟩
      obtain ⟨od, J⟩ := J
      exact PySem.W.kia_one (PySem.W.kitx_exc hcl C.hg C.hk C.hs C.ha C.hn C.ht C.hm) I.kIn J e (fun z => nomatch z) fun tk => ⟨.bl b, H, I.kept (t' := tk) fun _ _ z => z, rfl, q⟩
end XEU
end
section
set_option maxRecDepth 100000
set_option maxHeartbeats 4000000
/-! a head's facts of own error classes with an __init__ that says super() -/
namespace HeY
open PySem PySem.Spec PyProof.Rows L2 He
/-- the cells that functions among these have captured -/
def cellsOf (g : Addr → Option Obj) (l : List Addr) : List Addr := l.flatMap fun a => match g a with
  | some ⟨_, _, .func fd, _⟩ => fd.closure.map (·.2)
  | _ => []
def asE (g : Addr → Option Obj) (n : Nat) : List Addr := cStatics :: (asD g n ++ cellsOf g (asD g n))
abbrev FnY : Type := Option (Str × Str × Arguments × FuncBody × Scope)
def fnY (K : PySem.W.Frag) (x : Str) : FnY := match K.lookup (fAd K (x, some "__init__")) with
  | some ⟨_, _, .func fd, _⟩ => some (fd.name, fd.qualname, fd.params, fd.body, fd.scope)
  | _ => none
structure InD where
  cls : Str
  qual : Str
  params : Arguments
  body : List Stmt
  scope : Scope
def InD.val (d : InD) : FnY := some ("__init__", d.qual, d.params, .stmts d.body, d.scope)
abbrev AlY : Type := AlX × List FnY
def obsY (n : Nat) (fa : List Fa) (fn : List DefD) (ts : List Tab) (tf : List Defn) (xs : List InD) (ex : PySem.W.Frag → Bool) (g : Addr → Option Obj) : AlY :=
  ((obsT fa fn ts (frT g (asE g n)), ex (frT g (asE g n)) && tabsB g tf (frT g (asE g n))), xs.map fun d => fnY (frT g (asE g n)) d.cls)
def valY (fn : List DefD) (ts : List Tab) (xs : List InD) (w : World) : AlY := (valX fn ts w, xs.map InD.val)
structure SaysY (fa : List Fa) (fn : List DefD) (ts : List Tab) (tf : List Defn) (xs : List InD) (ex : PySem.W.Frag → Bool) (w : World) (h : Heap) (K : PySem.W.Frag) : Prop where
  x : SaysX fa fn ts tf ex w h K
  inits : xs.map (fun d => fnY K d.cls) = xs.map InD.val
theorem saysY_of {n : Nat} {fa : List Fa} {fn : List DefD} {ts : List Tab} {tf : List Defn} {xs : List InD} {ex : PySem.W.Frag → Bool} {w : World} {h : Heap} (e : obsY n fa fn ts tf xs ex h.get? = valY fn ts xs w) : SaysY fa fn ts tf xs ex w h (frT h.get? (asE h.get? n)) := by
  have e0 : (obsT fa fn ts (frT h.get? (asE h.get? n)), ex (frT h.get? (asE h.get? n)) && tabsB h.get? tf (frT h.get? (asE h.get? n))) = valX fn ts w := congrArg (fun z : AlY => z.1) e
  have e1 : obsT fa fn ts (frT h.get? (asE h.get? n)) = valT fn ts w := congrArg (fun z : AlX => z.1) e0
  have e2 : (ex (frT h.get? (asE h.get? n)) && tabsB h.get? tf (frT h.get? (asE h.get? n))) = true := congrArg (fun z : AlX => z.2) e0
  have e3 : xs.map (fun d => fnY (frT h.get? (asE h.get? n)) d.cls) = xs.map InD.val := congrArg (fun z : AlY => z.2) e
  obtain ⟨h1, h2⟩ := ba e2
  have key : ∀ p ∈ tf, PySem.W.codeHdIn (frT h.get? (asE h.get? n)) (cT (frT h.get? (asE h.get? n)) p).1 (cT (frT h.get? (asE h.get? n)) p).2 = true ∧ ∃ o, h.get? (cT (frT h.get? (asE h.get? n)) p).2 = some o ∧ emptyTab o = true := fun p hp => by
    obtain ⟨h3, h4⟩ := ba (List.all_eq_true.mp h2 p hp)
    refine ⟨h3, ?_⟩
    cases q : h.get? (cT (frT h.get? (asE h.get? n)) p).2 with
    | none =>
      rw [q] at h4
      cases h4
    | some o =>
      rw [q] at h4
      exact ⟨o, rfl, h4⟩
  exact ⟨⟨e1, h1, fun p hp => (key p hp).1, fun p hp => by
    obtain ⟨_, o, q, z⟩ := key p hp
    exact frT_none q z, fun p hp => by
    obtain ⟨_, o, q, z⟩ := key p hp
    rw [q, emptyTab_eq z]⟩, e3⟩
def hookY (n : Nat) (fa : List Fa) (fn : List DefD) (ts : List Tab) (tf : List Defn) (xs : List InD) (ex : PySem.W.Frag → Bool) : PySem.W.Hook where
  α := AlY
  obs := fun s => obsY n fa fn ts tf xs ex s.heap.get?
  val := fun w => valY fn ts xs w
  says := fun w h => ∃ K : PySem.W.Frag, K.In h ∧ SaysY fa fn ts tf xs ex w h K
  of := fun _ _ e => ⟨_, frT_in, saysY_of e⟩
  keeps := fun _ _ _ ⟨K, hK, c⟩ k => ⟨K, PySem.W.Frag.In.keeps hK k, ⟨⟨c.x.t, c.x.more, c.x.hd, c.x.out, fun p hp => k _ _ (c.x.empty p hp)⟩, c.inits⟩⟩
theorem obsY_eq {n : Nat} {fa : List Fa} {fn : List DefD} {ts : List Tab} {tf : List Defn} {xs : List InD} {ex : PySem.W.Frag → Bool} {g : Addr → Option Obj} {s : Shared} (h : ∀ a, g a = s.heap.get? a) : obsY n fa fn ts tf xs ex g = (hookY n fa fn ts tf xs ex).obs s := by
  have e : g = s.heap.get? := funext h
  rw [e] <;> rfl
/-! ### the classes -/
def oexB (K : PySem.W.Frag) (C : Addr) : Bool := match K.lookup C with
  | some ⟨.type "type", _, .cls cd, sl⟩ => (match cd.mro, sl.toList with
    | .ref C' :: bm, [_, _, _, _, some (.builtin n), _] => C' == C && n == "ValueError.__new__" && !cd.hasDel && cd.hasDict && PySem.HandSPX.refsVE bm && decide (PySem.W.alongIn K "__init__" bm = some (some (.builtin "ValueError.__init__")))
    | _, _ => false)
  | _ => false
theorem oexB_ok {K : PySem.W.Frag} {C : Addr} (q : oexB K C = true) : ∃ nm q N bs bm sn sub ab col dd k0 k1 k2 k3 k5, K.lookup C = some (excClassObj nm q C N bs bm true sn sub ab col dd k0 k1 k2 k3 k5 "ValueError.__new__") ∧ PySem.HandSPX.refsVE bm = true ∧ PySem.W.alongIn K "__init__" bm = some (some (.builtin "ValueError.__init__")) := by
  unfold oexB at q
  split at q
  · rename_i dd cd sl ho
    split at q
    · rename_i C' bm k0 k1 k2 k3 n k5 hm hs
      simp only [Bool.and_eq_true, beq_iff_eq, Bool.not_eq_true', decide_eq_true_eq] at q
      obtain ⟨⟨⟨⟨⟨rfl, rfl⟩, hdel⟩, hdc⟩, hr⟩, ha⟩ := q
      obtain ⟨nm, bs, mro, ns, qn, hd, sn, sub, ab, col, del⟩ := cd
      dsimp only at hm hdel hdc
      subst hm hdel hdc
      have hsl : sl = #[k0, k1, k2, k3, some (.builtin "ValueError.__new__"), k5] := by
        obtain ⟨l⟩ := sl
        simp only at hs
        rw [hs]
      subst hsl
      exact ⟨nm, qn, ns, bs, bm, sn, sub, ab, col, dd, k0, k1, k2, k3, k5, ho, hr, ha⟩
    · cases q
  · cases q
/-- the cell that such an __init__ has captured, its code object -/
def ccOf (K : PySem.W.Frag) (f : Addr) : Addr := match K.lookup f with
  | some ⟨_, _, .func fd, _⟩ => (match fd.closure with
    | [(_, c)] => c
    | _ => 0)
  | _ => 0
def cdOf (K : PySem.W.Frag) (f : Addr) : Addr := match K.lookup f with
  | some ⟨_, _, .func fd, _⟩ => (match fd.code with
    | .ref c => c
    | _ => 0)
  | _ => 0
def cloB (K : PySem.W.Frag) (f : Addr) : Bool := match K.lookup f with
  | some ⟨_, _, .func fd, _⟩ => (match fd.closure, fd.code with
    | [(n, _)], .ref _ => decide (n = "__class__") && (decide (fd.globals = mainGlobals) && decide (fd.builtins = builtinsNs))
    | _, _ => false)
  | _ => false
def fileB (K : PySem.W.Frag) (file : Str) (c : Addr) : Bool := match K.lookup c with
  | some ⟨_, _, .fields vs, _⟩ => (match (vs[2]? : Option Value) with
    | some (.str z _) => file == z
    | _ => false)
  | _ => false
def cellB (K : PySem.W.Frag) (c C : Addr) : Bool := match K.lookup c with
  | some ⟨_, _, .cell (some v), _⟩ => decide (v = .ref C)
  | _ => false
def clsB (K : PySem.W.Frag) (C : Addr) : Bool := oexB K C && (eqO (PySem.W.findIn K (.ref C) "__setattr__") (some (some (.builtin "object.__setattr__"))) && (decide (PySem.W.subIn K (.ref C) (.type "BaseException") = some true) && (decide (PySem.W.typeIn K (.ref C) = some (.type "type")) && PySem.W.keepIn K (.ref C))))
def supB (K : PySem.W.Frag) (file x qual : Str) : Bool :=
  clsB K (ga K x) && (decide (PySem.W.mroIn K (ga K x) (.ref (ga K x)) = some true) && (decide (PySem.W.subIn K (.ref (ga K x)) (.type "ValueError") = some true) && (eqO (PySem.W.nsIn K cStatics "thirdparty.any") (some none) &&
    (eqO (PySem.W.findIn K (.ref (ga K x)) "__init__") (some (some (.ref (ma K (ga K x) "__init__")))) && (decide (PySem.W.typeIn K (.ref (ma K (ga K x) "__init__")) = some (.type "function")) && (cloB K (ma K (ga K x) "__init__") &&
    (PySem.W.codeIn K (.ref (cdOf K (ma K (ga K x) "__init__"))) qual && (fileB K file (cdOf K (ma K (ga K x) "__init__")) && cellB K (ccOf K (ma K (ga K x) "__init__")) (ga K x)))))))))
theorem clsB_ok {K : PySem.W.Frag} {C : Addr} (h : clsB K C = true) : OexC K C := by
  obtain ⟨h1, h⟩ := ba h
  obtain ⟨h2, h⟩ := ba h
  obtain ⟨h3, h⟩ := ba h
  obtain ⟨h4, h5⟩ := ba h
  obtain ⟨nm, q, N, bs, bm, sn, sub, ab, col, dd, k0, k1, k2, k3, k5, e1, e2, _⟩ := oexB_ok h1
  exact ⟨⟨nm, q, N, bs, bm, sn, sub, ab, col, dd, k0, k1, k2, k3, k5, e1, e2⟩, eqO_ok h2, of_decide_eq_true h3, of_decide_eq_true h4, h5⟩
structure SupX (P : Program) (K : PySem.W.Frag) (d : InD) : Prop where
  c : XSU.SupC P K (ga K d.cls) (ma K (ga K d.cls) "__init__") (ccOf K (ma K (ga K d.cls) "__init__")) (cdOf K (ma K (ga K d.cls) "__init__")) "__init__" d.qual d.params d.body d.scope
  init : PySem.W.findIn K (.ref (ga K d.cls)) "__init__" = some (some (.ref (ma K (ga K d.cls) "__init__")))
  ty : PySem.W.typeIn K (.ref (ma K (ga K d.cls) "__init__")) = some (.type "function")
theorem supB_ok {P : Program} {K : PySem.W.Frag} {file : Str} {d : InD} (e : fnY K d.cls = d.val) (h : supB K file d.cls d.qual = true) (hf : P.main.file = file) : SupX P K d := by
  obtain ⟨h1, h⟩ := ba h
  obtain ⟨h2, h⟩ := ba h
  obtain ⟨h3, h⟩ := ba h
  obtain ⟨h4, h⟩ := ba h
  obtain ⟨h5, h⟩ := ba h
  obtain ⟨h6, h⟩ := ba h
  obtain ⟨h7, h⟩ := ba h
  obtain ⟨h8, h⟩ := ba h
  obtain ⟨h9, h10⟩ := ba h
  refine ⟨⟨clsB_ok h1, oexB_ok (ba h1).1, of_decide_eq_true h2, of_decide_eq_true h3, eqO_ok h4, ?_, h8, ?_, ?_⟩, eqO_ok h5, of_decide_eq_true h6⟩
  · unfold cloB at h7
    unfold fnY fAd at e
    unfold ccOf cdOf
    cases q : K.lookup (ma K (ga K d.cls) "__init__") with
    | none =>
      rw [q] at h7
      cases h7
    | some o =>
      obtain ⟨oc, od, dt, osl⟩ := o
      cases dt with
      | func fd =>
        rw [q] at h7
        dsimp only at e
        rw [q] at e
        obtain ⟨n1, n2, n3, n4, n5, n6, n7, n8, n9, n10, n11, n12, n13, n14, n15⟩ := fd
        have e2 : (some (n1, n2, n3, n4, n5) : FnY) = some (("__init__" : Str), d.qual, d.params, FuncBody.stmts d.body, d.scope) := e
        simp only [Option.some.injEq, Prod.mk.injEq] at e2
        obtain ⟨g1, g2, g3, g4, g5⟩ := e2
        subst g1 g2 g3 g4 g5
        dsimp only at h7 ⊢
        cases n7 with
        | nil => cases h7
        | cons p r =>
          cases r with
          | cons _ _ => cases n13 <;> cases h7
          | nil =>
            obtain ⟨n, c⟩ := p
            cases n13 with
            | ref cd =>
              obtain ⟨z1, z⟩ := ba h7
              obtain ⟨z2, z3⟩ := ba z
              obtain rfl : n = "__class__" := of_decide_eq_true z1
              obtain rfl : n6 = mainGlobals := of_decide_eq_true z2
              obtain rfl : n15 = builtinsNs := of_decide_eq_true z3
              exact ⟨oc, od, osl, _, _, _, _, _, _, rfl⟩
            | _ => cases h7
      | _ =>
        rw [q] at h7
        cases h7
  · unfold fileB at h9
    split at h9
    · rename_i e dd vs sl ho
      split at h9
      · rename_i z tf hz
        exact ⟨e, dd, vs, sl, z, tf, ho, hz, by rw [hf]; exact h9⟩
      · cases h9
    · cases h9
  · unfold cellB at h10
    split at h10
    · rename_i e dd v sl ho
      have := of_decide_eq_true h10
      subst this
      exact ⟨e, dd, sl, ho⟩
    · cases h10
end HeY
end
section
set_option maxRecDepth 100000
set_option maxHeartbeats 4000000
/-! list(zip(a, b)), two lists -/
namespace XZip
open PySem PySem.Spec PyProof.Rows L2 PySem.W
theorem zip_no_len : typeLookup (.type "zip") "__len__" = pure none := by rw [typeLookup_type, builtinLookup_eq_fast]; kernel_rfl
theorem zip_no_hint : typeLookup (.type "zip") "__length_hint__" = pure none := by rw [typeLookup_type, builtinLookup_eq_fast]; kernel_rfl
/-- the zip behind i turns, its pairs held -/
structure ZSt (h : Heap) (z TI TO i1 i2 l1 l2 S : Addr) (xs ys : Array Value) (i : Nat) : Prop where
  ti : IsPair h TI (.ref i1) (.ref i2)
  a1 : h.IsListIter i1 l1 i
  a2 : h.IsListIter i2 l2 i
  b1 : h.IsList l1 xs
  b2 : h.IsList l2 ys
  zz : (IsZip h z TI TO .none ∧ ∃ a b, IsPair h TO a b) ∨ ∃ T f oT, IsZipHeld h z TI TO T f ∧ h.get? T = some oT ∧ T ≠ z ∧ T ≠ i1 ∧ T ≠ i2 ∧ T ≠ S
theorem ZSt.keep {h h' : Heap} {z TI TO i1 i2 l1 l2 S : Addr} {xs ys : Array Value} {i : Nat} (x : ZSt h z TI TO i1 i2 l1 l2 S xs ys i) (n : S ∉ [z, TI, TO, i1, i2, l1, l2]) (hk : ∀ b o, b ≠ S → h.get? b = some o → h'.get? b = some o) : ZSt h' z TI TO i1 i2 l1 l2 S xs ys i := by
  simp only [List.mem_cons, List.not_mem_nil, or_false, not_or] at n
  obtain ⟨dz, dTI, dTO, d1, d2, e1, e2⟩ := n
  refine ⟨hk _ _ (Ne.symm dTI) x.ti, x.a1.at fun o e => hk _ o (Ne.symm d1) e, x.a2.at fun o e => hk _ o (Ne.symm d2) e, x.b1.at fun o e => hk _ o (Ne.symm e1) e, x.b2.at fun o e => hk _ o (Ne.symm e2) e, ?_⟩
  rcases x.zz with ⟨hz, a, b, hTO⟩ | ⟨T, f, oT, hz, hT, r1, r2, r3, r4⟩
  · exact .inl ⟨hk _ _ (Ne.symm dz) hz, a, b, hk _ _ (Ne.symm dTO) hTO⟩
  · exact .inr ⟨T, f, oT, hk _ _ (Ne.symm dz) hz, hk _ _ r4 hT, r1, r2, r3, r4⟩
section
variable {prog : Program} {w : World} {A : Around} {E : Value → Shared → Prop} {s : Shared} {z TI TO i1 i2 l1 l2 S : Addr} {xs ys : Array Value}
theorem zst_item {i : Nat} {x y : Value} {Q : Option Value → Shared → Prop} (D : ZipApart z TI TO i1 i2 l1 l2) (st : ZSt s.heap z TI TO i1 i2 l1 l2 S xs ys i) (hS : S < s.heap.objs.size) (ex : xs[i]? = some x) (ey : ys[i]? = some y)
    (hQ : ∀ h', ZSt h' z TI TO i1 i2 l1 l2 S xs ys (i + 1) → IsPair h' s.heap.objs.size x y → (∀ b o, b ∉ [z, TO, i1, i2] → s.heap.get? b = some o → h'.get? b = some o) → Q (some (.ref s.heap.objs.size)) { s with heap := h' }) :
    wpAny (model prog w) A (pyNext (.ref z)) Q E s := by
  obtain ⟨hTI, h1, h2, hl1, hl2, hz⟩ := st
  have lt : ∀ {c o}, s.heap.get? c = some o → s.heap.objs.size ≠ c := fun e => Nat.ne_of_gt (Heap.lt_size e)
  have n1 : s.heap.objs.size ≠ i1 := let ⟨_, e, _⟩ := h1; lt e
  have n2 : s.heap.objs.size ≠ i2 := let ⟨_, e, _⟩ := h2; lt e
  rcases hz with ⟨hz, a, b, hTO⟩ | ⟨T, f, oT, hz, hT, r1, r2, r3, r4⟩
  · refine wpAny_pyNext_zip_item D hz hTI hTO h1 h2 hl1 hl2 ex ey fun h' a1 a2 a3 a4 a5 a6 hk => ?_
    exact hQ h' ⟨hk _ _ D.TIz D.TITO D.TIi1 D.TIi2 hTI, a3, a4, hl1.at fun o e => hk _ o D.l1z D.l1TO D.l1i1 D.l1i2 e, hl2.at fun o e => hk _ o D.l2z D.l2TO D.l2i1 D.l2i2 e, .inr ⟨s.heap.objs.size, false, _, a1, a5, lt hz, n1, n2, Nat.ne_of_gt hS⟩⟩ a5
      fun c o hc e => hk c o (fun x => hc (by simp [x])) (fun x => hc (by simp [x])) (fun x => hc (by simp [x])) (fun x => hc (by simp [x])) e
  · refine wpAny_pyNext_zip_item_held D hz hT hTI h1 h2 hl1 hl2 ex ey fun h' a1 a3 a4 a5 a6 hk => ?_
    exact hQ h' ⟨hk _ _ D.TIz D.TIi1 D.TIi2 hTI, a3, a4, hl1.at fun o e => hk _ o D.l1z D.l1i1 D.l1i2 e, hl2.at fun o e => hk _ o D.l2z D.l2i1 D.l2i2 e, .inr ⟨T, true, oT, a1, hk _ _ r1 r2 r3 hT, r1, r2, r3, r4⟩⟩ a5
      fun c o hc e => hk c o (fun x => hc (by simp [x])) (fun x => hc (by simp [x])) (fun x => hc (by simp [x])) e
theorem zst_done {i : Nat} {Q : Option Value → Shared → Prop} (hh : A.handled = none) (D : ZipApart z TI TO i1 i2 l1 l2) (st : ZSt s.heap z TI TO i1 i2 l1 l2 S xs ys i) (hend : xs[i]? = none ∨ ys[i]? = none)
    (hQ : ∀ h', (∀ b o, b ∉ [z, TO, i1, i2] → s.heap.get? b = some o → h'.get? b = some o) → Q none { s with heap := h' }) : wpAny (model prog w) A (pyNext (.ref z)) Q E s := by
  obtain ⟨hTI, h1, h2, hl1, hl2, hz⟩ := st
  rcases hz with ⟨hz, a, b, hTO⟩ | ⟨T, f, oT, hz, hT, r1, r2, r3, r4⟩
  · exact wpAny_pyNext_zip_end hh D hz hTI hTO h1 h2 hl1 hl2 hend fun h' hk => hQ h' fun c o hc e => hk c o (fun x => hc (by simp [x])) (fun x => hc (by simp [x])) (fun x => hc (by simp [x])) (fun x => hc (by simp [x])) e
  · exact wpAny_pyNext_zip_end_held hh D hz hT hTI h1 h2 hl1 hl2 hend fun h' hk => hQ h' fun c o hc e => hk c o (fun x => hc (by simp [x])) (fun x => hc (by simp [x])) (fun x => hc (by simp [x])) e
end
/-- the pairs' tuples -/
structure ZG (xs ys : Array Value) (lo : Addr) (h : Heap) (as : List Addr) : Prop where
  rise : as.Pairwise (· < ·)
  above : ∀ a ∈ as, lo < a
  pairs : ∀ (j : Nat) (a : Addr), as[j]? = some a → ∃ x y, xs[j]? = some x ∧ ys[j]? = some y ∧ IsPair h a x y
theorem ZG.there {xs ys : Array Value} {lo : Addr} {h : Heap} {as : List Addr} (g : ZG xs ys lo h as) {a : Addr} (ha : a ∈ as) : a < h.objs.size := by
  obtain ⟨j, hj⟩ := List.mem_iff_getElem?.mp ha
  obtain ⟨_, _, _, _, e⟩ := g.pairs j a hj
  exact Heap.lt_size e
section
variable {prog : Program} {w : World} {A : Around} {s : Shared} {R : Result → Shared → Prop} {z TI TO i1 i2 l1 l2 S : Addr} {xs ys : Array Value} {n : Nat}
theorem z_loop (hh : A.handled = none) (D : ZipApart z TI TO i1 i2 l1 l2) (nS : S ∉ [z, TI, TO, i1, i2, l1, l2]) (low : ∀ b ∈ [z, TO, i1, i2], b < S) (hx : xs.size = n) (hy : ys.size = n) (hn : n ≤ sizeLine) (res : Value) {h₁ : Heap}
    (hR : ∀ h' tk acc c as, (∀ b o, b ≠ S → b ∉ [z, TO, i1, i2] → h₁.get? b = some o → h'.get? b = some o) → h'.get? S = some { cls := .type "list", dict := none, data := .seq acc c, slots := #[] } → as.length = n → ZG xs ys S h' as →
      acc.toList = as.map Value.ref → R (.ok (.ret res)) { s with heap := h', toks := tk }) :
    ∀ (k i : Nat) (h : Heap) (tk c : Nat) (acc : Array Value) (as : List Addr), n - i = k → i ≤ n → ZSt h z TI TO i1 i2 l1 l2 S xs ys i → (∀ b o, b ≠ S → b ∉ [z, TO, i1, i2] → h₁.get? b = some o → h.get? b = some o) →
      h.get? S = some { cls := .type "list", dict := none, data := .seq acc c, slots := #[] } → acc.toList = as.map Value.ref → as.length = i → ZG xs ys S h as →
      codeAny (model prog w) A (.builtin "list.extend.loop" ⟨[.ref S, .ref z, res], []⟩) R { s with heap := h, toks := tk } := by
  have nSw : S ∉ [z, TO, i1, i2] := fun hm => Nat.lt_irrefl _ (low S hm)
  have nw : ∀ {a : Addr}, S < a → a ∉ [z, TO, i1, i2] := fun {a} h hm => Nat.lt_irrefl _ (Nat.lt_trans h (low a hm))
  intro k
  induction k with
  | zero =>
    intro i h tk c acc as hk hi hst hkeep hS hacc hal hG
    have hin : i = n := by omega
    refine codeAny_builtin PySem.F.entry_extend_loop ?_
    rw [Around.under_plainId PySem.F.plain_extend_loop _]
    show wpAny _ A.in1 (pyNext (.ref z) >>= _) _ _ _
    refine wpAny_bind (zst_done (s := { s with heap := h, toks := tk }) (A := A.in1) hh D hst (.inl (Array.getElem?_eq_none (by omega))) fun h' he => ?_)
    refine wpAny_pure (hR h' tk acc c as (fun b o h1 h2 e => he b o h2 (hkeep b o h1 h2 e)) (he S _ nSw hS) (by omega) ⟨hG.rise, hG.above, fun j a hj => ?_⟩ hacc)
    obtain ⟨x, y, e1, e2, e3⟩ := hG.pairs j a hj
    exact ⟨x, y, e1, e2, he a _ (nw (hG.above a (List.mem_of_getElem? hj))) e3⟩
  | succ k ih =>
    intro i h tk c acc as hk hi hst hkeep hS hacc hal hG
    have hlt : i < n := by omega
    have ex : xs[i]? = some (xs[i]'(by omega)) := Array.getElem?_eq_getElem (by omega)
    have ey : ys[i]? = some (ys[i]'(by omega)) := Array.getElem?_eq_getElem (by omega)
    have hsz : acc.size = i := by rw [← Array.length_toList, hacc, List.length_map, hal]
    refine codeAny_builtin PySem.F.entry_extend_loop ?_
    rw [Around.under_plainId PySem.F.plain_extend_loop _]
    show wpAny _ A.in1 (pyNext (.ref z) >>= _) _ _ _
    refine wpAny_bind (zst_item (s := { s with heap := h, toks := tk }) D hst (Heap.lt_size hS) ex ey fun h' hst' ht hkp => ?_)
    dsimp only at ht hkp ⊢
    have hS' := hkp S _ nSw hS
    have up : ∀ b o, b ≠ S → h'.get? b = some o → (h'.update S (Obj.mapSeq (·.push (Value.ref h.objs.size)))).get? b = some o := fun b o hb e => (Heap.get?_update_other _ _ (Ne.symm hb)).trans e
    have hSl : S < h.objs.size := Heap.lt_size hS
    show wpAny _ A.in1 (updateSeq S (·.push (Value.ref h.objs.size)) >>= _) _ _ _
    refine wpAny_bind ?_
    refine wpAny_updateSeq hS' rfl (wpAny_pure ⟨plainId_quiet PySem.F.plain_extend_loop _, ih (i + 1) _ tk _ (acc.push (Value.ref h.objs.size)) (as ++ [h.objs.size]) (by omega) hlt (hst'.keep nS up)
      (fun b o h1 h2 e => up b o h1 (hkp b o h2 (hkeep b o h1 h2 e))) (Heap.get?_update_self _ hS' rfl) (by rw [Array.toList_push, hacc, List.map_append]; rfl) (by rw [List.length_append, hal]; rfl) ⟨?_, ?_, ?_⟩⟩) (by rw [hsz]; omega) (by show (acc.push (Value.ref h.objs.size)).size ≤ sizeLine + 1; rw [Array.size_push, hsz]; omega)
    · refine List.pairwise_append.mpr ⟨hG.rise, List.pairwise_singleton _ _, fun a ha b hb => ?_⟩
      rw [List.mem_singleton.mp hb]
      exact hG.there ha
    · intro a ha
      rcases List.mem_append.mp ha with ha | ha
      · exact hG.above a ha
      · rw [List.mem_singleton.mp ha]; exact hSl
    · intro j b hj
      rcases Nat.lt_trichotomy j as.length with h1 | h1 | h1
      · rw [List.getElem?_append_left h1] at hj
        obtain ⟨x', y', e1, e2, e3⟩ := hG.pairs j b hj
        have hb := hG.above b (List.mem_of_getElem? hj)
        exact ⟨x', y', e1, e2, up b _ (Nat.ne_of_gt hb) (hkp b _ (nw hb) e3)⟩
      · subst h1
        have hb : h.objs.size = b := by simpa using hj
        subst hb
        exact ⟨_, _, by rw [hal]; exact ex, by rw [hal]; exact ey, up _ _ (Nat.ne_of_gt hSl) ht⟩
      · have hnone : (as ++ [h.objs.size])[j]? = none := List.getElem?_eq_none (by rw [List.length_append, List.length_singleton]; omega)
        rw [hnone] at hj; cases hj
theorem z_call {E : Value → Shared → Prop} {Q : Value → Shared → Prop} (hh : A.handled = none) (D : ZipApart z TI TO i1 i2 l1 l2) (hx : xs.size = n) (hy : ys.size = n) (hn : n ≤ sizeLine) (below : ∀ b ∈ [z, TI, TO, i1, i2, l1, l2], b < s.heap.objs.size)
    (hz : IsZip s.heap z TI TO .none) (hTI : IsPair s.heap TI (.ref i1) (.ref i2)) (hTO : ∃ a b, IsPair s.heap TO a b) (h1 : s.heap.IsListIter i1 l1 0) (h2 : s.heap.IsListIter i2 l2 0) (hl1 : s.heap.IsList l1 xs) (hl2 : s.heap.IsList l2 ys)
    (hQ : ∀ h' tk acc c as, (∀ b o, b ∉ [z, TO, i1, i2] → s.heap.get? b = some o → h'.get? b = some o) → h'.get? s.heap.objs.size = some { cls := .type "list", dict := none, data := .seq acc c, slots := #[] } → as.length = n → ZG xs ys s.heap.objs.size h' as →
      acc.toList = as.map Value.ref → Q (.ref s.heap.objs.size) { s with heap := h', toks := tk }) :
    wpAny (model prog w) A (call (.type "list") [.ref z]) Q E s := by
  refine callType_codes (Q₁ := fun obj s₁ => obj = .ref s.heap.objs.size ∧ s₁ = { s with heap := s.heap.push { cls := .type "list", data := .seq #[] } }) PySem.F.called_list (PySem.F.typeCall_list_1 _) PySem.F.entry_list_init
    (code_list_new _ ⟨rfl, rfl⟩) fun obj s₁ h₁ => ?_
  obtain ⟨rfl, rfl⟩ := h₁
  have hS : (s.heap.push { cls := .type "list", data := .seq #[] }).get? s.heap.objs.size = some { cls := .type "list", data := .seq #[] } := Heap.get?_push_size _ rfl
  refine ⟨⟨_, hS, rfl⟩, PySem.F.args_list_init_2 _ _, ?_⟩
  show wpAny _ _ (do let old ← Builtin.List.listItems (.ref s.heap.objs.size); Builtin.List.listUpdate (.ref s.heap.objs.size) (fun _ => #[]); letGo old.toList.reverse; Builtin.List.listExtendWith (.ref s.heap.objs.size) (.ref z) .none) _ _ _
  refine wpAny_bind ?_
  unfold Builtin.List.listItems
  refine wpAny_bind (wpAny_seqItems hS rfl (wpAny_pure ?_))
  show wpAny _ _ (updateSeq s.heap.objs.size (fun _ => #[]) >>= fun _ => letGo (#[] : Array Value).toList.reverse >>= fun _ => Builtin.List.listExtendWith (.ref s.heap.objs.size) (.ref z) .none) _ _ _
  refine wpAny_bind (wpAny_updateSeq hS rfl ?_)
  have hS₂ := Heap.get?_update_self (Obj.mapSeq (fun _ => (#[] : Array Value))) hS rfl
  refine wpAny_bind (wpAny_letGo ?_)
  have k0 : ∀ b o, s.heap.get? b = some o → ((s.heap.push { cls := .type "list", data := .seq #[] }).update s.heap.objs.size (Obj.mapSeq (fun _ => (#[] : Array Value)))).get? b = some o := fun b o e =>
    (Heap.get?_update_other _ _ (Nat.ne_of_gt (Heap.lt_size e))).trans (Heap.get?_push_of_some _ e)
  generalize (s.heap.push { cls := .type "list", data := .seq #[] }).update s.heap.objs.size (Obj.mapSeq (fun _ => (#[] : Array Value))) = hB at hS₂ k0
  have nz : s.heap.objs.size ≠ z := Nat.ne_of_gt (below z (by simp))
  have hT : (⟨hB, s.gens, s.drawn, s.toks, s.os⟩ : Shared).TypeIs (.ref z) "zip" := ⟨_, k0 _ _ hz, rfl⟩
  unfold Builtin.List.listExtendWith
  refine wpAny_bind (wpAny_typeOf (T := "zip") hT ?_)
  have g1 : Builtin.List.listSameRef (.ref s.heap.objs.size) (.ref z) = false := by simp [Builtin.List.listSameRef, nz]
  have g2 : (Value.type "zip" == Value.type "list") = false := by decide
  have g3 : (Value.type "zip" == Value.type "tuple") = false := by decide
  simp only [g1, g2, g3, Bool.or_false, Bool.false_eq_true, if_false]
  refine wpAny_bind (wpAny_pyIter_zip (k0 _ _ hz) ?_)
  refine wpAny_bind (wpAny_holding ?_)
  unfold Builtin.List.listLengthHint
  refine wpAny_bind (wpAny_specialOf hT zip_no_len ?_)
  show wpAny _ _ (specialOf (Value.ref z) (Str.ofString "__length_hint__") >>= _) _ _ _
  refine wpAny_bind (wpAny_specialOf hT zip_no_hint ?_)
  refine wpAny_pure ?_
  have nS : s.heap.objs.size ∉ [z, TI, TO, i1, i2, l1, l2] := fun hm => Nat.lt_irrefl _ (below _ hm)
  have st0 : ZSt s.heap z TI TO i1 i2 l1 l2 s.heap.objs.size xs ys 0 := ⟨hTI, h1, h2, hl1, hl2, .inl ⟨hz, hTO⟩⟩
  have low : ∀ b ∈ [z, TO, i1, i2], b < s.heap.objs.size := fun b hb => below b (by
    simp only [List.mem_cons, List.not_mem_nil, or_false] at hb ⊢
    rcases hb with h | h | h | h <;> simp [h])
  show wpAny _ _ (rule "list.extend.makes-room" >>= fun _ => Builtin.List.listTouch (.ref s.heap.objs.size) >>= fun _ =>
    again (.builtin "list.extend.loop" ⟨[.ref s.heap.objs.size, .ref z, .none], []⟩)) _ _ _
  refine wpAny_bind (wpAny_rule ?_)
  refine wpAny_bind ?_
  show wpAny _ _ (updateSeq s.heap.objs.size (·.push .none) >>= fun _ => updateSeq s.heap.objs.size (·.pop)) _ _ _
  refine wpAny_bind (wpAny_updateSeq hS₂ rfl ?_)
  have hS₃ := Heap.get?_update_self (Obj.mapSeq (·.push Value.none)) hS₂ rfl
  refine wpAny_updateSeq hS₃ rfl ?_
  have hS₄ := Heap.get?_update_self (Obj.mapSeq (·.pop)) hS₃ rfl
  refine wpAny_pure ⟨plainId_quiet PySem.F.plain_extend_loop _, z_loop (prog := prog) (w := w) (A := A.in1) (R := _) (s := s) (h₁ := s.heap) (show A.in1.handled = none from hh) D nS low hx hy hn .none (fun h' tk acc c as hk hS' hl hG hacc => ?_) n 0 _ s.toks _ #[] [] (Nat.sub_zero _) (Nat.zero_le _)
    (st0.keep nS fun b o hb e => (Heap.get?_update_other _ _ (Ne.symm hb)).trans ((Heap.get?_update_other _ _ (Ne.symm hb)).trans (k0 b o e))) (fun b o hb _ e => (Heap.get?_update_other _ _ (Ne.symm hb)).trans ((Heap.get?_update_other _ _ (Ne.symm hb)).trans (k0 b o e))) hS₄ rfl rfl
    ⟨List.Pairwise.nil, (fun _ ha => nomatch ha), (fun j a hj => by simp at hj)⟩⟩
  exact ⟨rfl, hQ h' tk acc c as (fun b o hb e => hk b o (Nat.ne_of_lt (Heap.lt_size e)) hb e) hS' hl hG hacc⟩
end
/-! ### the rule -/
def putZ : Hp → List Addr → List (V × V) → Hp
  | H, a :: as, p :: ps => putZ (upd H a (.tup [p.1, p.2])) as ps
  | H, _, _ => H
theorem putZ_off {b : Addr} : ∀ (as : List Addr) (ps : List (V × V)) (H : Hp), b ∉ as → putZ H as ps b = H b
  | [], _, _, _ => rfl
  | _ :: _, [], _, _ => rfl
  | a :: as, p :: ps, H, h => by
    show putZ (upd H a (.tup [p.1, p.2])) as ps b = H b
    rw [putZ_off as ps _ (fun z => h (List.mem_cons_of_mem _ z)), upd_ne (fun z => h (by rw [z]; exact List.mem_cons_self))]
theorem putZ_at : ∀ (as : List Addr) (ps : List (V × V)) (H : Hp), as.length = ps.length → as.Nodup → ∀ (j : Nat) (t : Addr) (p : V × V), as[j]? = some t → ps[j]? = some p → putZ H as ps t = some (.tup [p.1, p.2])
  | [], _, _, _, _, j, _, _, e, _ => by simp at e
  | _ :: _, [], _, h, _, _, _, _, _, _ => by cases h
  | a :: as, q :: ps, H, h, hn, j, t, p, e1, e2 => by
    have hn' := List.nodup_cons.mp hn
    show putZ (upd H a (.tup [q.1, q.2])) as ps t = some (.tup [p.1, p.2])
    cases j with
    | zero =>
      obtain rfl : a = t := by simpa using e1
      obtain rfl : q = p := by simpa using e2
      rw [putZ_off as ps _ hn'.1, upd_same]
    | succ j => exact putZ_at as ps _ (Nat.succ.inj h) hn'.2 j t p (by simpa using e1) (by simpa using e2)
theorem zip_get {xs ys : List V} {j : Nat} {p : V × V} (h : (xs.zip ys)[j]? = some p) : xs[j]? = some p.1 ∧ ys[j]? = some p.2 := by
  rw [List.getElem?_zip_eq_some] at h
  exact h
section
variable {X : Cx}
theorem zip_laid {pins : List (Addr × Obj)} {σ : L2.St} {H : Hp} {s : Shared} {h' : Heap} {tk : Nat} {xs ys : List V} {us vs : List Value} {acc : Array Value} {c : Nat} {as : List Addr} {S : Addr} (I : Inv X pins σ H s) (hz : xs.length ≤ sizeLine) (he : xs.length = ys.length) (rx : Vals xs us) (ry : Vals ys vs)
    (hk : ∀ b o, s.heap.get? b = some o → h'.get? b = some o) (hSl : s.heap.objs.size ≤ S) (hS : h'.get? S = some { cls := .type "list", dict := none, data := .seq acc c, slots := #[] }) (hl : as.length = xs.length) (hG : ZG us.toArray vs.toArray S h' as) (hacc : acc.toList = as.map Value.ref) :
    ∃ H' : Hp, (∀ b o, H b = some o → H' b = some o) ∧ H S = none ∧ H' S = some (.lst (as.map V.ref)) ∧ (∀ (j : Nat) (t : Addr) (x y : V), as[j]? = some t → xs[j]? = some x → ys[j]? = some y → H' t = some (.tup [x, y])) ∧ Inv X pins σ H' { s with heap := h', toks := tk } := by
  have hSn : S ∉ as := fun z => Nat.lt_irrefl _ (hG.above _ z)
  have nd : as.Nodup := List.Pairwise.imp (fun {a b} (h : a < b) => Nat.ne_of_lt h) hG.rise
  have new : ∀ t ∈ as, H t = none := fun t ht => I.hok.fresh (Nat.le_trans hSl (Nat.le_of_lt (hG.above t ht)))
  have newS : H S = none := I.hok.fresh hSl
  have lz : (xs.zip ys).length = xs.length := by rw [List.length_zip]; omega
  have atP := putZ_at as (xs.zip ys) (upd H S (.lst (as.map V.ref))) (by omega) nd
  have off : ∀ b, b ∉ as → b ≠ S → putZ (upd H S (.lst (as.map V.ref))) as (xs.zip ys) b = H b := fun b h1 h2 => by rw [putZ_off as _ _ h1, upd_ne h2]
  have low : ∀ b o, s.heap.get? b = some o → b ∉ as ∧ b ≠ S := fun b o e => ⟨fun z => absurd (Heap.lt_size e) (Nat.not_lt.mpr (Nat.le_trans hSl (Nat.le_of_lt (hG.above b z)))), Nat.ne_of_lt (Nat.lt_of_lt_of_le (Heap.lt_size e) hSl)⟩
  have kp : ∀ b u, H b = some u → (putZ (upd H S (.lst (as.map V.ref))) as (xs.zip ys)) b = some u := fun b u e => by
    rw [off b (fun z => by rw [new b z] at e; cases e) (fun z => by rw [z, newS] at e; cases e)]
    exact e
  have eS : putZ (upd H S (.lst (as.map V.ref))) as (xs.zip ys) S = some (.lst (as.map V.ref)) := by rw [putZ_off as _ _ hSn, upd_same]
  refine ⟨putZ (upd H S (.lst (as.map V.ref))) as (xs.zip ys), kp, newS, eS, fun j t x y e1 e2 e3 => atP j t (x, y) e1 (by rw [List.getElem?_zip_eq_some]; exact ⟨e2, e3⟩), ?_⟩
  refine I.call' (ch := []) rfl ⟨fun b o q _ _ _ => hk b o q, fun b o q _ _ _ => ⟨o.slots, hk b o q⟩, fun b o q n _ => ?_, fun b o q _ => ⟨o, hk b o q⟩, fun b xs q => kp b _ q, fun b o u q => kp b _ q, fun b ps q => ⟨#[], by rw [kp b _ q]; simp⟩⟩ (fun b u q => ?_) I.bare fun b z => by simp at z
  · obtain ⟨z1, z2⟩ := low b o q
    rw [off b z1 z2]
    exact n
  · by_cases hb : b ∈ as
    · obtain ⟨j, hj⟩ := List.mem_iff_getElem?.mp hb
      have hjl : j < xs.length := by
        have := (List.getElem?_eq_some_iff.mp hj).1
        omega
      have ex : xs[j]? = some (xs[j]'hjl) := List.getElem?_eq_getElem hjl
      have ey : ys[j]? = some (ys[j]'(by omega)) := List.getElem?_eq_getElem (by omega)
      have e3 := atP j b (xs[j]'hjl, ys[j]'(by omega)) hj (by rw [List.getElem?_zip_eq_some]; exact ⟨ex, ey⟩)
      rw [e3] at q
      cases q
      obtain ⟨x, y, f1, f2, f3⟩ := hG.pairs j b hj
      obtain ⟨u, g1, r1⟩ := rx.get ex
      obtain ⟨v, g2, r2⟩ := ry.get ey
      obtain rfl : u = x := Option.some.inj (g1.symm.trans (by simpa using f1))
      obtain rfl : v = y := Option.some.inj (g2.symm.trans (by simpa using f2))
      exact ⟨by show 2 ≤ sizeLine; decide, [u, v], .cons r1 (.cons r2 .nil), ⟨_, f3, rfl, _, rfl⟩⟩
    · by_cases hb2 : b = S
      · rw [hb2] at q ⊢
        rw [eS] at q
        cases q
        refine ⟨by rw [List.length_map]; omega, acc.toList, c, by rw [hacc]; exact LiI.vals_refs as, ?_⟩
        rw [Array.toArray_toList]
        exact hS
      · rw [off b hb hb2] at q
        exact (I.hok b u q).stay (fun d v _ y => hk d v y) (fun d y => kp d _ y) fun d xs y => kp d _ y
def rZipL (K : PySem.W.Frag) : List V → Hp → VK → Prop := fun vs H Q => ∃ (a b : Addr) (xs ys : List V), vs = [.ref a, .ref b] ∧ SqL K H a xs ∧ SqL K H b ys ∧ xs.length = ys.length ∧ xs.length ≤ 4000 ∧
  ∀ (H' : Hp) (p : Addr) (ts : List Addr), (∀ b o, H b = some o → H' b = some o) → H p = none → H' p = some (.lst (ts.map V.ref)) → ts.length = xs.length → (∀ (j : Nat) (t : Addr) (x y : V), ts[j]? = some t → xs[j]? = some x → ys[j]? = some y → H' t = some (.tup [x, y])) → Q (.ref p) H'
/-- list(zip(e, e2)) -/
theorem pe_listZip {e e2 : Expr} {ta : TA} {p p2 pos pos2 : Pos} (hc : X.calm = true) (ha : PA X [e, e2] ta) (hg : Gl X "list") (hm : X.mg "list" = none) (hg2 : Gl X "zip") (hm2 : X.mg "zip" = none)
    (hs0 : starEach [.Call (.Name "zip" p2) [e, e2] [] pos2] X.env = (false, eval (.Call (.Name "zip" p2) [e, e2] [] pos2) X.env) :: starEach [] X.env := by rfl)
    (hs : starEach [e, e2] X.env = (false, eval e X.env) :: starEach [e2] X.env := by rfl) (hpl : (backTo pos2 (starEach [e2] X.env)).any (·.1) = false := by rfl) :
    PE X (.Call (.Name "list" p) [.Call (.Name "zip" p2) [e, e2] [] pos2] [] pos) (fun σ H Q => ta σ H fun vs H1 => rZipL X.K vs H1 Q) := by
  refine ⟨fun pins s σ H Q I hq => ?_⟩
  refine wpAny_Call_Name_kw (ld_blt I hg hm (by decide +kernel : bootBuiltins "list" = some (.type "list")) ?_)
  refine PyProof.Rows.callWith_type1 ?_ hs0 rfl
  rw [hs0]
  show wpAny _ _ (spliced ((false, eval (.Call (.Name "zip" p2) [e, e2] [] pos2) X.env) :: backTo pos (starEach [] X.env))) _ _ s
  refine Calls.spliced_cons ?_
  refine Call_ (ld_blt I hg2 hm2 PyProof.Rows.boot_zip (PyProof.Rows.callWith_type1 (thn (ha.run pos2 pins s σ H _ I hq) fun us s1 ⟨vs, H1, I1, r1, q1⟩ => ?_) hs hpl))
  obtain ⟨a, b, xs, ys, ex, hqx, hqy, hlen, hz, q⟩ := q1
  subst ex
  cases r1 with
  | cons r rr =>
    cases rr with
    | cons r' rr =>
      cases rr
      cases r
      cases r'
      obtain ⟨its, rv, p1, _⟩ := I1.list hqx
      obtain ⟨its2, rv2, pp2, _⟩ := I1.list hqy
      refine call_zip_2 p1.isList pp2.isList fun h' hzz hTI hTO h1 h2 hsz hk => ?_
      refine Calls.spliced_nil ?_
      have lx := rv.length
      have ly := rv2.length
      have hl1 : h'.IsList a its.toArray := p1.isList.at fun o e => hk _ o e
      have hl2 : h'.IsList b its2.toArray := pp2.isList.at fun o e => hk _ o e
      refine z_call (n := xs.length) (xs := its.toArray) (ys := its2.toArray) (I1.ok.hd hc) (PySem.W.ktu_apart s1.heap.objs.size a b p1.lt pp2.lt) (by rw [List.size_toArray]; omega) (by rw [List.size_toArray]; omega) (by rw [sizeLine_eq]; omega) (fun c hcm => ?_) hzz hTI ⟨_, _, hTO⟩ h1 h2 hl1 hl2 fun h'' tk acc c as hkk hS hl hG hacc => ?_
      · show c < h'.objs.size
        rw [hsz]
        simp only [List.mem_cons, List.not_mem_nil, or_false] at hcm
        rcases hcm with z | z | z | z | z | z | z
        · rw [z]; exact Nat.add_lt_add_left (by decide) _
        · rw [z]; exact Nat.add_lt_add_left (by decide) _
        · rw [z]; exact Nat.add_lt_add_left (by decide) _
        · rw [z]; exact Nat.lt_add_of_pos_right (by decide)
        · rw [z]; exact Nat.add_lt_add_left (by decide) _
        · rw [z]; exact Nat.lt_of_lt_of_le p1.lt (Nat.le_add_right _ _)
        · rw [z]; exact Nat.lt_of_lt_of_le pp2.lt (Nat.le_add_right _ _)
      · have hk2 : ∀ b o, s1.heap.get? b = some o → h''.get? b = some o := fun b o e => hkk b o (fun hm => by
          have hlt := Heap.lt_size e
          simp only [List.mem_cons, List.not_mem_nil, or_false] at hm
          rcases hm with z | z | z | z
          · rw [z] at hlt; exact absurd hlt (Nat.not_lt.mpr (Nat.le_add_right _ _))
          · rw [z] at hlt; exact absurd hlt (Nat.not_lt.mpr (Nat.le_add_right _ _))
          · rw [z] at hlt; exact absurd hlt (Nat.lt_irrefl _)
          · rw [z] at hlt; exact absurd hlt (Nat.not_lt.mpr (Nat.le_add_right _ _))) (hk b o e)
        obtain ⟨H', k1, k2, k3, k4, J⟩ := zip_laid (tk := tk) I1 (by rw [sizeLine_eq]; omega) hlen rv rv2 hk2 (by show s1.heap.objs.size ≤ h'.objs.size; rw [hsz]; exact Nat.le_add_right _ _) hS hl hG hacc
        exact ⟨.ref _, H', J, rfl, q H' _ as k1 k2 k3 hl k4⟩
end
end XZip
end
section
set_option maxRecDepth 100000
set_option maxHeartbeats 4000000
/-! enumerate(list, start=e) -/
namespace XEnum
open PySem PySem.Spec PyProof.Rows L2
theorem callWith_tyKw {M : Model} {A : Around} {E : Value → Shared → Prop} {s : Shared} {env : Env} {pos : Pos} {T : String} {e : Expr} {rest : List Expr} {kws : List Keyword} {Q : Value → Shared → Prop}
    (h : wpAny M A (spliced (backTo pos (starEach (e :: rest) env))) (fun vs s₁ => wpAny M A (PySem.evalAll ((backToKw pos (keywordEach kws env)).map (·.2)))
      (fun kvs s₂ => wpAny M A (call (.type T) vs (((backToKw pos (keywordEach kws env)).filterMap (·.1)).zip kvs)) Q E s₂) E s₁) E s)
    (he : backTo pos (starEach (e :: rest) env) = (false, eval e env) :: backTo pos (starEach rest env))
    (hplain : (backTo pos (starEach (e :: rest) env)).any (·.1) = false)
    (hall : (backToKw pos (keywordEach kws env)).all (·.1.isSome) = true)
    (hkw : (backToKw pos (keywordEach kws env)).any (·.1.isNone) = false) :
    wpAny M A (callWith pos (.type T) [] (backTo pos (starEach (e :: rest) env)) (backToKw pos (keywordEach kws env))) Q E s := by
  have h2 : wpAny M A (evalArgs (.type T) true (backTo pos (starEach (e :: rest) env)) (backToKw pos (keywordEach kws env))) (fun a s₁ => wpAny M A (call (.type T) ([] ++ a.pos) a.kw) Q E s₁) E s := by
    rw [he] at h ⊢
    exact evalArgs_kwB hall h
  unfold callWith
  refine wpAny_bind (wpAny_holding (wpAny_mono h2 (fun a s₁ h₁ => wpAny_bind (wpAny_standAt ?_)) fun _ _ x => x))
  simp only [hplain, hkw, Bool.or_false]
  refine wpAny_bind (wpAny_pure ?_)
  exact wpAny_bind (wpAny_mono h₁ (fun r s₂ hr => wpAny_bind (wpAny_holding (wpAny_point (wpAny_pure hr)))) fun _ _ x => x)
/-- the list at a as it stands at each turn, each item in a new pair behind its number, from k on -/
def IteS (K : PySem.W.Frag) (a : Addr) (k : Int) : It :=
  ⟨fun i H => ∃ (xs : List V) (x : V), SqL K H a xs ∧ xs[i]? = some x, fun i H v H' => ∃ T x, v = .ref T ∧ H T = none ∧ H' = upd H T (.tup [.int (k + (i : Nat)), x]) ∧ ∀ xs, SqL K H a xs → xs[i]? = some x, fun i H => ∃ xs : List V, SqL K H a xs ∧ xs.length ≤ i⟩
theorem walk_enumS {K : PySem.W.Frag} {a : Addr} {k : Int} {xs : List V} : Walk (IteS K a k) xs.length (fun H => SqL K H a xs) (YPair (fun i => some (.int (k + (i : Nat)))) (fun i => xs[i]?)) := by
  refine ⟨fun i _ hi q => ⟨xs, xs[i], q, by simp [hi]⟩, fun _ q => ⟨xs, q, Nat.le_refl _⟩, fun i H v H' _ q y => ?_⟩
  obtain ⟨T, x, h1, h2, h3, h4⟩ := y
  exact ⟨T, .int (k + (i : Nat)), x, h1, h2, h3, rfl, h4 xs q⟩
theorem turn_enumS {P : Program} {w : World} {K : PySem.W.Frag} {elts : List Expr} {kk : Nat} {tpos : Pos} (a e it : Addr) (k : Int) :
    Turn P w K (.Tuple elts kk tpos) (IteS K a k) [e, it] e (fun i h => (∃ old, IsEnum h e it (k + ((i : Nat) : Int)) old) ∧ h.IsListIter it a i ∧ e ≠ it ∧ e ≠ a ∧ a ≠ it) where
  mem := by simp
  obj := fun i h st b hb => by
    obtain ⟨⟨old, he⟩, ⟨o, ho, hc, hd⟩, _⟩ := st
    have e' : b = e ∨ b = it := by simpa using hb
    rcases e' with z | z
    · rw [z]; exact ⟨_, he, fun v q => nomatch q⟩
    · rw [z]; exact ⟨o, ho, fun v q => by rw [hd] at q; cases q⟩
  keep := fun i h h' st k => let ⟨⟨old, he⟩, hi, hne⟩ := st; ⟨⟨old, k e (by simp) _ he⟩, hi.at fun o q => k it (by simp) o q, hne⟩
  item := by
    intro X hP hw hK hc i pins s σ H E I hf st hg
    subst hP hw hK
    obtain ⟨⟨old, he⟩, hit, hne, hea, hai⟩ := st
    obtain ⟨xs, x, hq, hx⟩ := hg
    obtain ⟨its, rv, p, hz⟩ := I.list hq
    obtain ⟨u, hu, ru⟩ := rv.get hx
    have hel : e < s.heap.objs.size := Heap.lt_size he
    have hil : it < s.heap.objs.size := by obtain ⟨_, q, _⟩ := hit; exact Heap.lt_size q
    have hlt : i < its.toArray.size := by
      have z := (List.getElem?_eq_some_iff.mp hu).1
      rw [List.size_toArray]
      exact z
    refine wpAny_pyNext_enum_itemC (Draws.list (A := X.A.in1) (I.ok.hd hc) it a hai its.toArray) he ⟨hit, p.isList⟩ hlt hne (by simp [hne, hea]) fun x' h' tk hx' ho hit' hT hsz hk => ?_
    have eu : x' = u := by
      have z : its.toArray[i]? = some u := by simpa using hu
      exact Option.some.inj (hx'.symm.trans z)
    subst eu
    refine ⟨_, rfl, wpAny_letOwnedTupleGo_enum (s := { s with heap := h', toks := tk + 1 }) ho fun h'' he' sb => ?_⟩
    have hT2 : h''.get? s.heap.objs.size = some { cls := .type "tuple", data := .seq #[.int (k + (i : Nat)) tk, x'] } := (sb.2 _ (Nat.ne_of_gt hel)).trans hT
    have new : ObjOk X.prog X.w (upd H s.heap.objs.size (.tup [.int (k + (i : Nat)), x])) h'' s.heap.objs.size (.tup [.int (k + (i : Nat)), x]) :=
      ⟨by show 2 ≤ sizeLine; decide, [.int (k + (i : Nat)) tk, x'], .cons ⟨_, rfl⟩ (.cons ru .nil), ⟨_, hT2, rfl, _, rfl⟩⟩
    have I1 : Inv X pins σ (upd H s.heap.objs.size (.tup [.int (k + (i : Nat)), x])) { s with heap := h'', toks := tk + 1 } :=
      I.turnedNew (ch := [e, it]) (fun b ob hb q => (sb.2 b (fun z => hb (by simp [z]))).trans (hk b ob (fun z => hb (by simp [z])) (fun z => hb (by simp [z])) q)) hf (Nat.le_refl _) new
    refine ⟨.ref s.heap.objs.size, _, I1, rfl, ⟨_, x, rfl, I.hok.fresh (Nat.le_refl _), rfl, fun ys hy => by rw [I.list_inj hy hq]; exact hx⟩, ⟨⟨x', ?_⟩, hit'.1.at fun o q => (sb.2 it (Ne.symm hne)).trans q, hne, hea, hai⟩, fun b hb => ?_⟩
    · have e1 : k + ((i + 1 : Nat) : Int) = k + (i : Int) + 1 := by omega
      rw [e1]; exact he'
    · have hb' : b < s.heap.objs.size := by
        have e' : b = e ∨ b = it := by simpa using hb
        rcases e' with z | z
        · rw [z]; exact hel
        · rw [z]; exact hil
      rw [upd_ne (Nat.ne_of_lt hb')]
      exact (hf b hb).1
  done := by
    intro X hP hw hK hc i pins s σ H E I hf st hg
    subst hP hw hK
    obtain ⟨⟨old, he⟩, hit, hne, hea, hai⟩ := st
    obtain ⟨xs, hq, hx⟩ := hg
    obtain ⟨its, rv, p, hz⟩ := I.list hq
    obtain ⟨f0, f1, f2, f3, f4, f5⟩ := hf it (by simp)
    have hl := rv.length
    have hT : s.TypeIs (.ref e) "enumerate" := ⟨_, he, rfl⟩
    unfold pyNext
    refine wpAny_bind (wpAny_attempt (wpAny_callSpecial?_slot (name := Str.ofString "__next__") hT F.slot_enumerate_next
      (wpAny_call_entry F.slot_enumerate_next hT F.entry_enumerate_next ?_ (F.args_enumerate_next_1 _))))
    show wpAny _ _ (field (.ref e) 2 >>= _) _ _ _
    refine wpAny_bind (wpAny_field he rfl (x := .ref it) rfl ?_)
    refine wpAny_bind (wpAny_nextOf_list_end (A := X.A.in1) (I.ok.hd hc) hit p.isList (by simp; omega) fun h' x he' hx' => ?_)
    obtain ⟨o, ho, hc'⟩ := hx'
    refine wpAny_bind (wpAny_isInstance (T := "StopIteration") (b := true) ⟨o, ho, hc'⟩ isSubtype_stop ?_)
    exact wpAny_pure ⟨rfl, I.turned (t' := s.toks) (fun b o hb q => he' b o hb q) f0 f1 f3 f4 f5⟩
  self := fun A i s Q E st h => let ⟨⟨_, he⟩, _⟩ := st; wpAny_pyIter_enum he h
def iEnumS (K : PySem.W.Frag) (ta : TA) (tk : TE) : TI := fun σ H R => ta σ H fun vs H1 => tk σ H1 fun y H2 => ∃ (a : Addr) (xs : List V) (k : Int), vs = [.ref a] ∧ y = .int k ∧ 0 ≤ k ∧ k ≤ 1000000 ∧ SqL K H2 a xs ∧ R (IteS K a k) H2
def one1 (K : PySem.W.Frag) (R : It → Hp → Prop) (vs : List V) : List V → Hp → Prop
  | [y], H2 => ∃ (a : Addr) (xs : List V) (k : Int), vs = [.ref a] ∧ y = .int k ∧ 0 ≤ k ∧ k ≤ 1000000 ∧ SqL K H2 a xs ∧ R (IteS K a k) H2
  | _, _ => False
theorem one1_at {K : PySem.W.Frag} {R : It → Hp → Prop} {vs ws : List V} {H2 : Hp} (h : one1 K R vs ws H2) : ∃ y, ws = [y] ∧ ∃ (a : Addr) (xs : List V) (k : Int), vs = [.ref a] ∧ y = .int k ∧ 0 ≤ k ∧ k ≤ 1000000 ∧ SqL K H2 a xs ∧ R (IteS K a k) H2 := by
  match ws, h with
  | [y], h => exact ⟨y, rfl, h⟩
theorem pi_enumS {X : Cx} {e e2 : Expr} {ta : TA} {tk : TE} {p pos tpos kpos : Pos} {elts : List Expr} {kk : Nat} (hg : Gl X "enumerate") (hm : X.mg "enumerate" = none) (ha : PA X [e] ta) (hk2 : PE X e2 tk)
    (hks : (backToKw pos (keywordEach [⟨some "start", e2, kpos⟩] X.env)).filterMap (·.1) = [Str.ofString "start"] := by rfl)
    (h1 : backTo pos (starEach [e] X.env) = (false, eval e X.env) :: backTo pos (starEach [] X.env) := by rfl) (h2 : (backTo pos (starEach [e] X.env)).any (·.1) = false := by rfl)
    (h3 : (backToKw pos (keywordEach [⟨some "start", e2, kpos⟩] X.env)).all (·.1.isSome) = true := by rfl) (h4 : (backToKw pos (keywordEach [⟨some "start", e2, kpos⟩] X.env)).any (·.1.isNone) = false := by rfl) :
    PI X (.Tuple elts kk tpos) (.Call (.Name "enumerate" p) [e] [⟨some "start", e2, kpos⟩] pos) (iEnumS X.K ta tk) := by
  refine ⟨fun pins s σ H R I h => ?_⟩
  refine wpAny_Call_Name_kw (ld_blt I hg hm PyProof.Rows.boot_enumerate (callWith_tyKw ?_ h1 h2 h3 h4))
  refine thn (ha.run pos pins s σ H _ I h) fun us s1 ⟨vs, H1, I1, r1, q1⟩ => ?_
  refine thn ((pk_cons (nm := some "start") (kpos := kpos) hk2 pk_nil).run pos pins s1 σ H1 (one1 X.K R vs) I1 q1) fun ks s2 ⟨ws, H2, I2, r2, q2⟩ => ?_
  obtain ⟨y, ew, a, xs, k, ev, ey, k0, k1, hq, q⟩ := one1_at q2
  subst ev ew ey
  rw [hks]
  cases r1 with
  | cons r rr =>
    cases rr
    cases r
    cases r2 with
    | cons rk rr =>
      cases rr
      obtain ⟨t, rfl⟩ := rk
      obtain ⟨its, rv, p', hz⟩ := I2.list hq
      have hal : a < s2.heap.objs.size := p'.lt
      refine enum_begins_start (begins_list a its.toArray) p'.isList (by omega) (by omega) fun h' he' hit hsz hk => wpAny_pyIter_enum he' ?_
      have I3 : Inv X pins σ H2 { s2 with heap := h' } := I2.kept (t' := s2.toks) hk
      refine ⟨s2.heap.objs.size + 1, [s2.heap.objs.size + 1, s2.heap.objs.size], _, _, H2, rfl, I3, turn_enumS a (s2.heap.objs.size + 1) s2.heap.objs.size k, ⟨⟨.none, by rw [show k + ((0 : Nat) : Int) = k by omega]; exact he'⟩, ⟨_, hit, rfl, rfl⟩, Nat.succ_ne_self _, Nat.ne_of_gt (Nat.lt_succ_of_lt hal), Nat.ne_of_lt hal⟩, fun b hb => ?_, q⟩
      have e' : b = s2.heap.objs.size + 1 ∨ b = s2.heap.objs.size := by simpa using hb
      have hle : s2.heap.objs.size ≤ b := by
        rcases e' with z | z
        · rw [z]; exact Nat.le_add_right _ _
        · rw [z]; exact Nat.le_refl _
      exact I2.fpOk hle (I2.hok.fresh hle)
end XEnum
end
section
set_option maxRecDepth 100000
set_option maxHeartbeats 4000000
/-! d.update(e), two dicts whose keys are numbers or texts -/
namespace XUpd
open PySem PySem.Spec PyProof.Rows L2
def rDUpd : V → List V → Hp → VK → Prop := fun x vs H Q => ∃ (a b : Addr) (kvs more : List (Key × V)), x = .ref a ∧ vs = [.ref b] ∧ a ≠ b ∧ H a = some (.dK kvs) ∧ H b = some (.dK more) ∧ kvs.length + more.length ≤ 1000 ∧ (mergeK kvs more).length ≤ 1000 ∧ Q .non (upd H a (.dK (mergeK kvs more)))
theorem mtd_update {X : Cx} : MtR X "dict.update" rDUpd := by
  intro pins s σ H x vs v us Q I rx rv h
  obtain ⟨a, b, kvs, more, ex, ev, hab, e1, e2, hz, hz2, q⟩ := h
  subst ex
  subst ev
  obtain rfl : v = Value.ref a := rx
  cases rv with
  | cons r rr =>
    cases rr
    obtain rfl := r
    obtain ⟨z, hd, vs1, rel, dd⟩ := dk_of I.hok e1
    obtain ⟨z2, hd2, vs2, rel2, dd2⟩ := dk_of I.hok e2
    have l1 := Paired.length rel
    have l2 := Paired.length rel2
    refine call_meetsIn PySem.F.slot_dict_update dd.typeIs PySem.F.entry_dict_update (PySem.F.args_dict_update_2 _ _) (meets_dict_update (mixKind X.prog X.w) a b hab hd2) ⟨vs1, vs2, dd, dd2, by rw [sizeLine_eq]; omega, fun h' d1 d2 hs => ?_⟩
    have he : ∃ q, h'.get? a = some q := let ⟨q, _, _, hq, _⟩ := d1; ⟨q, hq⟩
    have I' := d_write (t' := s.toks) I (by rw [e1]; exact True.intro) hs he (dk_new (by rw [sizeLine_eq]; omega) hd (KV.merge rel2 rel) d1)
    exact ⟨.non, _, I', rfl, q⟩
end XUpd
end
section
set_option maxRecDepth 100000
set_option maxHeartbeats 4000000
/-! {tuple of numbers} in an f-string: some bounded text -/
namespace XTup
open PySem PySem.Spec PyProof.Rows L2
theorem log_small {i : Int} (h : i.natAbs < 10 ^ 4) : i.natAbs.log2 < 1920 := by
  have e : (10 : Nat) ^ 4 = 10000 := by decide
  by_cases z : i.natAbs = 0
  · rw [z]
    decide
  · have h2 : i.natAbs.log2 < 14 := (Nat.log2_lt z).mpr (by omega)
    omega
theorem repr_ints {prog : Program} {w : World} : ∀ {l : List Int} {its : List Value}, Vals (l.map V.int) its → (∀ i ∈ l, i.natAbs < 10 ^ 4) → ReprAll prog w its (l.map fun i => Str.ofString (toString i))
  | [], _, r, _ => by
    cases r
    exact .nil
  | y :: l, _, r, h => by
    cases r with
    | cons r1 r2 =>
      obtain ⟨t, rfl⟩ := r1
      exact .cons (ReprIs.int t (log_small (h y List.mem_cons_self))) (repr_ints r2 fun z hz => h z (List.mem_cons_of_mem _ hz))
theorem int_len {i : Int} (h : i.natAbs < 10 ^ 4) : (Str.ofString (toString i)).length ≤ 5 := by
  rw [PySem.ofString_length]
  exact PySem.int_text_length_le10 (k := 4) (by decide) h
theorem piled_ints : ∀ l : List Int, (∀ i ∈ l, i.natAbs < 10 ^ 4) → piled (l.map fun i => Str.ofString (toString i)) ≤ 7 * l.length
  | [], _ => Nat.zero_le _
  | y :: l, h => by
    have h1 := int_len (h y List.mem_cons_self)
    have h2 := piled_ints l fun z hz => h z (List.mem_cons_of_mem _ hz)
    rw [List.map_cons, piled_cons, List.length_cons]
    omega
def tFmtI (K : PySem.W.Frag) (te : TE) : TE := fun σ H Q => te σ H fun x H1 => ∃ (a : Addr) (l : List Int), x = .ref a ∧ SqT K H1 a (l.map V.int) ∧ (∀ i ∈ l, i.natAbs < 10 ^ 4) ∧ l.length ≤ 1000 ∧ ∀ m : Str, m.length ≤ 7 * l.length + 7 → Q (.str m) H1
section
variable {X : Cx}
theorem pe_fmtI {e : Expr} {te : TE} {pos : Pos} {k : Nat} (hr : Room k X.A) (he : PE X e te) : PE X (.FormattedValue e (-1) none pos) (tFmtI X.K te) := by
  refine ⟨fun pins s σ H Q I h => ?_⟩
  refine wpAny_FormattedValue_plain (thn (he.run pins s σ H _ I h) fun v s1 hv => ?_)
  obtain ⟨x, H1, I1, r1, a, l, rfl, ht, hc, hz, q⟩ := hv
  cases r1
  obtain ⟨its, rv, ⟨o, ho, hcl, n, hd⟩, _⟩ := I1.tuple ht
  have hp := piled_ints l hc
  have htx := fmt_text (l.map fun i => Str.ofString (toString i))
  have hu := hr.units
  exact fmt_tuple (ts := l.map fun i => Str.ofString (toString i)) (by omega) ho hcl hd (repr_ints rv hc) (by rw [sizeLine_eq]; omega) fun m u tk hm => ⟨.str m, H1, I1.tok _, ⟨u, rfl⟩, q m (by omega)⟩
end
end XTup
end
section
set_option maxRecDepth 100000
set_option maxHeartbeats 4000000
/-! xs != [] for a list of anything -/
namespace XLs
open PySem PySem.Spec PyProof.Rows L2
def rNeE (K : PySem.W.Frag) : R2 := fun x y H Q => ∃ a b xs, x = .ref a ∧ y = .ref b ∧ SqL K H a xs ∧ SqL K H b [] ∧ Q (.bl (!xs.isEmpty)) H
section
variable {X : Cx}
theorem op_neE (hu : X.A.units < cLine) : OpR X (compareOp .NotEq) (rNeE X.K) := by
  intro pins s σ H x y v u Q I rx ry h
  obtain ⟨a, b, xs, rfl, rfl, ha, hb, q⟩ := h
  obtain rfl : v = Value.ref a := rx
  obtain rfl : u = Value.ref b := ry
  obtain ⟨its, r, pl, hz⟩ := I.list ha
  obtain ⟨its2, r2, pl2, hz2⟩ := I.list hb
  have l1 := r.length
  cases r2
  cases xs with
  | nil =>
    cases r
    have := PySem.SeqAt.RcNeAt.lists (A := X.A) (s := s) pl.isList pl2.isList rfl hu (e := fun _ => true) (fun j j1 j2 => by simp at j1)
    exact this X.prog X.w _ _ ⟨.bl false, H, I, rfl, q⟩
  | cons x xs =>
    refine PySem.SeqAt.RcNeAt.lists_lengths (A := X.A) (s := s) pl.isList pl2.isList ?_ hu X.prog X.w _ _ ⟨.bl true, H, I, rfl, q⟩
    cases its with
    | nil => cases r
    | cons y ys => simp
end
end XLs
end
section
set_option maxRecDepth 100000
set_option maxHeartbeats 4000000
/-! text * number -/
namespace XMu
open PySem PySem.Spec PyProof.Rows L2
def repS (z : Str) (n : Nat) : Str := ⟨(List.replicate n z.cps).foldl (· ++ ·) #[]⟩
theorem fold_list : ∀ (l : List (Array Nat)) (acc : Array Nat), (l.foldl (· ++ ·) acc).toList = acc.toList ++ (l.map Array.toList).flatten
  | [], acc => by simp
  | x :: r, acc => by
    rw [List.foldl_cons, fold_list r (acc ++ x), Array.toList_append, List.map_cons, List.flatten_cons, List.append_assoc]
theorem tl_rep (z : Str) (n : Nat) : (repS z n).cps.toList = (List.replicate n z.cps.toList).flatten := by
  show ((List.replicate n z.cps).foldl (· ++ ·) #[]).toList = _
  rw [fold_list, List.map_replicate]
  simp
theorem len_rep (z : Str) : ∀ n : Nat, (repS z n).length = n * z.length
  | n => by
    have e : (repS z n).length = (repS z n).cps.toList.length := by simp [Str.length]
    have e2 : z.length = z.cps.toList.length := by simp [Str.length]
    rw [e, tl_rep, List.length_flatten, List.map_replicate, List.sum_replicate_nat, e2]
def rMulS : R2 := fun x y H Q => ∃ z k, x = .str z ∧ y = .int k ∧ 2 ≤ k ∧ k ≤ 1000 ∧ 0 < z.length ∧ z.length ≤ 1000 ∧ Q (.str (repS z k.toNat)) H
section
variable {X : Cx}
theorem op_mulS : OpR X (binaryOp .Mult) rMulS := by
  intro pins s σ H x y v u Q I rx ry h
  obtain ⟨z, k, rfl, rfl, h2, h3, h4, h5, q⟩ := h
  obtain ⟨t, rfl⟩ := rx
  obtain ⟨t', rfl⟩ := ry
  have hm : z.length * k.toNat ≤ 1000 * 1000 := Nat.mul_le_mul h5 (by omega)
  refine P.mul_str ?_ (fun _ _ => ?_) (fun _ _ => ?_) ?_
  · rw [decide_eq_false (show ¬ k < -(2 ^ 63 : Int) by omega), decide_eq_false (show ¬ k ≥ 2 ^ 63 by omega)]
    rfl
  · have e : (1000 : Int) ≤ (2 ^ 63 - 1) / k := (Int.le_ediv_iff_mul_le (by omega)).mpr (by omega)
    omega
  · show decide (z.length * k.toNat > sizeLine) = false
    rw [sizeLine_eq]
    exact decide_eq_false (by omega)
  · rw [if_neg (by omega), if_neg (by
      rw [Bool.or_eq_true]
      rintro (e | e)
      · have := eq_of_beq e
        omega
      · have := eq_of_beq e
        omega)]
    refine ⟨?_, .str (repS z k.toNat), H, I.tok _, ⟨_, rfl⟩, q⟩
    have e := len_rep z k.toNat
    have e2 : k.toNat * z.length = z.length * k.toNat := Nat.mul_comm _ _
    show (repS z k.toNat).length ≤ sizeLine
    rw [sizeLine_eq]
    omega
end
end XMu
end
section
set_option maxRecDepth 100000
set_option maxHeartbeats 4000000
namespace MS
open PySem L2
/-! ### words of signs below 128: figures -/
def tx (i : Int) : Str := (toString i : String)
def asc (x : Str) : Prop := ∀ c ∈ x.cps.toList, c < 128
theorem fig1 : ∀ a, a < 128 → Txt.isdecimal ⟨#[a]⟩ = true → 48 ≤ a ∧ a ≤ 57 ∧ PySem.intText? ⟨#[a]⟩ = some ((a : Int) - 48) := by decide +kernel
theorem fig2 : ∀ a, a < 128 → ∀ b, b < 128 → Txt.isdecimal ⟨#[a, b]⟩ = true → 48 ≤ a ∧ a ≤ 57 ∧ 48 ≤ b ∧ b ≤ 57 ∧ PySem.intText? ⟨#[a, b]⟩ = some (10 * ((a : Int) - 48) + ((b : Int) - 48)) := by decide +kernel
theorem fig0 : Txt.isdecimal ⟨#[]⟩ = false := by decide +kernel
theorem fig_of {x : Str} (h : asc x) (hd : Txt.isdecimal x = true) (hl : x.length ≤ 2) : ∃ n : Int, 0 ≤ n ∧ n ≤ 99 ∧ PySem.intText? x = some n := by
  obtain ⟨⟨l⟩⟩ := x
  match l, hl with
  | [], _ => rw [fig0] at hd; cases hd
  | [a], _ =>
    obtain ⟨h1, h2, h3⟩ := fig1 a (h a (by simp)) hd
    exact ⟨_, by omega, by omega, h3⟩
  | [a, b], _ =>
    obtain ⟨h1, h2, h3, h4, h5⟩ := fig2 a (h a (by simp)) b (h b (by simp)) hd
    exact ⟨_, by omega, by omega, h5⟩
  | _ :: _ :: _ :: _, hl => exact absurd hl (by show ¬ (_ + 1 + 1 + 1 ≤ 2); omega)
end MS
end
section
set_option maxRecDepth 100000
set_option maxHeartbeats 4000000
namespace MS
open PySem L2
/-! ### what can stand, what comes: of any words -/
abbrev s_is_figures : Stmt := topS 31
theorem sc_is_figures : FnScope ["word"] ["word"] (defScope s_is_figures) := ⟨rfl, rfl, rfl, by decide +kernel, rfl, by decide +kernel, by decide +kernel⟩
abbrev s_can_stand : Stmt := topS 32
theorem sc_can_stand : FnScope ["word", "kind"] ["word", "kind"] (defScope s_can_stand) := ⟨rfl, rfl, rfl, by decide +kernel, rfl, by decide +kernel, by decide +kernel⟩
abbrev s_coming : Stmt := topS 33
theorem sc_coming : FnScope ["word", "kind"] ["word", "kind"] (defScope s_coming) := ⟨rfl, rfl, rfl, by decide +kernel, rfl, by decide +kernel, by decide +kernel⟩
/-- what the top leaves besides -/
structure PTe (w : World) (K : PySem.W.Frag) (mg : Str → Option Value) : Prop where
  figs : ∃ t, mg "MOST_FIGURES" = some (.int 2 t)
  miss : ∀ a, mg "SHAPES" = some (.ref a) → ∀ x : Str, x ∉ shapesL.map (·.1) → PySem.W.nsIn K a x = some none
def shapeOf (x : Str) : Option (List Str) := shapesL.lookup x
def valOf (x : Str) : Int := (PySem.intText? x).getD 0
def figB (x : Str) : Bool := Txt.isdecimal x && (decide (x.length ≤ 2) && decide (tx (valOf x) = x))
def canB (x k : Str) : Bool := if k = "scheme" then (shapeOf x).isSome else if k = "word" then decide (x ∈ wordsL) else figB x
def comL (x k : Str) : List Str := if k = "scheme" then (shapeOf x).getD [] else if k = "schemes" then List.replicate (valOf x).toNat "scheme" else []
theorem shape_mem {x : Str} {l : List Str} (h : shapeOf x = some l) : (x, l) ∈ shapesL := PySem.mem_of_lookup h
theorem shape_none {x : Str} (h : shapeOf x = none) : x ∉ shapesL.map (·.1) := fun hm => by
  obtain ⟨p, hp, rfl⟩ := List.mem_map.mp hm
  have key : ∀ p ∈ shapesL, (shapeOf p.1).isSome = true := by decide +kernel
  have := key p hp
  rw [h] at this
  cases this
theorem inV_dec (x : Str) : inV (.str x) (wordsL.map V.str) = decide (x ∈ wordsL) := by
  unfold inV
  rw [List.any_map]
  by_cases h : x ∈ wordsL
  · rw [decide_eq_true h, List.any_eq_true]
    exact ⟨x, h, by show (x == x) = true; exact beq_self_eq_true _⟩
  · rw [decide_eq_false h, List.any_eq_false]
    intro y hy e
    have e : (y == x) = true := e
    rw [eq_of_beq e] at hy
    exact h hy
theorem small100 {n : Int} (h0 : 0 ≤ n) (h1 : n ≤ 99) : n.natAbs.log2 < 1920 := by
  by_cases z : n.natAbs = 0
  · rw [z]; decide
  · exact Nat.lt_of_le_of_lt (Nat.log2_le_self _) (by omega)
def spFigX : Sp := fun vs H Q _ => ∃ x : Str, vs = [.str x] ∧ asc x ∧ x.length ≤ 1000 ∧ Q (.bl (figB x)) H
def spStandX : Sp := fun vs H Q _ => ∃ x k : Str, vs = [.str x, .str k] ∧ asc x ∧ x.length ≤ 1000 ∧ Q (.bl (canB x k)) H
def spComX : Sp := fun vs H Q _ => ∃ x k : Str, vs = [.str x, .str k] ∧ asc x ∧ x.length ≤ 1000 ∧ canB x k = true ∧ ∀ (f : Addr) (H' : Hp), Same H H' → H f = none → H' f = some (.lst ((comL x k).map V.str)) → Q (.ref f) H'
section
variable {P : Program} {w : World} {K : PySem.W.Frag} {mg : Str → Option Value} {base : Heap}
theorem ok_figuresX (T : PTx w K mg) (U : PTe w K mg) (D : Def K mg "is_figures" s_is_figures ["word"]) : FnOk P w K mg base CX0 1 D.f D.fd ["word"] spFigX := by
  obtain ⟨tF, gF⟩ := U.figs
  refine D.ok sc_is_figures (fun vs H Q E h => ?_) (fun cdv A outer s H vs Q E hr h => ?_)
  · obtain ⟨x, rfl, _⟩ := h
    rfl
  obtain ⟨x, rfl, ha, hl, q⟩ := h
  refine ⟨_, pss_one (ps_ret (pe_and (pe_m0 PySem.F.slot_str_isdecimal PySem.F.type_str_isdecimal mt_isdecimal (pv 0)) (pe_and (pe_cmpR op_le (pe_callB call_len_str rfl (T.free "len" (by decide +kernel)) PySem.boot_len (pa_cons (pv 0) pa_nil)) (pe_glob rfl gF (v := .int 2) ⟨_, rfl⟩) (nomark _))
    (pe_one (pe_cmpR op_eq (pe_callTy call_str_int rfl (T.free "str" (by decide +kernel)) (by decide +kernel) (pa_cons (pe_callTy call_int_str rfl (T.free "int" (by decide +kernel)) (by decide +kernel) (pa_cons (pv 0) pa_nil)) pa_nil)) (pv 0) (nomark _)))))), ?_⟩
  unfold figB at q
  refine ⟨_, rfl, ⟨_, rfl⟩, _, rfl, rfl, trivial, _, rfl, ?_⟩
  cases hd : Txt.isdecimal x with
  | false =>
    rw [hd] at q
    exact iteF q
  | true =>
    rw [hd, Bool.true_and] at q
    refine iteT ⟨_, rfl, _, rfl, szN hl, _, _, rfl, rfl, _, rfl, ?_⟩
    by_cases h2 : x.length ≤ 2
    · rw [decide_eq_true h2, Bool.true_and] at q
      rw [decide_eq_true (by omega)]
      obtain ⟨n, n0, n1, e⟩ := fig_of ha hd h2
      refine iteT ⟨_, rfl, _, n, rfl, e, by omega, n, rfl, small100 n0 n1, _, rfl, rfl, ?_⟩
      have ev : valOf x = n := by unfold valOf; rw [e]; rfl
      rw [ev] at q
      have e2 : decide (V.str (toString n) = V.str x) = decide (tx n = x) := by
        by_cases z : tx n = x
        · rw [decide_eq_true z, decide_eq_true (show V.str (toString n) = V.str x from congrArg V.str z)]
        · rw [decide_eq_false z]
          exact decide_eq_false fun y => z (V.str.inj y)
      rw [e2]
      exact q
    · rw [decide_eq_false h2, Bool.false_and] at q
      rw [decide_eq_false (by omega)]
      exact iteF q
theorem ok_standX (T : PTx w K mg) (U : PTe w K mg) (D : Def K mg "can_stand" s_can_stand ["word", "kind"]) (DF : Def K mg "is_figures" s_is_figures ["word"]) : FnOk P w K mg base CX0 2 D.f D.fd ["word", "kind"] spStandX := by
  have GF : FnOk P w K mg base CX0 1 DF.f DF.fd ["word"] spFigX := ok_figuresX T U DF
  obtain ⟨aS, gS, low, hS⟩ := T.shapes
  obtain ⟨aW, gW, qW⟩ := T.words
  have hmiss := U.miss aS gS
  have hdict : ∃ es n, KDict K w aS es n := by
    obtain ⟨t, ⟨es, n, u, hl, hk, _⟩, _⟩ := hS ("step", ["word", "points"]) (by decide +kernel)
    exact ⟨es, n, hl, hk, low⟩
  obtain ⟨es, en, KD⟩ := hdict
  refine D.ok sc_can_stand (fun vs H Q E h => ?_) (fun cdv A outer s H vs Q E hr h => ?_)
  · obtain ⟨x, k, rfl, _⟩ := h
    rfl
  obtain ⟨x, k, rfl, ha, hl, q⟩ := h
  refine ⟨_, pss_cons (ps_if (pt_cmpR op_eq (pv 1) pe_str (nomark _)) (pss_one (ps_ret (pe_cmpR (op_in_kd KD) (pv 0) (pe_glob rfl gS (v := .ref aS) rfl) (by rfl)))) pss_nil)
    (pss_one (ps_ret (pe_ifExp (pt_cmpR op_eq (pv 1) pe_str (nomark _)) (pe_cmpR op_in_seq (pv 0) (pe_glob rfl gW (v := .ref aW) rfl) (by rfl)) (pcall DF GF hr (pa_cons (pv 0) pa_nil))))), ?_⟩
  unfold canB at q
  by_cases h1 : k = "scheme"
  · rw [if_pos h1] at q
    refine seq_if (b := true) (is_word rfl (by rw [h1]; decide +kernel)) (fun _ => ?_) (fun z => nomatch z)
    cases e : shapeOf x with
    | some l =>
      obtain ⟨t, ⟨es', n', u, _, _, hu, _⟩, _⟩ := hS _ (shape_mem e)
      rw [e] at q
      exact ⟨_, rfl, _, some u, rfl, rfl, hu, q⟩
    | none =>
      rw [e] at q
      exact ⟨_, rfl, _, none, rfl, rfl, hmiss x (shape_none e), q⟩
  · rw [if_neg h1] at q
    refine seq_if (b := false) (is_word rfl (beq_eq_false_iff_ne.mpr h1)) (fun z => nomatch z) (fun _ => ?_)
    by_cases h2 : k = "word"
    · rw [if_pos h2] at q
      refine is_word (b := true) rfl (by rw [h2]; decide +kernel) _ (iteT ?_)
      refine ⟨_, rfl, aW, _, rfl, .inr (qW _), rfl, by decide +kernel, ?_⟩
      show Q (.bl (inV (.str x) (wordsL.map V.str))) _
      rw [inV_dec]
      exact q
    · rw [if_neg h2] at q
      refine is_word (b := false) rfl (beq_eq_false_iff_ne.mpr h2) _ (iteF ?_)
      exact ⟨_, rfl, x, rfl, ha, hl, q⟩
theorem ok_comingX (T : PTx w K mg) (D : Def K mg "coming" s_coming ["word", "kind"]) : FnOk P w K mg base CX0 1 D.f D.fd ["word", "kind"] spComX := by
  obtain ⟨aS, gS, low, hS⟩ := T.shapes
  refine D.ok sc_coming (fun vs H Q E h => ?_) (fun cdv A outer s H vs Q E hr h => ?_)
  · obtain ⟨x, k, rfl, _⟩ := h
    rfl
  obtain ⟨x, k, rfl, ha, hl, hc, q⟩ := h
  refine ⟨_, pss_cons (ps_if (pt_cmpR op_eq (pv 1) pe_str (nomark _)) (pss_one (ps_ret (pe_callTy call_list_of rfl (T.free "list" (by decide +kernel)) (by decide +kernel) (pa_cons (pe_ix ix_kdict (pe_glob rfl gS (v := .ref aS) rfl) (pv 0) (fun _ _ => rfl)) pa_nil)))) pss_nil)
    (pss_one (ps_ret (pe_ifExp (pt_cmpR op_eq (pv 1) pe_str (nomark _)) (pe_op op_rep (pe_lst (pa_cons pe_str pa_nil)) (pe_callTy call_int_str rfl (T.free "int" (by decide +kernel)) (by decide +kernel) (pa_cons (pv 0) pa_nil))) (pe_lst pa_nil)))), ?_⟩
  unfold canB at hc
  unfold comL at q
  by_cases h1 : k = "scheme"
  · rw [if_pos h1] at q hc
    refine seq_if (b := true) (is_word rfl (by rw [h1]; decide +kernel)) (fun _ => ?_) (fun z => nomatch z)
    cases e : shapeOf x with
    | none => rw [e] at hc; cases hc
    | some l =>
      rw [e] at q
      obtain ⟨t, kdk, qt⟩ := hS _ (shape_mem e)
      exact ⟨_, rfl, aS, x, .ref t, rfl, rfl, kdk, t, _, rfl, .inr (qt _), fun f hf => q f _ (Same.new hf) hf upd_same⟩
  · rw [if_neg h1] at q hc
    refine seq_if (b := false) (is_word rfl (beq_eq_false_iff_ne.mpr h1)) (fun z => nomatch z) (fun _ => ?_)
    by_cases h2 : k = "schemes"
    · rw [if_pos h2] at q
      rw [if_neg (by rw [h2]; decide +kernel)] at hc
      unfold figB at hc
      rw [Bool.and_eq_true, Bool.and_eq_true] at hc
      obtain ⟨c1, c2, c3⟩ := hc
      obtain ⟨n, n0, n1, e⟩ := fig_of ha c1 (of_decide_eq_true c2)
      have ev : valOf x = n := by unfold valOf; rw [e]; rfl
      rw [ev] at q
      refine is_word (b := true) rfl (by rw [h2]; decide +kernel) _ (iteT ?_)
      refine ⟨(by show 1 ≤ sizeLine; decide), fun p0 hp0 => ?_⟩
      refine ⟨_, rfl, _, _, rfl, e, by have := of_decide_eq_true c2; omega, p0, _, _, rfl, rfl, upd_same, by omega, by omega, szN (by show 1 * _ ≤ 1000; omega), fun f hf => q f _ ((Same.new hp0).trans (Same.new hf)) ((Same.new hp0).free hf) ?_⟩
      rw [upd_same, flat_rep, List.map_replicate]
    · rw [if_neg h2] at q
      refine is_word (b := false) rfl (beq_eq_false_iff_ne.mpr h2) _ (iteF ?_)
      exact ⟨Nat.zero_le _, fun f hf => q f _ (Same.new hf) hf upd_same⟩
end
end MS
end
section
set_option maxRecDepth 100000
set_option maxHeartbeats 4000000
namespace MS
open PySem L2
open HeY
theorem small4000 {n : Nat} (h : n ≤ 4000) : n < sizeLine := by
  have e : 4000 < sizeLine := by decide
  omega
theorem szM {n : Nat} (h : n ≤ 4000) : n ≤ sizeLine := Nat.le_of_lt (small4000 h)
/-! ### defs that raise -/
theorem Def.okX {P : Program} {w : World} {K : PySem.W.Frag} {mg : Str → Option Value} {base : Heap} {x : Str} {st : Stmt} {ps N : List Str} {k : Nat} {sp : Sp} (D : Def K mg x st ps) (S : FnScope N ps (defScope st)) (len : ∀ vs H Q E, sp vs H Q E → vs.length = ps.length)
    (hbody : ∀ (cdv : Value) (A : Around) (outer : List Env) (s : Shared) (H : Hp) (vs : List V) (Q : VK) (E : XK), Room k (A.deeper (PyProof.Rows.envOfC x (defScope st) s.heap.objs.size D.f cdv)) → sp vs H Q E →
      ∃ t, PSs (cxOf (L2.CX P w) P w K mg base N x (defScope st) D.f cdv A outer s H E) (defBody st) t ∧ t { nx := fun _ H' => Q .non H', rt := Q } (start N vs) H) : FnOk P w K mg base (L2.CX P w) (k + 1) D.f D.fd ps sp := D.F.ok S len hbody
theorem pcallX {X : Cx} {x : Str} {st : Stmt} {ps : List Str} {k : Nat} {sp : Sp} {E : XK} {e : Expr} {es : List Expr} {t : TA} {p pos : Pos} (D : Def X.K X.mg x st ps) (G : FnOk X.prog X.w X.K X.mg X.base (L2.CX X.prog X.w) k D.f D.fd ps sp) (hr : Room k X.A) (hx : Passes (L2.CX X.prog X.w) X E)
    (ha : PA X (e :: es) t) (hg : Gl X x := by rfl) (hdb : (x == ("__debug__" : Str)) = false := by decide) (he : starEach (e :: es) X.env = (false, eval e X.env) :: starEach es X.env := by rfl) (hpl : (backTo pos (starEach es X.env)).any (·.1) = false := by rfl) : PE X (.Call (.Name x p) (e :: es) [] pos) (tCall sp [] E t) :=
  pe_call G hr hg D.g D.F.kp D.b .nil hx ha hdb he hpl
/-- an error with one number is let out -/
def Raised (C : Addr) (fld : Str) (n : Int) (H : Hp) (E : XK) : Prop := ∀ (d : Addr) (H' : Hp), H d = none → Same H H' → H' d = some (.xd [(fld, .int n)]) → E (.ref C) (some d) H'
theorem Raised.from {C : Addr} {fld : Str} {n : Int} {H H1 : Hp} {E : XK} (h : Raised C fld n H E) (s : Same H H1) : Raised C fld n H1 E := fun d H' hd s' e => h d H' (s.free hd) (s.trans s') e
def spInit1 (C : Addr) (fld : Str) : Sp := fun vs H Q _ => ∃ (a : Addr) (n : Int), vs = [.ref a, .int n] ∧ 0 ≤ n ∧ n < 1900 ∧ H a = some (exo a C none) ∧ ∀ dx, H dx = none → dx ≠ a → Q .non (upd (upd H dx (exd dx [(fld, .int n)])) a (exo a C (some dx)))
structure Rsr (P : Program) (w : World) (K : PySem.W.Frag) (mg : Str → Option Value) (base : Heap) (x par fld : Str) where
  C : Addr
  f : Addr
  fd : FuncData
  T : OexC K C
  init : PySem.W.findIn K (.ref C) "__init__" = some (some (.ref f))
  ty : PySem.W.typeIn K (.ref f) = some (.type "function")
  ok : FnOk P w K mg base CX0 1 f fd ["self", par] (spInit1 C fld)
  b : Binds K fd ["self", par] []
  g : mg x = some (.ref C)
theorem pmk_r {X : Cx} {x par fld : Str} {e : Expr} {te : TE} {p pos : Pos} (R : Rsr X.prog X.w X.K X.mg X.base x par fld) (hr : Room 2 X.A) (he : PE X e te) (hg : Gl X x := by rfl) (hdb : (x == ("__debug__" : Str)) = false := by decide)
    (h1 : starEach [e] X.env = (false, eval e X.env) :: starEach [] X.env := by rfl) (h2 : (backTo pos (starEach [] X.env)).any (·.1) = false := by rfl) : PMk X (.Call (.Name x p) [e] [] pos) (tMkO R.C (spInit1 R.C fld) [] (tCons te tNil)) :=
  pmk_oex R.T R.init R.ty R.ok hr R.b .nil pass0 hg R.g (pa_cons he pa_nil (hs := h1)) hdb h1 h2
theorem raised_of {C : Addr} {fld : Str} {n : Int} {H1 : Hp} {Q : XK} (h0 : 0 ≤ n) (h1 : n < 1900) (h : ∀ (d : Addr) (H' : Hp), H1 d = none → Same H1 H' → H' d = some (.xd [(fld, .int n)]) → Q (.ref C) (some d) H') : [V.int n].length ≤ 1000 ∧ ∀ a, H1 a = none → spInit1 C fld (.ref a :: ([.int n] ++ [])) (upd H1 a (exo a C none))
    (fun v H2 => v = .non ∧ ∃ (d : Addr) (fs : List (Str × V)), H2 a = some (exo a C (some d)) ∧ H2 d = some (exd d fs) ∧ H1 d = none ∧ Q (.ref C) (some d) (upd (L2.del H2 a) d (.xd fs))) (fun _ _ _ => False) := by
  refine ⟨by show 1 ≤ 1000; decide, fun a ha => ⟨a, n, rfl, h0, h1, upd_same, fun dx hdx hne => ⟨rfl, dx, [(fld, .int n)], upd_same, by rw [upd_ne hne, upd_same], ?_, ?_⟩⟩⟩
  · rw [upd_ne hne] at hdx
    exact hdx
  · rw [upd_ne hne] at hdx
    refine h dx _ hdx (fun b o e => ?_) upd_same
    have n1 : b ≠ a := ne_of_none e ha
    have n2 : b ≠ dx := ne_of_none e hdx
    rw [upd_ne n2, L2.del_ne n1, upd_ne n1, upd_ne n2, upd_ne n1]
    exact e
/-- raise X(e) -/
theorem ps_rs {X : Cx} {x par fld : Str} {e : Expr} {te : TE} {p pos pos' : Pos} {W : WX} (R : Rsr X.prog X.w X.K X.mg X.base x par fld) (hc : X.calm = true) (tk : L2.Takes X W) (hr : Room 2 X.A) (he : PE X e te) (hg : Gl X x := by rfl) (hdb : (x == ("__debug__" : Str)) = false := by decide)
    (h1 : starEach [e] X.env = (false, eval e X.env) :: starEach [] X.env := by rfl) (h2 : (backTo pos (starEach [] X.env)).any (·.1) = false := by rfl) : PS X (.Raise (some (.Call (.Name x p) [e] [] pos)) none pos') (fun _ σ H => tMkO R.C (spInit1 R.C fld) [] (tCons te tNil) σ H fun cls d H' => W cls d σ H') :=
  L2.ps_raise hc tk (pmk_r R hr he hg hdb h1 h2)
/-! ### the errors' __init__ -/
abbrev s_Work_init : Stmt := inClass (topS 3) 0
abbrev s_Text_init : Stmt := inClass (topS 7) 0
abbrev dWork : InD := ⟨"BadWork", "BadWork.__init__", defArgs s_Work_init, defBody s_Work_init, defScope s_Work_init⟩
abbrev dText : InD := ⟨"BadText", "BadText.__init__", defArgs s_Text_init, defBody s_Text_init, defScope s_Text_init⟩
theorem small_text {n : Int} (h0 : 0 ≤ n) (h1 : n < 1900) : n.natAbs.log2 < 1920 ∧ (Str.ofString (toString n)).length ≤ 5 := by
  have h2 : n.natAbs < 10 ^ 4 := by
    have e : (10 : Nat) ^ 4 = 10000 := by decide
    omega
  refine ⟨?_, ?_⟩
  · by_cases z : n.natAbs = 0
    · rw [z]
      decide
    · exact Nat.lt_of_le_of_lt (Nat.log2_le_self _) (by omega)
  · rw [PySem.ofString_length]
    exact PySem.int_text_length_le10 (k := 4) (by decide) h2
section
variable {P : Program} {w : World} {K : PySem.W.Frag} {mg : Str → Option Value} {base : Heap}
theorem init_work (Y : SupX P K dWork) (hP : (P.main.scope.names.lookup ("super" : Str)).isSome = false) (msu : mg "super" = none) (hno : PySem.W.findIn K (.ref (He.ga K "BadWork")) "number" = some none) {fd : FuncData} (hfd : ∃ oc od osl, K.lookup (He.ma K (He.ga K "BadWork") "__init__") = some ⟨oc, od, .func fd, osl⟩) :
    FnOk P w K mg base CX0 1 (He.ma K (He.ga K "BadWork") "__init__") fd ["self", "number"] (spInit1 (He.ga K "BadWork") "number") := by
  refine XSU.fn_super (N := ["self", "number", "__class__"]) (k := 0) Y.c rfl hfd (NdefX.nscope_by (by decide +kernel)) rfl rfl msu rfl hP (fun vs H Q E h => ?_) (fun env => rfl) (fun env => rfl) (fun A outer s H vs Q E hr h => ?_)
  · obtain ⟨a, n, rfl, _⟩ := h
    rfl
  obtain ⟨a, n, rfl, h0, h1, ea, q⟩ := h
  obtain ⟨t1, t2⟩ := small_text h0 h1
  refine ⟨a, [.int n], _, _, rfl, pe_joined (.cons pe_str (.cons (pe_fmt (pv 1)) .nil)), pss_one (ps_ost (pv 0) (pv 1)), ea, ?_⟩
  refine ⟨_, rfl, by decide +kernel, _, rfl, .inr ⟨n, rfl, t1, _, rfl, ?_, ea, ?_⟩⟩
  · have e1 : (Str.empty ++ ("no work: step " : Str)).length = 14 := by decide +kernel
    have e2 : ((Str.empty ++ ("no work: step " : Str)) ++ Str.ofString (toString n)).length = (Str.empty ++ ("no work: step " : Str)).length + (Str.ofString (toString n)).length := Str.length_append _ _
    exact szN (by rw [e2, e1]; omega)
  · exact ⟨_, rfl, _, rfl, a, _, rfl, Y.c.T, hno, .inl ⟨ea, fun dx hdx hne => q dx hdx hne⟩⟩
theorem init_text (Y : SupX P K dText) (hP : (P.main.scope.names.lookup ("super" : Str)).isSome = false) (msu : mg "super" = none) (hno : PySem.W.findIn K (.ref (He.ga K "BadText")) "place" = some none) {fd : FuncData} (hfd : ∃ oc od osl, K.lookup (He.ma K (He.ga K "BadText") "__init__") = some ⟨oc, od, .func fd, osl⟩) :
    FnOk P w K mg base CX0 1 (He.ma K (He.ga K "BadText") "__init__") fd ["self", "place"] (spInit1 (He.ga K "BadText") "place") := by
  refine XSU.fn_super (N := ["self", "place", "__class__"]) (k := 0) Y.c rfl hfd (NdefX.nscope_by (by decide +kernel)) rfl rfl msu rfl hP (fun vs H Q E h => ?_) (fun env => rfl) (fun env => rfl) (fun A outer s H vs Q E hr h => ?_)
  · obtain ⟨a, n, rfl, _⟩ := h
    rfl
  obtain ⟨a, n, rfl, h0, h1, ea, q⟩ := h
  obtain ⟨t1, t2⟩ := small_text h0 h1
  refine ⟨a, [.int n], _, _, rfl, pe_joined (.cons pe_str (.cons (pe_fmt (pv 1)) .nil)), pss_one (ps_ost (pv 0) (pv 1)), ea, ?_⟩
  refine ⟨_, rfl, by decide +kernel, _, rfl, .inr ⟨n, rfl, t1, _, rfl, ?_, ea, ?_⟩⟩
  · have e1 : (Str.empty ++ ("no such text: word " : Str)).length = 19 := by decide +kernel
    have e2 : ((Str.empty ++ ("no such text: word " : Str)) ++ Str.ofString (toString n)).length = (Str.empty ++ ("no such text: word " : Str)).length + (Str.ofString (toString n)).length := Str.length_append _ _
    exact szN (by rw [e2, e1]; omega)
  · exact ⟨_, rfl, _, rfl, a, _, rfl, Y.c.T, hno, .inl ⟨ea, fun dx hdx hne => q dx hdx hne⟩⟩
end
end MS
end
section
set_option maxRecDepth 100000
set_option maxHeartbeats 4000000
namespace MS
open PySem L2
open HeY
/-! ### kinds_in of any words -/
abbrev s_kinds_in : Stmt := topS 34
abbrev nmKi : List Str := ["words", "start", "kinds", "due", "place", "word"]
theorem sc_kinds_in : FnScope nmKi ["words", "start"] (defScope s_kinds_in) := ⟨rfl, rfl, rfl, by decide +kernel, rfl, by decide +kernel, by decide +kernel⟩
/-- the kinds, one by one; or the first place that can't be -/
def km : List Str → List Str → Nat → Nat ⊕ List Str
  | [], [], _ => .inr []
  | [], _ :: _, n => .inl n
  | _ :: _, [], n => .inl n
  | x :: r, k :: S, n => if canB x k = true then (match km r (comL x k ++ S) (n + 1) with
    | .inl m => .inl m
    | .inr ks => .inr (k :: ks)) else .inl n
def behind (done : List Str) : Nat ⊕ List Str → Nat ⊕ List Str
  | .inl m => .inl m
  | .inr ks => .inr (done ++ ks)
theorem com_len {x k : Str} (ha : asc x) (hc : canB x k = true) : (comL x k).length ≤ 99 := by
  unfold comL
  by_cases h1 : k = "scheme"
  · rw [if_pos h1]
    cases e : shapeOf x with
    | none => exact Nat.zero_le _
    | some l =>
      have key : ∀ p ∈ shapesL, p.2.length ≤ 99 := by decide +kernel
      exact key _ (shape_mem e)
  · rw [if_neg h1]
    by_cases h2 : k = "schemes"
    · rw [if_pos h2, List.length_replicate]
      unfold canB at hc
      rw [if_neg h1, if_neg (by rw [h2]; decide +kernel)] at hc
      unfold figB at hc
      rw [Bool.and_eq_true, Bool.and_eq_true] at hc
      obtain ⟨n, n0, n1, e⟩ := fig_of ha hc.1 (of_decide_eq_true hc.2.1)
      have ev : valOf x = n := by unfold valOf; rw [e]; rfl
      rw [ev]
      omega
    · rw [if_neg h2]
      exact Nat.zero_le _
theorem km_behind {done : List Str} {k : Str} {r : Nat ⊕ List Str} : behind done (match r with | .inl m => .inl m | .inr ks => .inr (k :: ks)) = behind (done ++ [k]) r := by
  cases r with
  | inl m => rfl
  | inr ks =>
    show (Sum.inr (done ++ k :: ks) : Nat ⊕ List Str) = .inr (done ++ [k] ++ ks)
    rw [List.append_assoc]
    rfl
def spKindsX (CT : Addr) : Sp := fun vs H Q E => ∃ (wl : Addr) (st : Nat) (ws : List Str), vs = [.ref wl, .int ((st : Nat) : Int)] ∧ H wl = some (.lst (ws.map V.str)) ∧ (∀ x ∈ ws, asc x ∧ x.length ≤ 1000) ∧ st + ws.length < 1800 ∧
  (∀ m : Nat, km ws ["scheme"] st = .inl m → Raised CT "place" ((m : Nat) : Int) H E) ∧ ∀ ks : List Str, km ws ["scheme"] st = .inr ks → ∀ (f : Addr) (H' : Hp), Same H H' → H f = none → H' f = some (.lst (ks.map V.str)) → Q (.ref f) H'
abbrev Tr (P : Program) (w : World) (K : PySem.W.Frag) (mg : Str → Option Value) (base : Heap) := Rsr P w K mg base "BadText" "place" "place"
theorem pop_last (xs : List V) (x : V) : (xs ++ [x])[(xs ++ [x]).length - 1]? = some x := by
  rw [List.length_append, List.length_singleton]
  simp
section
variable {P : Program} {w : World} {K : PySem.W.Frag} {mg : Str → Option Value} {base : Heap}
theorem ok_kindsX (T : PTx w K mg) (U : PTe w K mg) (RT : Tr P w K mg base) (D : Def K mg "kinds_in" s_kinds_in ["words", "start"]) (DS : Def K mg "can_stand" s_can_stand ["word", "kind"]) (DF : Def K mg "is_figures" s_is_figures ["word"]) (DC : Def K mg "coming" s_coming ["word", "kind"]) :
    FnOk P w K mg base (L2.CX P w) 3 D.f D.fd ["words", "start"] (spKindsX RT.C) := by
  have GS : FnOk P w K mg base CX0 2 DS.f DS.fd ["word", "kind"] spStandX := ok_standX T U DS DF
  have GC : FnOk P w K mg base CX0 1 DC.f DC.fd ["word", "kind"] spComX := ok_comingX T DC
  have nd := sc_kinds_in.nd
  refine D.okX sc_kinds_in (fun vs H Q E h => ?_) (fun cdv A outer s H vs Q E hr h => ?_)
  · obtain ⟨wl, st, ws, rfl, _⟩ := h
    rfl
  obtain ⟨wl, st, ws, rfl, ew, hws, hl, q1, q2⟩ := h
  have r1 : Room 1 _ := hr.mono (by decide)
  have tk : L2.Takes (cxOf (L2.CX P w) P w K mg base nmKi "kinds_in" (defScope s_kinds_in) D.f cdv A outer s H E) (fun cls d _ H' => E cls d H') := L2.takes_of rfl rfl rfl rfl
  refine ⟨_, pss_cons (ps_set (i := 2) nd rfl (Or.inl rfl) (pe_lst pa_nil))
    (pss_cons (ps_set (i := 3) nd rfl (Or.inl rfl) (pe_lst (pa_cons pe_str pa_nil)))
    (pss_cons (ps_for (L2.passes_of rfl) rfl (XEnum.pi_enumS rfl (T.free "enumerate" (by decide +kernel)) (pa_cons (pv 0) pa_nil) (pv 1)) (pg_tup (by rfl) (pgs_cons (pg_name (i := 4) nd rfl (Or.inl rfl)) (pgs_cons (pg_name (i := 5) nd rfl (Or.inl rfl)) pgs_nil)))
      (pss_cons (ps_if (PW.pt (pw_or (pt_not (pt_truth (pv 3) (by intro _; rfl))) (pw_or1 (pt_not (pt_val (pcall DS GS hr (pa_cons (pv 5) (pa_cons (pe_ix ix_list (pv 3) (pe_un un_neg pe_int) (fun _ _ => rfl)) pa_nil)))))))) (pss_one (ps_rs RT rfl tk hr (pv 4))) pss_nil)
      (pss_cons (ps_expr (pe_bm PySem.F.plainAttrs_list PySem.F.slot_list_append PySem.F.type_list_append mt_append (pv 2) (pa_cons (pe_bm0 PySem.F.plainAttrs_list PySem.F.slot_list_pop PySem.F.type_list_pop mt_pop (pv 3)) pa_nil)))
      (pss_one (ps_expr (pe_bm PySem.F.plainAttrs_list PySem.F.slot_list_extend PySem.F.type_list_extend mt_extend (pv 3) (pa_cons (pe_revL (pcall DC GC r1 (pa_cons (pv 5) (pa_cons (pe_ix ix_list (pv 2) (pe_un un_neg pe_int) (fun _ _ => rfl)) pa_nil)))) pa_nil)))))))
    (pss_cons (ps_if (pt_truth (pv 3) (by intro _; rfl)) (pss_one (ps_rs RT rfl tk hr (pe_op op_add (pv 1) (pe_callB call_len_seq rfl (T.free "len" (by decide +kernel)) PySem.boot_len (pa_cons (pv 0) pa_nil))))) pss_nil)
    (pss_one (ps_ret (pv 2)))))), ?_⟩
  have lw : (ws.map V.str).length = ws.length := List.length_map _
  refine ⟨Nat.zero_le _, fun kl hkl => ?_⟩
  have s1 : Same H (upd H kl (.lst [])) := Same.new hkl
  dsimp only [gName]
  refine ⟨(by show 1 ≤ sizeLine; decide), fun dl hdl => ?_⟩
  have s2 := s1.trans (Same.new (o := .lst [.str "scheme"]) hdl)
  have ndk : dl ≠ kl := fun e => by rw [e, upd_same] at hdl; cases hdl
  have hdl0 : H dl = none := s1.free hdl
  dsimp only [gName]
  refine ⟨_, rfl, _, rfl, wl, _, _, rfl, rfl, by omega, by omega, SqL.of (s2 _ _ ew), ?_⟩
  refine for_it (XEnum.walk_enumS (K := K) (a := wl) (k := ((st : Nat) : Int)) (xs := ws.map V.str)) (fun j σ H' => ∃ (v4 v5 : Option V) (S done : List Str), σ = [some (.ref wl), some (.int ((st : Nat) : Int)), some (.ref kl), some (.ref dl), v4, v5] ∧ H' kl = some (.lst (done.map V.str)) ∧ H' dl = some (.lst (S.map V.str).reverse) ∧
      km ws ["scheme"] st = behind done (km (ws.drop j) S (st + j)) ∧ done.length = j ∧ S.length ≤ 1 + 99 * j ∧ Same H H')
    ⟨none, none, ["scheme"], [], rfl, by rw [upd_ne ndk.symm]; exact upd_same, upd_same, by rw [List.drop_zero, Nat.add_zero]; cases km ws ["scheme"] st <;> rfl, rfl, by decide, s2⟩ (fun j σ H' _ ⟨_, _, _, _, _, _, _, _, _, _, sm⟩ => SqL.of (sm _ _ ew)) ?_ ?_
  · rintro j x σ H2 H3 hj ⟨v4, v5, S, done, rfl, ek, ed, hkm, hdn, hS, sm⟩ ⟨T1, x1, x2, rfl, hT1, rfl, ex1, ex2⟩
    rw [lw] at hj
    obtain rfl : V.int (((st : Nat) : Int) + (j : Nat)) = x1 := Option.some.inj ex1
    obtain rfl : V.str (ws[j]'hj) = x2 := Option.some.inj ((get_map V.str ws hj).symm.trans ex2)
    obtain ⟨ha, hxl⟩ := hws _ (List.getElem_mem hj)
    rw [List.drop_eq_getElem_cons hj] at hkm
    generalize ws[j]'hj = y at ha hxl hkm ex2
    have sT : Same H2 (upd H2 T1 (.tup [.int (((st : Nat) : Int) + (j : Nat)), .str y])) := Same.new hT1
    have eT : upd H2 T1 (.tup [.int (((st : Nat) : Int) + (j : Nat)), .str y]) T1 = some (.tup [.int (((st : Nat) : Int) + (j : Nat)), .str y]) := upd_same
    have sm1 := sm.trans sT
    have ek1 := sT _ _ ek
    have ed1 := sT _ _ ed
    refine ⟨T1, _, rfl, SqT.of eT, rfl, _, _, rfl, _, _, rfl, rfl, ?_⟩
    dsimp only [gName]
    generalize upd H2 T1 (.tup [.int (((st : Nat) : Int) + (j : Nat)), .str y]) = H4 at sm1 ek1 ed1
    have bad : km ws ["scheme"] st = .inl (st + j) → ∀ σ' Hx, Same H4 Hx → σ'[4]? = some (some (.int (((st : Nat) : Int) + (j : Nat)))) → tMkO RT.C (spInit1 RT.C "place") [] (tCons (tVar 4) tNil) σ' Hx fun cls d H' => E cls d H' := fun hb σ' Hx sx h4 =>
      ⟨_, h4, raised_of (by omega) (by omega) fun d H' hd s' e => ((q1 _ hb).from (sm1.trans sx)) d H' hd s' (by rw [e]; rfl)⟩
    cases S with
    | nil =>
      refine seq_new (b := true || false) (ev_or_new (b := true) (c := false) (fun Q q => ⟨_, rfl, false, .inl ⟨_, SqL.of ed1, rfl⟩, q _ (Same.refl _)⟩) (fun z => nomatch z)) (fun _ Hx sx => ?_) (fun z => nomatch z)
      exact bad (by rw [hkm]; rfl) _ Hx sx rfl
    | cons k S' =>
      rw [List.map_cons, List.reverse_cons] at ed1
      refine seq_new (b := false || !canB y k) (ev_or_new (b := false) (c := !canB y k) (fun Q q => ⟨_, rfl, true, .inl ⟨_, SqL.of ed1, by simp⟩, q _ (Same.refl _)⟩) (fun _ Hx sx Q q => ⟨_, rfl, _, rfl, 1, rfl, dl, _, -1, .str k, rfl, rfl, SqL.of (sx _ _ ed1), atI_last _ _, y, k, rfl, ha, hxl, _, rfl, q _ (Same.refl _)⟩)) (fun z Hx sx => ?_) (fun z Hx sx => ?_)
      · have hc : canB y k = false := by
          cases hcb : canB y k with
          | true => rw [hcb] at z; cases z
          | false => rfl
        refine bad ?_ _ Hx sx rfl
        rw [hkm]
        show behind done (if canB y k = true then _ else _) = _
        rw [hc, if_neg (by decide)]
        rfl
      · have hc : canB y k = true := by
          cases hcb : canB y k with
          | true => rfl
          | false => rw [hcb] at z; cases z
        have hkm : km ws ["scheme"] st = behind (done ++ [k]) (km (ws.drop (j + 1)) (comL y k ++ S') (st + (j + 1))) := by
          rw [hkm, ← km_behind]
          show behind done (if canB y k = true then _ else _) = _
          rw [if_pos hc]
          rfl
        have smx := sm1.trans sx
        have ekx := sx _ _ ek1
        have edx := sx _ _ ed1
        have hcl := com_len ha hc
        rw [List.length_cons] at hS
        refine ⟨_, rfl, .inl ⟨rfl, _, SqL.of ekx⟩, _, rfl, .inl ⟨rfl, _, SqL.of edx⟩, dl, _, _, rfl, rfl, edx, pop_last _ _, kl, _, _, rfl, rfl, (by rw [upd_ne ndk.symm]; exact ekx), small4000 (by rw [List.length_map]; omega), ?_⟩
        have s5 : Same H (upd (upd Hx dl (.lst ((S'.map V.str).reverse ++ [V.str k]).dropLast)) kl (.lst (done.map V.str ++ [V.str k]))) := Same.newer (Same.newer smx hdl0) hkl
        have ek5 : upd (upd Hx dl (.lst ((S'.map V.str).reverse ++ [V.str k]).dropLast)) kl (.lst (done.map V.str ++ [V.str k])) kl = some (.lst (done.map V.str ++ [V.str k])) := upd_same
        have ed5 : upd (upd Hx dl (.lst ((S'.map V.str).reverse ++ [V.str k]).dropLast)) kl (.lst (done.map V.str ++ [V.str k])) dl = some (.lst (S'.map V.str).reverse) := by rw [upd_ne ndk, upd_same, List.dropLast_concat]
        dsimp only
        refine ⟨_, rfl, .inl ⟨rfl, _, SqL.of ed5⟩, _, rfl, _, rfl, 1, rfl, kl, _, -1, .str k, rfl, rfl, SqL.of ek5, atI_last _ _, y, k, rfl, ha, hxl, hc, fun f H6 s6 hf ef => ⟨f, _, rfl, SqL.of ef, fun p hp => ?_⟩⟩
        have ed6 := Same.new (o := .lst ((comL y k).map V.str).reverse) hp _ _ (s6 _ _ ed5)
        have ek6 := Same.new (o := .lst ((comL y k).map V.str).reverse) hp _ _ (s6 _ _ ek5)
        refine ⟨dl, p, _, _, rfl, rfl, ed6, upd_same, by rw [List.length_reverse, List.length_reverse, List.length_map, List.length_map, sizeLine_eq]; omega, ?_⟩
        refine ⟨_, _, comL y k ++ S', done ++ [k], rfl, ?_, ?_, hkm, by rw [List.length_append, hdn]; rfl, by rw [List.length_append]; omega, Same.newer ((s5.trans s6).trans (Same.new hp)) hdl0⟩
        · rw [upd_ne ndk.symm, List.map_append]
          exact ek6
        · rw [upd_same, List.map_append, List.reverse_append]
  · rintro σ H2 ⟨v4, v5, S, done, rfl, ek, ed, hkm, hdn, hS, sm⟩
    rw [lw, List.drop_length] at hkm
    dsimp only
    cases S with
    | nil =>
      refine seq_new (b := false) (fun Q q => ⟨_, rfl, false, .inl ⟨_, SqL.of ed, rfl⟩, q _ (Same.refl _)⟩) (fun z => nomatch z) (fun _ Hx sx => ?_)
      have hk : km ws ["scheme"] st = .inr done := by
        rw [hkm]
        show (Sum.inr (done ++ []) : Nat ⊕ List Str) = _
        rw [List.append_nil]
      exact ⟨_, rfl, q2 _ hk kl Hx (sm.trans sx) hkl (sx _ _ ek)⟩
    | cons k S' =>
      rw [List.map_cons, List.reverse_cons] at ed
      refine seq_new (b := true) (fun Q q => ⟨_, rfl, true, .inl ⟨_, SqL.of ed, by simp⟩, q _ (Same.refl _)⟩) (fun _ Hx sx => ?_) (fun z => nomatch z)
      have hk : km ws ["scheme"] st = .inl (st + ws.length) := by
        rw [hkm]
        rfl
      refine ⟨_, rfl, _, rfl, wl, _, rfl, .inl (SqL.of (sx _ _ (sm _ _ ew))), _, _, rfl, rfl, ?_⟩
      exact raised_of (by omega) (by omega) fun d H' hd s' e => ((q1 _ hk).from (sm.trans sx)) d H' hd s' (by rw [e, lw]; rfl)
end
end MS
end
section
set_option maxRecDepth 100000
set_option maxHeartbeats 4000000
namespace MS
open PySem L2
/-! ### values told by a text: texts, numbers, tuples of them -/
inductive TV where
  | s (x : Str)
  | n (i : Int)
  | t (l : List TV)
mutual
def VAt (H : Hp) : TV → V → Prop
  | .s x, v => v = .str x
  | .n i, v => v = .int i
  | .t l, v => ∃ a vs, v = .ref a ∧ H a = some (.tup vs) ∧ VAtL H l vs
def VAtL (H : Hp) : List TV → List V → Prop
  | [], vs => vs = []
  | x :: r, vs => ∃ v vr, vs = v :: vr ∧ VAt H x v ∧ VAtL H r vr
end
mutual
theorem VAt.keep {H H' : Hp} (k : TupK H H') : ∀ {x : TV} {v : V}, VAt H x v → VAt H' x v
  | .s x, v, h => by rw [VAt] at h ⊢; exact h
  | .n i, v, h => by rw [VAt] at h ⊢; exact h
  | .t l, v, h => by
    rw [VAt] at h ⊢
    obtain ⟨a, vs, e, ha, hl⟩ := h
    exact ⟨a, vs, e, k _ _ ha, VAtL.keep k hl⟩
theorem VAtL.keep {H H' : Hp} (k : TupK H H') : ∀ {l : List TV} {vs : List V}, VAtL H l vs → VAtL H' l vs
  | [], vs, h => by rw [VAtL] at h ⊢; exact h
  | x :: r, vs, h => by
    rw [VAtL] at h ⊢
    obtain ⟨v, vr, e, h1, h2⟩ := h
    exact ⟨v, vr, e, VAt.keep k h1, VAtL.keep k h2⟩
end
theorem VAtL.len {H : Hp} : ∀ {l : List TV} {vs : List V}, VAtL H l vs → l.length = vs.length
  | [], vs, h => by rw [VAtL] at h; rw [h]; rfl
  | x :: r, vs, h => by
    rw [VAtL] at h
    obtain ⟨v, vr, rfl, _, h2⟩ := h
    rw [List.length_cons, List.length_cons, h2.len]
theorem VAtL.split {H : Hp} : ∀ {l m : List TV} {vs : List V}, VAtL H (l ++ m) vs → ∃ v1 v2, vs = v1 ++ v2 ∧ VAtL H l v1 ∧ VAtL H m v2
  | [], m, vs, h => ⟨[], vs, rfl, by rw [VAtL], h⟩
  | x :: r, m, vs, h => by
    rw [List.cons_append, VAtL] at h
    obtain ⟨v, vr, rfl, h1, h2⟩ := h
    obtain ⟨v1, v2, rfl, h3, h4⟩ := h2.split
    exact ⟨v :: v1, v2, rfl, by rw [VAtL]; exact ⟨v, v1, rfl, h1, h3⟩, h4⟩
theorem VAtL.cons {H : Hp} {x : TV} {r : List TV} {v : V} {vr : List V} (h1 : VAt H x v) (h2 : VAtL H r vr) : VAtL H (x :: r) (v :: vr) := by
  rw [VAtL]
  exact ⟨v, vr, rfl, h1, h2⟩
/-- the values that the words build, from the last on: the stack -/
def bld : List (Str × Str) → List TV
  | [] => []
  | (x, k) :: r => if k = "scheme" then .t (.s x :: (bld r).take ((shapeOf x).getD []).length) :: (bld r).drop ((shapeOf x).getD []).length
    else if k = "schemes" then .t ((bld r).take (valOf x).toNat) :: (bld r).drop (valOf x).toNat
    else if k = "word" then .s x :: bld r else .n (valOf x) :: bld r
theorem com_len2 (x k : Str) : (comL x k).length = if k = "scheme" then ((shapeOf x).getD []).length else if k = "schemes" then (valOf x).toNat else 0 := by
  unfold comL
  by_cases h1 : k = "scheme"
  · rw [if_pos h1, if_pos h1]
  · rw [if_neg h1, if_neg h1]
    by_cases h2 : k = "schemes"
    · rw [if_pos h2, if_pos h2, List.length_replicate]
    · rw [if_neg h2, if_neg h2]
      rfl
/-- the kinds are as many as the words; what is built is as much as was due -/
theorem km_len : ∀ {ws S : List Str} {n : Nat} {ks : List Str}, km ws S n = .inr ks → ks.length = ws.length ∧ (bld (ws.zip ks)).length = S.length
  | [], [], n, ks, h => by
    obtain rfl : [] = ks := Sum.inr.inj h
    exact ⟨rfl, rfl⟩
  | [], _ :: _, n, ks, h => nomatch h
  | _ :: _, [], n, ks, h => nomatch h
  | x :: r, k :: S, n, ks, h => by
    unfold km at h
    by_cases hc : canB x k = true
    · rw [if_pos hc] at h
      cases e : km r (comL x k ++ S) (n + 1) with
      | inl m => rw [e] at h; cases h
      | inr ks' =>
        rw [e] at h
        obtain rfl : k :: ks' = ks := Sum.inr.inj h
        obtain ⟨h1, h2⟩ := km_len e
        refine ⟨by rw [List.length_cons, List.length_cons, h1], ?_⟩
        rw [List.length_append, com_len2] at h2
        show (bld ((x, k) :: r.zip ks')).length = S.length + 1
        unfold bld
        by_cases h3 : k = "scheme"
        · rw [if_pos h3] at h2 ⊢
          rw [List.length_cons, List.length_drop]
          omega
        · rw [if_neg h3] at h2 ⊢
          by_cases h4 : k = "schemes"
          · rw [if_pos h4] at h2 ⊢
            rw [List.length_cons, List.length_drop]
            omega
          · rw [if_neg h4] at h2 ⊢
            by_cases h5 : k = "word"
            · rw [if_pos h5, List.length_cons]
              omega
            · rw [if_neg h5, List.length_cons]
              omega
    · rw [if_neg hc] at h
      cases h
end MS
end
section
set_option maxRecDepth 100000
set_option maxHeartbeats 4000000
namespace MS
open PySem L2
/-! ### taken, scheme_of of any words whose kinds are told -/
abbrev s_taken : Stmt := topS 35
theorem sc_taken : FnScope ["parts", "many", "found", "turn"] ["parts", "many"] (defScope s_taken) := ⟨rfl, rfl, rfl, by decide +kernel, rfl, by decide +kernel, by decide +kernel⟩
abbrev s_scheme_of : Stmt := topS 36
theorem sc_scheme_of : FnScope ["words", "kinds", "parts", "word", "kind"] ["words", "kinds"] (defScope s_scheme_of) := ⟨rfl, rfl, rfl, by decide +kernel, rfl, by decide +kernel, by decide +kernel⟩
theorem bld_le : ∀ r : List (Str × Str), (bld r).length ≤ r.length
  | [] => Nat.le_refl _
  | (x, k) :: r => by
    have ih := bld_le r
    unfold bld
    by_cases h1 : k = "scheme"
    · rw [if_pos h1, List.length_cons, List.length_drop, List.length_cons]; omega
    · rw [if_neg h1]
      by_cases h2 : k = "schemes"
      · rw [if_pos h2, List.length_cons, List.length_drop, List.length_cons]; omega
      · rw [if_neg h2]
        by_cases h3 : k = "word"
        · rw [if_pos h3, List.length_cons, List.length_cons]; omega
        · rw [if_neg h3, List.length_cons, List.length_cons]; omega
theorem km_at : ∀ {ws S : List Str} {n : Nat} {ks : List Str}, km ws S n = .inr ks → ∀ (m : Nat) (x k : Str) (r : List (Str × Str)), (ws.zip ks).drop m = (x, k) :: r → canB x k = true ∧ (comL x k).length ≤ (bld r).length
  | [], [], n, ks, h, m, x, k, r, e => by simp at e
  | [], _ :: _, n, ks, h, _, _, _, _, _ => nomatch h
  | _ :: _, [], n, ks, h, _, _, _, _, _ => nomatch h
  | y :: r0, k0 :: S, n, ks, h, m, x, k, r, e => by
    unfold km at h
    by_cases hc : canB y k0 = true
    · rw [if_pos hc] at h
      cases e0 : km r0 (comL y k0 ++ S) (n + 1) with
      | inl m => rw [e0] at h; cases h
      | inr ks' =>
        rw [e0] at h
        obtain rfl : k0 :: ks' = ks := Sum.inr.inj h
        cases m with
        | zero =>
          rw [List.drop_zero, List.zip_cons_cons] at e
          injection e with e1 e2
          injection e1 with e3 e4
          subst e2 e3 e4
          refine ⟨hc, ?_⟩
          rw [(km_len e0).2, List.length_append]
          omega
        | succ m => exact km_at e0 m x k r (by rw [List.zip_cons_cons, List.drop_succ_cons] at e; exact e)
    · rw [if_neg hc] at h
      cases h
def spTakenX : Sp := fun vs H Q _ => ∃ (pl : Addr) (us rs : List V), vs = [.ref pl, .int ((us.length : Nat) : Int)] ∧ H pl = some (.lst (us ++ rs).reverse) ∧ us.length ≤ 99 ∧ ∀ (t : Addr) (H' : Hp), Keep [pl] H H' → H' pl = some (.lst rs.reverse) → H t = none → H' t = some (.tup us) → Q (.ref t) H'
def spSchemeX : Sp := fun vs H Q _ => ∃ (wl kl : Addr) (ws ks : List Str) (n : Nat) (t : TV), vs = [.ref wl, .ref kl] ∧ H wl = some (.lst (ws.map V.str)) ∧ H kl = some (.lst (ks.map V.str)) ∧ (∀ x ∈ ws, asc x) ∧ ws.length ≤ 1799 ∧ km ws ["scheme"] n = .inr ks ∧ bld (ws.zip ks) = [t] ∧ ∀ (v : V) (H' : Hp), Same H H' → VAt H' t v → Q v H'
section
variable {P : Program} {w : World} {K : PySem.W.Frag} {mg : Str → Option Value} {base : Heap}
theorem ok_takenX (T : PTx w K mg) (D : Def K mg "taken" s_taken ["parts", "many"]) : FnOk P w K mg base CX0 1 D.f D.fd ["parts", "many"] spTakenX := by
  have nd := sc_taken.nd
  refine D.ok sc_taken (fun vs H Q E h => ?_) (fun cdv A outer s H vs Q E hr h => ?_)
  · obtain ⟨pl, us, rs, rfl, _⟩ := h
    rfl
  obtain ⟨pl, us, rs, rfl, ep, h4, q⟩ := h
  refine ⟨_, pss_cons (ps_set (i := 2) nd rfl (Or.inl rfl) (pe_lst pa_nil))
    (pss_cons (ps_for PassesOwn.never rfl (pi_range1 rfl (T.free "range" (by decide +kernel)) (pa_cons (pv 1) pa_nil)) (pg_name (i := 3) nd rfl (Or.inl rfl))
      (pss_one (ps_expr (pe_bm PySem.F.plainAttrs_list PySem.F.slot_list_append PySem.F.type_list_append mt_append (pv 2) (pa_cons (pe_bm0 PySem.F.plainAttrs_list PySem.F.slot_list_pop PySem.F.type_list_pop mt_pop (pv 0)) pa_nil)))))
    (pss_one (ps_ret (pe_callTy call_tuple_of rfl (T.free "tuple" (by decide +kernel)) (by decide +kernel) (pa_cons (pv 2) pa_nil))))), ?_⟩
  refine ⟨Nat.zero_le _, fun f hf => ?_⟩
  have npf : pl ≠ f := ne_of_none ep hf
  dsimp only [gName]
  refine ⟨_, rfl, _, rfl, by omega, by omega, ?_⟩
  rw [Int.toNat_natCast]
  refine for_range (lo := 0) (n := us.length) (fun j σ H' => ∃ v3 : Option V, σ = [some (.ref pl), some (.int ((us.length : Nat) : Int)), some (.ref f), v3] ∧ H' f = some (.lst (us.take j)) ∧ H' pl = some (.lst (us.drop j ++ rs).reverse) ∧ Keep [pl] H H')
    ⟨none, rfl, upd_same, by rw [upd_ne npf]; exact ep, Keep.new hf⟩ ?_ ?_
  · rintro j σ H1 hj ⟨v3, rfl, ef, ep1, k1⟩
    have ed : (us.drop j ++ rs).reverse = (us.drop (j + 1) ++ rs).reverse ++ [us[j]'hj] := by
      rw [List.drop_eq_getElem_cons hj, List.cons_append, List.reverse_cons]
    rw [ed] at ep1
    dsimp only [gName]
    refine ⟨_, rfl, .inl ⟨rfl, _, SqL.of ef⟩, _, rfl, .inl ⟨rfl, _, SqL.of ep1⟩, pl, _, _, rfl, rfl, ep1, pop_last _ _, f, _, _, rfl, rfl, (by rw [upd_ne npf.symm]; exact ef), small4000 (by rw [List.length_take]; omega), ?_⟩
    refine ⟨_, rfl, ?_, ?_, (k1.trans (Keep.put (List.mem_singleton.mpr rfl))).newer hf⟩
    · rw [upd_same, List.take_succ_eq_append_getElem hj]
    · rw [upd_ne npf, upd_same, List.dropLast_concat]
  · rintro σ H1 ⟨v3, rfl, ef, ep1, k1⟩
    rw [List.take_length] at ef
    rw [List.drop_length, List.nil_append] at ep1
    have hS : ∀ x ∈ [pl], H x ≠ none → H1 x ≠ none := fun x hx _ => by
      rw [List.mem_singleton.mp hx, ep1]
      exact fun z => nomatch z
    exact ⟨_, rfl, f, us, rfl, .inl ⟨SqL.of ef, fun t ht => q t _ (k1.newer (k1.free ht hS)) (by rw [upd_ne (ne_of_none ep1 ht)]; exact ep1) (k1.free ht hS) upd_same⟩⟩
theorem ok_scheme_ofX (T : PTx w K mg) (D : Def K mg "scheme_of" s_scheme_of ["words", "kinds"]) (DT : Def K mg "taken" s_taken ["parts", "many"]) : FnOk P w K mg base CX0 2 D.f D.fd ["words", "kinds"] spSchemeX := by
  have GT : FnOk P w K mg base CX0 1 DT.f DT.fd ["parts", "many"] spTakenX := ok_takenX T DT
  obtain ⟨aS, gS, low, hS⟩ := T.shapes
  have nd := sc_scheme_of.nd
  refine D.ok sc_scheme_of (fun vs H Q E h => ?_) (fun cdv A outer s H vs Q E hr h => ?_)
  · obtain ⟨wl, kl, ws, ks, n, t, rfl, _⟩ := h
    rfl
  obtain ⟨wl, kl, ws, ks, n, tt0, rfl, ew, ek, hasc, hl, hkm, hbld, q⟩ := h
  refine ⟨_, pss_cons (ps_set (i := 2) nd rfl (Or.inl rfl) (pe_lst pa_nil))
    (pss_cons (ps_for PassesOwn.never rfl (pi_reversed rfl (T.free "reversed" (by decide +kernel)) (pa_cons (XZip.pe_listZip rfl (pa_cons (pv 0) (pa_cons (pv 1) pa_nil)) rfl (T.free "list" (by decide +kernel)) rfl (T.free "zip" (by decide +kernel))) pa_nil))
        (pg_tup (by rfl) (pgs_cons (pg_name (i := 3) nd rfl (Or.inl rfl)) (pgs_cons (pg_name (i := 4) nd rfl (Or.inl rfl)) pgs_nil)))
      (pss_one (ps_if (pt_cmpR op_eq (pv 4) pe_str (nomark _))
        (pss_one (ps_expr (pe_bm PySem.F.plainAttrs_list PySem.F.slot_list_append PySem.F.type_list_append mt_append (pv 2) (pa_cons (pe_op op_catA (pe_tup (pa_cons (pv 3) pa_nil)) (pcall DT GT hr (pa_cons (pv 2) (pa_cons (pe_callB call_len_seq rfl (T.free "len" (by decide +kernel)) PySem.boot_len (pa_cons (pe_ix ix_kdict (pe_glob rfl gS (v := .ref aS) rfl) (pv 3) (fun _ _ => rfl)) pa_nil)) pa_nil)))) pa_nil))))
        (pss_one (ps_if (pt_cmpR op_eq (pv 4) pe_str (nomark _))
          (pss_one (ps_expr (pe_bm PySem.F.plainAttrs_list PySem.F.slot_list_append PySem.F.type_list_append mt_append (pv 2) (pa_cons (pcall DT GT hr (pa_cons (pv 2) (pa_cons (pe_callTy call_int_str rfl (T.free "int" (by decide +kernel)) (by decide +kernel) (pa_cons (pv 3) pa_nil)) pa_nil))) pa_nil))))
          (pss_one (ps_expr (pe_bm PySem.F.plainAttrs_list PySem.F.slot_list_append PySem.F.type_list_append mt_append (pv 2) (pa_cons (pe_ifExp (pt_cmpR op_eq (pv 4) pe_str (nomark _)) (pv 3) (pe_callTy call_int_str rfl (T.free "int" (by decide +kernel)) (by decide +kernel) (pa_cons (pv 3) pa_nil))) pa_nil)))))))))
    (pss_one (ps_ret (pe_ix ix_list (pv 2) pe_int (fun _ _ => rfl))))), ?_⟩
  have hkl := (km_len hkm).1
  have lw : (ws.map V.str).length = ws.length := List.length_map _
  have lk : (ks.map V.str).length = ws.length := by rw [List.length_map, hkl]
  have lz : (ws.zip ks).length = ws.length := by rw [List.length_zip]; omega
  refine ⟨Nat.zero_le _, fun pl hpl => ?_⟩
  have s1 : Same H (upd H pl (.lst [])) := Same.new hpl
  have e1 : upd H pl (.lst []) pl = some (.lst []) := upd_same
  dsimp only [gName]
  generalize upd H pl (.lst []) = H1 at s1 e1 ⊢
  refine ⟨_, rfl, _, rfl, wl, kl, _, _, rfl, SqL.of (s1 _ _ ew), SqL.of (s1 _ _ ek), by rw [lw, lk], by omega, fun H2 zl ts s2 hzl ezl lts hts => ?_⟩
  rw [lw] at lts
  have e2 := s2 _ _ e1
  have nzp : zl ≠ pl := fun e => by rw [e, e1] at hzl; cases hzl
  refine ⟨zl, _, rfl, SqL.of ezl, ?_⟩
  have lzs : (ts.map V.ref).length = ws.length := by rw [List.length_map, lts]
  refine for_it (walk_rev (K := K) (a := zl) (xs := ts.map V.ref)) (fun j σ H' => ∃ (v3 v4 : Option V) (us : List V), σ = [some (.ref wl), some (.ref kl), some (.ref pl), v3, v4] ∧ VAtL H' (bld ((ws.zip ks).drop (ws.length - j))) us ∧ H' pl = some (.lst us.reverse) ∧ Keep [pl] H2 H')
    ⟨none, none, [], rfl, by rw [Nat.sub_zero, List.drop_of_length_le (by omega)]; unfold bld; rw [VAtL], e2, Keep.refl _ _⟩ (fun j σ H' _ ⟨_, _, _, _, _, _, k⟩ => SqL.of (k _ _ ezl (by simp [nzp]))) ?_ ?_
  · rintro j x σ H3 H4 hj ⟨v3, v4, us, rfl, hus, ep, k3⟩ ⟨rfl, hx⟩
    rw [lzs] at hj hx
    have hm : ws.length - 1 - j < ws.length := by omega
    have em : ws.length - j = ws.length - 1 - j + 1 := by omega
    have em2 : ws.length - (j + 1) = ws.length - 1 - j := by omega
    rw [em] at hus
    rw [em2]
    generalize ws.length - 1 - j = m at hm hus hx
    have ewm : ws[m]? = some (ws[m]'hm) := List.getElem?_eq_getElem hm
    have hmk : m < ks.length := by omega
    have ekm : ks[m]? = some (ks[m]'hmk) := List.getElem?_eq_getElem hmk
    have ezm : (ws.zip ks).drop m = (ws[m]'hm, ks[m]'hmk) :: (ws.zip ks).drop (m + 1) := by
      rw [List.drop_eq_getElem_cons (by omega), List.getElem_zip]
    have etm : ts[m]? = some (ts[m]'(by omega)) := List.getElem?_eq_getElem (by omega)
    obtain rfl : x = .ref (ts[m]'(by omega)) := by
      rw [List.getElem?_map, etm] at hx
      exact (Option.some.inj hx).symm
    have eT := hts m _ (V.str (ws[m]'hm)) (V.str (ks[m]'hmk)) etm (by rw [List.getElem?_map, ewm]; rfl) (by rw [List.getElem?_map, ekm]; rfl)
    have hyasc := hasc _ (List.getElem_mem hm)
    generalize ts[m]'(by omega) = T1 at eT
    have npT : T1 ≠ pl := fun e => by
      rw [e, e2] at eT
      cases eT
    have eT4 := k3 _ _ eT (by simp [npT])
    obtain ⟨hc, hcl⟩ := km_at hkm m _ _ _ ezm
    have hcl99 := com_len hyasc hc
    rw [ezm]
    have hble := bld_le ((ws.zip ks).drop (m + 1))
    rw [List.length_drop] at hble
    generalize (ws.zip ks).drop (m + 1) = r at hus hcl hble
    generalize ws[m]'hm = y at hc hcl hcl99 eT4 hyasc
    generalize ks[m]'hmk = k at hc hcl hcl99 eT4
    have lus := hus.len
    refine ⟨T1, _, rfl, SqT.of eT4, rfl, _, _, rfl, _, _, rfl, rfl, ?_⟩
    dsimp only [gName]
    have fin : ∀ (x : TV) (S : List TV) (v : V) (us2 : List V) (H5 : Hp), bld ((y, k) :: r) = x :: S → Keep [pl] H4 H5 → H5 pl = some (.lst us2.reverse) → VAt H5 x v → VAtL H5 S us2 → ∃ (v3 v4 : Option V) (us : List V), ([some (.ref wl), some (.ref kl), some (.ref pl), some (.str y), some (.str k)] : St) = [some (.ref wl), some (.ref kl), some (.ref pl), v3, v4] ∧
        VAtL (upd H5 pl (.lst (us2.reverse ++ [v]))) (bld ((y, k) :: r)) us ∧ upd H5 pl (.lst (us2.reverse ++ [v])) pl = some (.lst us.reverse) ∧ Keep [pl] H2 (upd H5 pl (.lst (us2.reverse ++ [v]))) := fun x S v us2 H5 eb k5 e5 hv h2 => by
      have t5 : TupK H5 (upd H5 pl (.lst (us2.reverse ++ [v]))) := TupK.put e5
      exact ⟨_, _, v :: us2, rfl, by rw [eb]; exact VAtL.cons (hv.keep t5) (h2.keep t5), by rw [upd_same, List.reverse_cons], (k3.trans k5).trans (Keep.put (List.mem_singleton.mpr rfl))⟩
    have hsp : ∀ m : Nat, m ≤ (bld r).length → ∃ us1 us2, us = us1 ++ us2 ∧ VAtL H4 ((bld r).take m) us1 ∧ VAtL H4 ((bld r).drop m) us2 ∧ us1.length = m := fun m hm' => by
      obtain ⟨us1, us2, e, h1, h2⟩ := VAtL.split (l := (bld r).take m) (m := (bld r).drop m) (by rw [List.take_append_drop]; exact hus)
      refine ⟨us1, us2, e, h1, h2, ?_⟩
      have := h1.len
      rw [List.length_take] at this
      omega
    have sz5 : ∀ us2 : List V, us2.length ≤ us.length → us2.reverse.length < sizeLine := fun us2 h => small4000 (by rw [List.length_reverse]; omega)
    by_cases h1 : k = "scheme"
    · subst h1
      refine is_word (b := true) rfl (by decide +kernel) _ (iteT ?_)
      cases es : shapeOf y with
      | none =>
        unfold canB at hc
        rw [if_pos rfl, es] at hc
        cases hc
      | some l =>
        obtain ⟨t, kdk, qt⟩ := hS _ (shape_mem es)
        have ecl : comL y "scheme" = l := by unfold comL; rw [if_pos rfl, es]; rfl
        rw [ecl] at hcl hcl99
        have hl0 : 0 < l.length := by
          have key : ∀ p ∈ shapesL, 0 < p.2.length := by decide +kernel
          exact key _ (shape_mem es)
        obtain ⟨us1, us2, rfl, hv1, hv2, hl1⟩ := hsp l.length hcl
        have eb : bld ((y, "scheme") :: r) = .t (.s y :: (bld r).take l.length) :: (bld r).drop l.length := by
          rw [bld, if_pos rfl, es]
          rfl
        rw [List.length_append] at lus
        refine ⟨_, rfl, .inl ⟨rfl, _, SqL.of ep⟩, _, rfl, (by show 1 ≤ sizeLine; decide), fun tw htw => ?_⟩
        have ep5 := Same.new (o := .tup [.str y]) htw _ _ ep
        have k45 : Keep [pl] H4 (upd H4 tw (.tup [.str y])) := Keep.new htw
        have etw : upd H4 tw (.tup [.str y]) tw = some (.tup [.str y]) := upd_same
        generalize upd H4 tw (.tup [.str y]) = H5 at ep5 k45 etw
        refine ⟨_, rfl, _, rfl, aS, y, .ref t, rfl, rfl, kdk, t, _, rfl, .inr (qt _), ?_⟩
        refine ⟨pl, us1, us2, by rw [List.length_map, hl1]; rfl, ep5, by omega, fun tt H6 k6 e6 htt ett => ?_⟩
        have ntp : tw ≠ pl := fun e => by rw [e, ep5] at etw; cases etw
        have hn1 : us1 ≠ [] := fun z => by rw [z] at hl1; rw [← hl1] at hl0; exact absurd hl0 (by decide)
        refine ⟨tw, tt, _, _, rfl, rfl, SqT.of (k6 _ _ etw (by simp [ntp])), SqT.of ett, szM (by show 1 + _ ≤ 4000; omega), (fun z => nomatch z), (fun _ z => absurd z hn1), fun _ _ p hp => ?_⟩
        have npp : p ≠ pl := fun e => by rw [e, e6] at hp; cases hp
        have k7 : Keep [pl] H4 (upd H6 p (.tup ([.str y] ++ us1))) := (k45.trans k6).trans (Keep.new hp)
        have e7 : upd H6 p (.tup ([.str y] ++ us1)) pl = some (.lst us2.reverse) := by rw [upd_ne npp.symm]; exact e6
        have t47 : TupK H4 (upd H6 p (.tup ([.str y] ++ us1))) := k7.tup fun a ha => by rw [List.mem_singleton.mp ha]; exact ⟨_, ep⟩
        refine ⟨pl, _, _, rfl, rfl, e7, sz5 us2 (by rw [List.length_append]; omega), fin _ _ _ us2 _ eb k7 e7 ?_ (hv2.keep t47)⟩
        rw [VAt]
        exact ⟨p, _, rfl, upd_same, VAtL.cons (by rw [VAt]) (hv1.keep t47)⟩
    · refine is_word (b := false) rfl (beq_eq_false_iff_ne.mpr h1) _ (iteF ?_)
      by_cases h2 : k = "schemes"
      · subst h2
        refine is_word (b := true) rfl (by decide +kernel) _ (iteT ?_)
        unfold canB at hc
        rw [if_neg h1, if_neg (by decide +kernel)] at hc
        unfold figB at hc
        rw [Bool.and_eq_true, Bool.and_eq_true] at hc
        obtain ⟨nn, n0, n1, e⟩ := fig_of hyasc hc.1 (of_decide_eq_true hc.2.1)
        have h2l := of_decide_eq_true hc.2.1
        have ev : valOf y = nn := by unfold valOf; rw [e]; rfl
        rw [com_len2, if_neg h1, if_pos rfl, ev] at hcl
        obtain ⟨us1, us2, rfl, hv1, hv2, hl1⟩ := hsp nn.toNat hcl
        have eb : bld ((y, "schemes") :: r) = .t ((bld r).take nn.toNat) :: (bld r).drop nn.toNat := by
          rw [bld, if_neg h1, if_pos rfl, ev]
        refine ⟨_, rfl, .inl ⟨rfl, _, SqL.of ep⟩, _, rfl, _, rfl, _, _, rfl, e, by omega, ?_⟩
        refine ⟨pl, us1, us2, by rw [hl1, Int.toNat_of_nonneg n0]; rfl, ep, by omega, fun tt H6 k6 e6 htt ett => ?_⟩
        have t46 : TupK H4 H6 := k6.tup fun a ha => by rw [List.mem_singleton.mp ha]; exact ⟨_, ep⟩
        refine ⟨pl, _, _, rfl, rfl, e6, sz5 us2 (by rw [List.length_append]; omega), fin _ _ _ us2 _ eb k6 e6 ?_ (hv2.keep t46)⟩
        rw [VAt]
        exact ⟨tt, us1, rfl, ett, hv1.keep t46⟩
      · refine is_word (b := false) rfl (beq_eq_false_iff_ne.mpr h2) _ (iteF ?_)
        refine ⟨_, rfl, .inl ⟨rfl, _, SqL.of ep⟩, ?_⟩
        by_cases h3 : k = "word"
        · subst h3
          refine is_word (b := true) rfl (by decide +kernel) _ (iteT ?_)
          have eb : bld ((y, "word") :: r) = .s y :: bld r := by rw [bld, if_neg h1, if_neg h2, if_pos rfl]
          exact ⟨_, rfl, pl, _, _, rfl, rfl, ep, sz5 us (Nat.le_refl _), fin _ _ _ us _ eb (Keep.refl _ _) ep (by rw [VAt]) hus⟩
        · refine is_word (b := false) rfl (beq_eq_false_iff_ne.mpr h3) _ (iteF ?_)
          unfold canB at hc
          rw [if_neg h1, if_neg h3] at hc
          unfold figB at hc
          rw [Bool.and_eq_true, Bool.and_eq_true] at hc
          obtain ⟨nn, n0, n1, e⟩ := fig_of hyasc hc.1 (of_decide_eq_true hc.2.1)
          have h2l := of_decide_eq_true hc.2.1
          have ev : valOf y = nn := by unfold valOf; rw [e]; rfl
          have eb : bld ((y, k) :: r) = .n nn :: bld r := by rw [bld, if_neg h1, if_neg h2, if_neg h3, ev]
          exact ⟨_, rfl, _, _, rfl, e, by omega, pl, _, _, rfl, rfl, ep, sz5 us (Nat.le_refl _), fin _ _ _ us _ eb (Keep.refl _ _) ep (by rw [VAt]) hus⟩
  · rintro σ H3 ⟨v3, v4, us, rfl, hus, ep, k3⟩
    rw [lzs, Nat.sub_self, List.drop_zero, hbld, VAtL] at hus
    obtain ⟨v, vr, rfl, hv, hr⟩ := hus
    rw [VAtL] at hr
    subst hr
    refine ⟨_, rfl, pl, _, 0, _, rfl, rfl, SqL.of ep, at0, q _ H3 (fun b o e => k3 _ _ (s2 _ _ (s1 _ _ e)) ?_) hv⟩
    simp only [List.mem_singleton]
    exact ne_of_none e hpl
end
end MS
end
section
set_option maxRecDepth 100000
set_option maxHeartbeats 4000000
namespace MS
open PySem L2
/-! ### the law's own look at a number -/
abbrev s_L_number : Stmt := topS 49
theorem sc_L_number : FnScope ["_law_word"] ["_law_word"] (defScope s_L_number) := ⟨rfl, rfl, rfl, by decide +kernel, rfl, by decide +kernel, by decide +kernel⟩
theorem st1 : ∀ a, a < 128 → decide (Txt.stripChars ⟨#[a]⟩ "0123456789" = "") = Txt.isdecimal ⟨#[a]⟩ := by decide +kernel
theorem st2 : ∀ a, a < 128 → ∀ b, b < 128 → decide (Txt.stripChars ⟨#[a, b]⟩ "0123456789" = "") = Txt.isdecimal ⟨#[a, b]⟩ := by decide +kernel
theorem strip_dec {x : Str} (h : asc x) (h1 : 1 ≤ x.length) (h2 : x.length ≤ 2) : decide (Txt.stripChars x "0123456789" = "") = Txt.isdecimal x := by
  obtain ⟨⟨l⟩⟩ := x
  match l, h1, h2 with
  | [], h1, _ => exact absurd h1 (by decide)
  | [a], _, _ => exact st1 a (h a (by simp))
  | [a, b], _, _ => exact st2 a (h a (by simp)) b (h b (by simp))
  | _ :: _ :: _ :: _, _, hl => exact absurd hl (by show ¬ (_ + 1 + 1 + 1 ≤ 2); omega)
end MS
end
section
set_option maxRecDepth 100000
set_option maxHeartbeats 4000000
namespace MS
open PySem L2
def numV (x : Str) : V := if figB x = true then .int (valOf x) else .non
def spNum : Sp := fun vs H Q _ => ∃ x : Str, vs = [.str x] ∧ asc x ∧ x.length ≤ 1000 ∧ Q (numV x) H
section
variable {P : Program} {w : World} {K : PySem.W.Frag} {mg : Str → Option Value} {base : Heap}
theorem ok_L_number (T : PTx w K mg) (D : Def K mg "_law_number" s_L_number ["_law_word"]) : FnOk P w K mg base CX0 1 D.f D.fd ["_law_word"] spNum := by
  refine D.ok sc_L_number (fun vs H Q E h => ?_) (fun cdv A outer s H vs Q E hr h => ?_)
  · obtain ⟨x, rfl, _⟩ := h
    rfl
  obtain ⟨x, rfl, ha, hl, q⟩ := h
  refine ⟨_, pss_one (ps_ret (pe_ifExp (PW.pt (pw_and (pt_chain op_le op_le pe_int (pe_callB call_len_str rfl (T.free "len" (by decide +kernel)) PySem.boot_len (pa_cons (pv 0) pa_nil)) pe_int)
      (pw_and (pt_cmpR op_eq (pe_m1 PySem.F.slot_str_strip PySem.F.type_str_strip mt_stripChars (pv 0) pe_str) pe_str (nomark _))
      (pw_and1 (pt_cmpR op_eq (pe_callTy call_str_int rfl (T.free "str" (by decide +kernel)) (by decide +kernel) (pa_cons (pe_callTy call_int_str rfl (T.free "int" (by decide +kernel)) (by decide +kernel) (pa_cons (pv 0) pa_nil)) pa_nil)) (pv 0) (nomark _))))))
    (pe_callTy call_int_str rfl (T.free "int" (by decide +kernel)) (by decide +kernel) (pa_cons (pv 0) pa_nil)) pe_non)), ?_⟩
  have no : figB x = false → Q .non H := fun e => by
    unfold numV at q
    rw [e] at q
    exact q
  refine ⟨_, rfl, x, rfl, szN hl, _, _, rfl, rfl, _, rfl, ?_⟩
  by_cases h1 : 1 ≤ x.length
  · rw [decide_eq_true (show (1 : Int) ≤ ((x.length : Nat) : Int) by omega)]
    refine iteT ⟨_, _, rfl, rfl, _, rfl, ?_⟩
    by_cases h2 : x.length ≤ 2
    · rw [decide_eq_true (show ((x.length : Nat) : Int) ≤ 2 by omega)]
      refine iteT ⟨_, rfl, ⟨_, rfl⟩, _, "0123456789", rfl, rfl, szN hl, rfl, _, rfl, ?_⟩
      have e1 : decide (V.str (Txt.stripChars x "0123456789") = V.str "") = Txt.isdecimal x := by
        rw [← strip_dec ha h1 h2]
        by_cases z : Txt.stripChars x "0123456789" = ""
        · rw [decide_eq_true z, decide_eq_true (congrArg V.str z)]
        · rw [decide_eq_false z]
          exact decide_eq_false fun y => z (V.str.inj y)
      rw [e1]
      cases hd : Txt.isdecimal x with
      | false => exact iteF (no (by unfold figB; rw [hd]; rfl))
      | true =>
        obtain ⟨n, n0, n1, e⟩ := fig_of ha hd h2
        have ev : valOf x = n := by unfold valOf; rw [e]; rfl
        have ef : figB x = decide (tx n = x) := by
          unfold figB
          rw [hd, decide_eq_true h2, ev]
          rfl
        have e2 : decide (V.str (toString n) = V.str x) = figB x := by
          rw [ef]
          by_cases z : tx n = x
          · rw [decide_eq_true z, decide_eq_true (show V.str (toString n) = V.str x from congrArg V.str z)]
          · rw [decide_eq_false z]
            exact decide_eq_false fun y => z (V.str.inj y)
        refine iteT ⟨_, rfl, _, n, rfl, e, by omega, n, rfl, small100 n0 n1, _, rfl, rfl, _, rfl, ?_⟩
        rw [e2]
        cases hf : figB x with
        | false => exact iteF (no hf)
        | true =>
          unfold numV at q
          rw [hf, ev] at q
          exact iteT ⟨_, rfl, _, n, rfl, e, by omega, q⟩
    · rw [decide_eq_false (show ¬ ((x.length : Nat) : Int) ≤ 2 by omega)]
      exact iteF (no (by unfold figB; rw [decide_eq_false h2, Bool.false_and, Bool.and_false]))
  · rw [decide_eq_false (show ¬ (1 : Int) ≤ ((x.length : Nat) : Int) by omega)]
    refine iteF ⟨_, rfl, iteF (no ?_)⟩
    have e0 : x = "" := by
      obtain ⟨⟨l⟩⟩ := x
      match l, h1 with
      | [], _ => rfl
      | _ :: _, h1 => exact absurd (by show 1 ≤ _ + 1; omega) h1
    rw [e0]
    decide +kernel
end
end MS
end
section
set_option maxRecDepth 100000
set_option maxHeartbeats 4000000
namespace MS
open PySem L2
/-! ### the stack machine, stopped when its stack is empty: what the law's own reader does -/
def kp : List Str → List Str → Nat → Nat ⊕ (List Str × List Str × Nat)
  | r, [], n => .inr ([], r, n)
  | [], _ :: _, n => .inl n
  | x :: r, k :: S, n => if canB x k = true then (match kp r (comL x k ++ S) (n + 1) with
    | .inl m => .inl m
    | .inr (ks, r', n') => .inr (k :: ks, r', n')) else .inl n
theorem kp_nil (r : List Str) (n : Nat) : kp r [] n = .inr ([], r, n) := by
  cases r <;> rfl
theorem kp_cons (x k : Str) (r S : List Str) (n : Nat) : kp (x :: r) (k :: S) n = if canB x k = true then (match kp r (comL x k ++ S) (n + 1) with
    | .inl m => .inl m
    | .inr (ks, r', n') => .inr (k :: ks, r', n')) else .inl n := by rw [kp]
/-- a stack in two parts -/
theorem kp_app : ∀ (r S1 S2 : List Str) (n : Nat), kp r (S1 ++ S2) n = (match kp r S1 n with
    | .inl m => .inl m
    | .inr (ks, r', n') => (match kp r' S2 n' with
      | .inl m => .inl m
      | .inr (ks2, r2, n2) => .inr (ks ++ ks2, r2, n2)))
  | r, [], S2, n => by
    rw [List.nil_append, kp_nil]
    dsimp only
    cases kp r S2 n with
    | inl m => rfl
    | inr p => rfl
  | [], k :: S1, S2, n => rfl
  | x :: r, k :: S1, S2, n => by
    rw [List.cons_append, kp_cons, kp_cons]
    by_cases hc : canB x k = true
    · rw [if_pos hc, if_pos hc, ← List.append_assoc, kp_app r (comL x k ++ S1) S2 (n + 1)]
      cases kp r (comL x k ++ S1) (n + 1) with
      | inl m => rfl
      | inr p =>
        obtain ⟨ks, r', n'⟩ := p
        dsimp only
        cases kp r' S2 n' with
        | inl m => rfl
        | inr p2 => rfl
    · rw [if_neg hc, if_neg hc]
/-- kinds_in's machine by this one -/
theorem km_kp : ∀ (r S : List Str) (n : Nat), km r S n = (match kp r S n with
    | .inl m => .inl m
    | .inr (ks, [], _) => .inr ks
    | .inr (_, _ :: _, n') => .inl n')
  | [], [], n => rfl
  | [], _ :: _, n => rfl
  | _ :: _, [], n => rfl
  | x :: r, k :: S, n => by
    unfold km kp
    by_cases hc : canB x k = true
    · rw [if_pos hc, if_pos hc, km_kp r (comL x k ++ S) (n + 1)]
      cases kp r (comL x k ++ S) (n + 1) with
      | inl m => rfl
      | inr p =>
        obtain ⟨ks, r', n'⟩ := p
        cases r' <;> rfl
    · rw [if_neg hc, if_neg hc]
/-- what is left, and where -/
theorem kp_left : ∀ {r S : List Str} {n : Nat} {ks r' : List Str} {n' : Nat}, kp r S n = .inr (ks, r', n') → r' = r.drop ks.length ∧ n' = n + ks.length ∧ ks.length ≤ r.length
  | r, [], n, ks, r', n', h => by
    rw [kp_nil] at h
    injection h with h
    injection h with h1 h2
    injection h2 with h2 h3
    subst h1 h2 h3
    exact ⟨rfl, rfl, Nat.zero_le _⟩
  | [], _ :: _, n, ks, r', n', h => nomatch h
  | x :: r, k :: S, n, ks, r', n', h => by
    unfold kp at h
    by_cases hc : canB x k = true
    · rw [if_pos hc] at h
      cases e : kp r (comL x k ++ S) (n + 1) with
      | inl m => rw [e] at h; cases h
      | inr p =>
        obtain ⟨ks0, r0, n0⟩ := p
        rw [e] at h
        injection h with h
        injection h with h1 h2
        injection h2 with h2 h3
        subst h1 h2 h3
        obtain ⟨g1, g2, g3⟩ := kp_left e
        refine ⟨?_, ?_, ?_⟩
        · rw [List.length_cons, List.drop_succ_cons]; exact g1
        · rw [List.length_cons]; omega
        · rw [List.length_cons, List.length_cons]; omega
    · rw [if_neg hc] at h
      cases h
/-- where it fails, that is no more than where the words end -/
theorem kp_bad : ∀ {r S : List Str} {n m : Nat}, kp r S n = .inl m → n ≤ m ∧ m ≤ n + r.length
  | r, [], n, m, h => by rw [kp_nil] at h; cases h
  | [], _ :: _, n, m, h => by
    injection h with h
    subst h
    exact ⟨Nat.le_refl _, Nat.le_refl _⟩
  | x :: r, k :: S, n, m, h => by
    unfold kp at h
    by_cases hc : canB x k = true
    · rw [if_pos hc] at h
      cases e : kp r (comL x k ++ S) (n + 1) with
      | inl m' =>
        rw [e] at h
        injection h with h
        subst h
        obtain ⟨g1, g2⟩ := kp_bad e
        rw [List.length_cons]
        exact ⟨by omega, by omega⟩
      | inr p =>
        obtain ⟨ks0, r0, n0⟩ := p
        rw [e] at h
        cases h
    · rw [if_neg hc] at h
      injection h with h
      subst h
      exact ⟨Nat.le_refl _, Nat.le_add_right _ _⟩
/-- built over a bottom -/
def bldF : List (Str × Str) → List TV → List TV
  | [], B => B
  | (x, k) :: r, B => if k = "scheme" then .t (.s x :: (bldF r B).take ((shapeOf x).getD []).length) :: (bldF r B).drop ((shapeOf x).getD []).length
    else if k = "schemes" then .t ((bldF r B).take (valOf x).toNat) :: (bldF r B).drop (valOf x).toNat
    else if k = "word" then .s x :: bldF r B else .n (valOf x) :: bldF r B
theorem bldF_nil : ∀ r : List (Str × Str), bldF r [] = bld r
  | [] => rfl
  | (x, k) :: r => by
    unfold bldF bld
    rw [bldF_nil r]
theorem bldF_app : ∀ (r1 r2 : List (Str × Str)) (B : List TV), bldF (r1 ++ r2) B = bldF r1 (bldF r2 B)
  | [], _, _ => rfl
  | (x, k) :: r1, r2, B => by
    rw [List.cons_append]
    unfold bldF
    rw [bldF_app r1 r2 B]
/-- what a stack's words build is as much as was due, whatever stands below -/
theorem kp_bld : ∀ {r S : List Str} {n : Nat} {ks r' : List Str} {n' : Nat}, kp r S n = .inr (ks, r', n') → ∃ T : List TV, T.length = S.length ∧ ∀ B : List TV, bldF (r.zip ks) B = T ++ B
  | r, [], n, ks, r', n', h => by
    rw [kp_nil] at h
    injection h with h
    injection h with h1 h2
    subst h1
    exact ⟨[], rfl, fun B => by rw [List.zip_nil_right]; rfl⟩
  | [], _ :: _, n, ks, r', n', h => nomatch h
  | x :: r, k :: S, n, ks, r', n', h => by
    unfold kp at h
    by_cases hc : canB x k = true
    · rw [if_pos hc] at h
      cases e : kp r (comL x k ++ S) (n + 1) with
      | inl m => rw [e] at h; cases h
      | inr p =>
        obtain ⟨ks0, r0, n0⟩ := p
        rw [e] at h
        injection h with h
        injection h with h1 h2
        subst h1
        obtain ⟨T, hT, hB⟩ := kp_bld e
        rw [List.length_append, com_len2] at hT
        have key : ∀ (m : Nat) (B : List TV), m ≤ T.length → (T ++ B).take m = T.take m ∧ (T ++ B).drop m = T.drop m ++ B := fun m B hm => ⟨List.take_append_of_le_length hm, List.drop_append_of_le_length hm⟩
        by_cases h3 : k = "scheme"
        · rw [if_pos h3] at hT
          refine ⟨.t (.s x :: T.take ((shapeOf x).getD []).length) :: T.drop ((shapeOf x).getD []).length, by rw [List.length_cons, List.length_drop, List.length_cons]; omega, fun B => ?_⟩
          obtain ⟨k1, k2⟩ := key ((shapeOf x).getD []).length B (by omega)
          rw [List.zip_cons_cons, bldF, if_pos h3, hB B, k1, k2]
          rfl
        · rw [if_neg h3] at hT
          by_cases h4 : k = "schemes"
          · rw [if_pos h4] at hT
            refine ⟨.t (T.take (valOf x).toNat) :: T.drop (valOf x).toNat, by rw [List.length_cons, List.length_drop, List.length_cons]; omega, fun B => ?_⟩
            obtain ⟨k1, k2⟩ := key (valOf x).toNat B (by omega)
            rw [List.zip_cons_cons, bldF, if_neg h3, if_pos h4, hB B, k1, k2]
            rfl
          · rw [if_neg h4] at hT
            by_cases h5 : k = "word"
            · refine ⟨.s x :: T, by rw [List.length_cons, List.length_cons]; omega, fun B => ?_⟩
              rw [List.zip_cons_cons, bldF, if_neg h3, if_neg h4, if_pos h5, hB B]
              rfl
            · refine ⟨.n (valOf x) :: T, by rw [List.length_cons, List.length_cons]; omega, fun B => ?_⟩
              rw [List.zip_cons_cons, bldF, if_neg h3, if_neg h4, if_neg h5, hB B]
              rfl
    · rw [if_neg hc] at h
      cases h
end MS
end
section
set_option maxRecDepth 100000
set_option maxHeartbeats 4000000
namespace MS
open PySem L2
/-! ### the law's own reader of a scheme -/
abbrev s_L_grown : Stmt := topS 50
abbrev nmGr : List Str := ["_law_words", "_law_at", "_law_shapes", "_law_found", "_law_next_at", "_law_sort", "_law_kids", "_law_word", "_law_good", "_law_k"]
theorem sc_L_grown : FnScope nmGr ["_law_words", "_law_at"] (defScope s_L_grown) := ⟨rfl, rfl, rfl, by decide +kernel, rfl, by decide +kernel, by decide +kernel⟩
/-- the law's own shapes, by letters -/
def sortsL : List (Str × Str) := [("step", "wn"), ("all", "m"), ("best", "m"), ("most", "ns"), ("half", "s"), ("seen", "ws"), ("behind", "ws"), ("carry", "s"), ("end", "wns"), ("use", "n")]
def sortsK : List (Key × V) := sortsL.map fun p => (.inr p.1, .str p.2)
def letterOf (k : Str) : Nat := if k = "word" then 119 else if k = "scheme" then 115 else if k = "schemes" then 109 else 110
theorem sorts_merge : mergeK (mergeK [] ((sortsL.take 7).map fun p => ((.inr p.1 : Key), V.str p.2))) (mergeK [] ((sortsL.drop 7).map fun p => ((.inr p.1 : Key), V.str p.2))) = sortsK := by rfl
theorem sorts_at {x : Str} {l : List Str} (h : shapeOf x = some l) : ∃ z : Str, (x, z) ∈ sortsL ∧ z.cps.toList = l.map letterOf := by
  have key : ∀ p ∈ shapesL, ∃ q ∈ sortsL, q.1 = p.1 ∧ q.2.cps.toList = p.2.map letterOf := by decide +kernel
  obtain ⟨q, hq, e1, e2⟩ := key _ (shape_mem h)
  have e1 : q.1 = x := e1
  exact ⟨q.2, by rw [← e1]; exact hq, e2⟩
theorem sorts_get {x z : Str} (h : (x, z) ∈ sortsL) : valV sortsK (.inr x) = some (.str z) := by
  simp only [sortsL, List.mem_cons, List.not_mem_nil, or_false, Prod.mk.injEq] at h
  rcases h with ⟨rfl, rfl⟩ | ⟨rfl, rfl⟩ | ⟨rfl, rfl⟩ | ⟨rfl, rfl⟩ | ⟨rfl, rfl⟩ | ⟨rfl, rfl⟩ | ⟨rfl, rfl⟩ | ⟨rfl, rfl⟩ | ⟨rfl, rfl⟩ | ⟨rfl, rfl⟩ <;> rfl
theorem sorts_none {x : Str} (h : shapeOf x = none) : valV sortsK (.inr x) = none := by
  have hn := shape_none h
  have e : shapesL.map (·.1) = sortsL.map (·.1) := by decide +kernel
  rw [e] at hn
  have key : ∀ (l : List (Str × Str)), x ∉ l.map (·.1) → valV (l.map fun p => ((.inr p.1 : Key), V.str p.2)) (.inr x) = none := by
    intro l
    induction l with
    | nil => exact fun _ => valV_nil
    | cons p r ih =>
      intro hm
      rw [List.map_cons, List.mem_cons, not_or] at hm
      rw [List.map_cons, valV_neg (fun e => hm.1 (Sum.inr.inj e).symm)]
      exact ih hm.2
  exact key sortsL hn
/-- one kind ahead of others -/
theorem kp_one (r : List Str) (k : Str) (S : List Str) (n : Nat) : kp r (k :: S) n = (match kp r [k] n with
    | .inl m => .inl m
    | .inr (ks, r', n') => (match kp r' S n' with
      | .inl m => .inl m
      | .inr (ks2, r2, n2) => .inr (ks ++ ks2, r2, n2))) := kp_app r [k] S n
/-- words from a to b are what is due by S, and build T -/
def KP (ws : List Str) (a : Nat) (S : List Str) (b : Nat) (T : List TV) : Prop := a ≤ b ∧ b ≤ ws.length ∧ T.length = S.length ∧ ∃ ks : List Str, kp (ws.drop a) S a = .inr (ks, ws.drop b, b) ∧ ks.length = b - a ∧ ∀ B : List TV, bldF ((ws.drop a).zip ks) B = T ++ B
theorem KP.nil {ws : List Str} {a : Nat} (h : a ≤ ws.length) : KP ws a [] a [] := ⟨Nat.le_refl _, h, rfl, [], by rw [kp_nil], by rw [Nat.sub_self]; rfl, fun B => by rw [List.zip_nil_right]; rfl⟩
theorem KP.app {ws : List Str} {a b c : Nat} {S S' : List Str} {T T' : List TV} (h : KP ws a S b T) (h' : KP ws b S' c T') : KP ws a (S ++ S') c (T ++ T') := by
  obtain ⟨h1, h2, h3, ks, h4, h5, h6⟩ := h
  obtain ⟨g1, g2, g3, ks', g4, g5, g6⟩ := h'
  refine ⟨by omega, g2, by rw [List.length_append, List.length_append, h3, g3], ks ++ ks', ?_, by rw [List.length_append]; omega, fun B => ?_⟩
  · rw [kp_app, h4]
    dsimp only
    rw [g4]
  · have e : ws.drop a = (ws.drop a).take ks.length ++ ws.drop b := by
      have z := List.take_append_drop ks.length (ws.drop a)
      rw [List.drop_drop, h5, show a + (b - a) = b by omega] at z
      rw [h5]
      exact z.symm
    have el : ((ws.drop a).take ks.length).length = ks.length := by rw [List.length_take, List.length_drop]; omega
    have z1 : (ws.drop a).zip (ks ++ ks') = ((ws.drop a).take ks.length).zip ks ++ (ws.drop b).zip ks' := by
      rw [e, List.zip_append el]
      congr 2
      rw [← e]
    have z2 : ((ws.drop a).take ks.length).zip ks = (ws.drop a).zip ks := by
      have z3 : (ws.drop a).zip (ks ++ []) = ((ws.drop a).take ks.length).zip ks ++ (ws.drop b).zip [] := by
        rw [e, List.zip_append el]
        congr 2
        rw [← e]
      rw [List.append_nil, List.zip_nil_right, List.append_nil] at z3
      exact z3.symm
    rw [z1, bldF_app, g6, z2, h6, List.append_assoc]
theorem KP.bad {ws : List Str} {a b e : Nat} {S S' : List Str} {T : List TV} (h : KP ws a S b T) (h' : kp (ws.drop b) S' b = .inl e) : kp (ws.drop a) (S ++ S') a = .inl e := by
  obtain ⟨h1, h2, h3, ks, h4, h5, h6⟩ := h
  rw [kp_app, h4]
  dsimp only
  rw [h']
theorem kp_bad_app {r S S' : List Str} {n e : Nat} (h : kp r S n = .inl e) : kp r (S ++ S') n = .inl e := by
  rw [kp_app, h]
theorem KP.of {ws ks r' S : List Str} {a n' : Nat} {T : List TV} (ha : a ≤ ws.length) (h : kp (ws.drop a) S a = .inr (ks, r', n')) (hT : T.length = S.length) (hB : ∀ B : List TV, bldF ((ws.drop a).zip ks) B = T ++ B) : KP ws a S n' T := by
  obtain ⟨h1, h2, h3⟩ := kp_left h
  rw [List.length_drop] at h3
  rw [List.drop_drop, ← h2] at h1
  exact ⟨by omega, by omega, hT, ks, by rw [h, h1], by omega, hB⟩
theorem drop_at {ws : List Str} {b : Nat} {y : Str} (h : ws[b]? = some y) : ws.drop b = y :: ws.drop (b + 1) := by
  obtain ⟨hb, e⟩ := List.getElem?_eq_some_iff.mp h
  rw [List.drop_eq_getElem_cons hb, e]
theorem kp_no {ws : List Str} {b : Nat} {k : Str} (h : ∀ y, ws[b]? = some y → canB y k = false) : kp (ws.drop b) [k] b = .inl b := by
  cases e : ws[b]? with
  | none =>
    rw [List.drop_of_length_le (List.getElem?_eq_none_iff.mp e)]
    rfl
  | some y =>
    rw [drop_at e, kp_cons, if_neg (by rw [h y e]; exact fun z => nomatch z)]
/-- a word, or a number -/
theorem KP.leaf {ws : List Str} {b : Nat} {y k : Str} (h : ws[b]? = some y) (hc : canB y k = true) (h1 : k ≠ "scheme") (h2 : k ≠ "schemes") : KP ws b [k] (b + 1) [if k = "word" then .s y else .n (valOf y)] := by
  obtain ⟨hb, e⟩ := List.getElem?_eq_some_iff.mp h
  have ec : comL y k = [] := by unfold comL; rw [if_neg h1, if_neg h2]
  refine ⟨by omega, by omega, rfl, [k], ?_, by show 1 = _; omega, fun B => ?_⟩
  · rw [drop_at h, kp_cons, if_pos hc, ec, List.append_nil, kp_nil]
  · rw [drop_at h, List.zip_cons_cons, List.zip_nil_right, bldF, if_neg h1, if_neg h2]
    by_cases h3 : k = "word"
    · rw [if_pos h3, if_pos h3]; rfl
    · rw [if_neg h3, if_neg h3]; rfl
/-- so many schemes -/
theorem KP.many {ws : List Str} {b c : Nat} {y : Str} {T : List TV} (h : ws[b]? = some y) (hc : canB y "schemes" = true) (g : KP ws (b + 1) (List.replicate (valOf y).toNat ("scheme" : Str)) c T) : KP ws b ["schemes"] c [.t T] := by
  obtain ⟨g1, g2, g3, ks, g4, g5, g6⟩ := g
  have ec : comL y "schemes" = List.replicate (valOf y).toNat ("scheme" : Str) := by unfold comL; rw [if_neg (by decide +kernel), if_pos rfl]
  rw [List.length_replicate] at g3
  refine ⟨by omega, g2, rfl, "schemes" :: ks, ?_, by rw [List.length_cons]; omega, fun B => ?_⟩
  · rw [drop_at h, kp_cons, if_pos hc, ec, List.append_nil, g4]
  · rw [drop_at h, List.zip_cons_cons, bldF, if_neg (by decide +kernel), if_pos rfl, g6, ← g3, List.take_left, List.drop_left]
    rfl
theorem kp_many_bad {ws : List Str} {b e : Nat} {y : Str} (h : ws[b]? = some y) (hc : canB y "schemes" = true) (g : kp (ws.drop (b + 1)) (List.replicate (valOf y).toNat ("scheme" : Str)) (b + 1) = .inl e) : kp (ws.drop b) ["schemes"] b = .inl e := by
  have ec : comL y "schemes" = List.replicate (valOf y).toNat ("scheme" : Str) := by unfold comL; rw [if_neg (by decide +kernel), if_pos rfl]
  rw [drop_at h, kp_cons, if_pos hc, ec, List.append_nil, g]
/-- a scheme -/
theorem KP.one {ws l : List Str} {b c : Nat} {y : Str} {T : List TV} (h : ws[b]? = some y) (hs : shapeOf y = some l) (g : KP ws (b + 1) l c T) : KP ws b ["scheme"] c [.t (.s y :: T)] := by
  obtain ⟨g1, g2, g3, ks, g4, g5, g6⟩ := g
  have ec : comL y "scheme" = l := by unfold comL; rw [if_pos rfl, hs]; rfl
  have hc : canB y "scheme" = true := by unfold canB; rw [if_pos rfl, hs]; rfl
  refine ⟨by omega, g2, rfl, "scheme" :: ks, ?_, by rw [List.length_cons]; omega, fun B => ?_⟩
  · rw [drop_at h, kp_cons, if_pos hc, ec, List.append_nil, g4]
  · rw [drop_at h, List.zip_cons_cons, bldF, if_pos rfl, hs, g6]
    show (.t (.s y :: (T ++ B).take l.length) : TV) :: (T ++ B).drop l.length = _
    rw [← g3, List.take_left, List.drop_left]
    rfl
theorem kp_one_bad {ws l : List Str} {b e : Nat} {y : Str} (h : ws[b]? = some y) (hs : shapeOf y = some l) (g : kp (ws.drop (b + 1)) l (b + 1) = .inl e) : kp (ws.drop b) ["scheme"] b = .inl e := by
  have ec : comL y "scheme" = l := by unfold comL; rw [if_pos rfl, hs]; rfl
  have hc : canB y "scheme" = true := by unfold canB; rw [if_pos rfl, hs]; rfl
  rw [drop_at h, kp_cons, if_pos hc, ec, List.append_nil, g]
theorem let_s (k : Str) : ((⟨#[letterOf k]⟩ : Str) == "s") = decide (k = "scheme") := by
  unfold letterOf
  by_cases h1 : k = "word"
  · subst h1; decide +kernel
  · rw [if_neg h1]
    by_cases h2 : k = "scheme"
    · subst h2; decide +kernel
    · rw [if_neg h2, decide_eq_false h2]
      by_cases h3 : k = "schemes"
      · rw [if_pos h3]; decide +kernel
      · rw [if_neg h3]; decide +kernel
theorem let_m (k : Str) : ((⟨#[letterOf k]⟩ : Str) == "m") = decide (k = "schemes") := by
  unfold letterOf
  by_cases h1 : k = "word"
  · subst h1; decide +kernel
  · rw [if_neg h1]
    by_cases h2 : k = "scheme"
    · subst h2; decide +kernel
    · rw [if_neg h2]
      by_cases h3 : k = "schemes"
      · rw [if_pos h3, decide_eq_true h3]; decide +kernel
      · rw [if_neg h3, decide_eq_false h3]; decide +kernel
theorem let_w (k : Str) : ((⟨#[letterOf k]⟩ : Str) == "w") = decide (k = "word") := by
  unfold letterOf
  by_cases h1 : k = "word"
  · subst h1; decide +kernel
  · rw [if_neg h1, decide_eq_false h1]
    by_cases h2 : k = "scheme"
    · subst h2; decide +kernel
    · rw [if_neg h2]
      by_cases h3 : k = "schemes"
      · rw [if_pos h3]; decide +kernel
      · rw [if_neg h3]; decide +kernel
theorem VAt.some {H : Hp} : ∀ {x : TV} {v : V}, VAt H x v → v ≠ .non
  | .s x, v, h => by rw [VAt] at h; rw [h]; exact fun z => nomatch z
  | .n i, v, h => by rw [VAt] at h; rw [h]; exact fun z => nomatch z
  | .t l, v, h => by
    rw [VAt] at h
    obtain ⟨a, vs, e, _⟩ := h
    rw [e]
    exact fun z => nomatch z
theorem VAtL.app {H : Hp} : ∀ {l m : List TV} {v1 v2 : List V}, VAtL H l v1 → VAtL H m v2 → VAtL H (l ++ m) (v1 ++ v2)
  | [], m, v1, v2, h, g => by
    rw [VAtL] at h
    rw [h]
    exact g
  | x :: r, m, v1, v2, h, g => by
    rw [VAtL] at h
    obtain ⟨v, vr, rfl, h1, h2⟩ := h
    exact VAtL.cons h1 (h2.app g)
theorem repl_split {α : Type} {a : α} {j M : Nat} (h : j < M) : List.replicate M a = List.replicate j a ++ a :: List.replicate (M - (j + 1)) a := by
  have e : a :: List.replicate (M - (j + 1)) a = List.replicate (M - j) a := by
    rw [show M - j = (M - (j + 1)) + 1 by omega, List.replicate_succ]
  rw [e, List.replicate_append_replicate, show j + (M - j) = M by omega]
theorem ixN_at {n j : Nat} (hj : j < n) : ixN n (j : Int) = some j := by
  unfold ixN
  rw [if_pos (by omega), if_pos (by omega)]
  simp
/-- signs of words, each with a blank -/
def cw : List Str → Nat
  | [] => 0
  | x :: r => x.length + 1 + cw r
theorem cw_drop : ∀ (l : List Str) (k : Nat), cw (l.drop k) ≤ cw l
  | [], k => by rw [List.drop_nil]; exact Nat.le_refl _
  | x :: r, 0 => Nat.le_refl _
  | x :: r, k + 1 => by
    rw [List.drop_succ_cons]
    have := cw_drop r k
    show _ ≤ x.length + 1 + cw r
    omega
theorem cw_le {l : List Str} {a b : Nat} (h : a ≤ b) : cw (l.drop b) ≤ cw (l.drop a) := by
  have e : l.drop b = (l.drop a).drop (b - a) := by rw [List.drop_drop, show a + (b - a) = b by omega]
  rw [e]
  exact cw_drop _ _
theorem shape_len {x : Str} {l : List Str} (h : shapeOf x = some l) : 3 ≤ x.length := by
  have key : ∀ p ∈ shapesL, 3 ≤ p.1.length := by decide +kernel
  exact key _ (shape_mem h)
end MS
end
section
set_option maxRecDepth 100000
set_option maxHeartbeats 4000000
namespace MS
open PySem L2
/-- m: how many words are left at most -/
def spGrown (m : Nat) : Sp := fun vs H Q _ => ∃ (wl : Addr) (ws : List Str) (n : Nat), vs = [.ref wl, .int ((n : Nat) : Int)] ∧ H wl = some (.lst (ws.map V.str)) ∧ (∀ x ∈ ws, asc x ∧ x.length ≤ 1000) ∧ n ≤ ws.length ∧ ws.length ≤ 1799 ∧ cw (ws.drop n) < 5 * m ∧
  (∀ e : Nat, kp (ws.drop n) ["scheme"] n = .inl e → ∀ (t : Addr) (H' : Hp), Same H H' → H t = none → H' t = some (.tup [.non, .int ((e : Nat) : Int)]) → Q (.ref t) H') ∧
  ∀ (ks r' : List Str) (n' : Nat) (tv : TV), kp (ws.drop n) ["scheme"] n = .inr (ks, r', n') → (∀ B : List TV, bldF ((ws.drop n).zip ks) B = [tv] ++ B) → ∀ (t : Addr) (v : V) (H' : Hp), Same H H' → H t = none → H' t = some (.tup [v, .int ((n' : Nat) : Int)]) → VAt H' tv v → Q (.ref t) H'
section
variable {P : Program} {w : World} {K : PySem.W.Frag} {mg : Str → Option Value} {base : Heap}
theorem fig_val {y : Str} (ha : asc y) (h : figB y = true) : 0 ≤ valOf y ∧ valOf y ≤ 99 := by
  unfold figB at h
  rw [Bool.and_eq_true, Bool.and_eq_true] at h
  obtain ⟨n, n0, n1, e⟩ := fig_of ha h.1 (of_decide_eq_true h.2.1)
  have ev : valOf y = n := by unfold valOf; rw [e]; rfl
  rw [ev]
  exact ⟨n0, n1⟩
theorem none_asc : asc "none" := by unfold asc; decide +kernel
theorem kp_ge : ∀ {r S : List Str} {n : Nat} {ks r' : List Str} {n' : Nat}, kp r S n = .inr (ks, r', n') → S.length ≤ ks.length
  | r, [], n, ks, r', n', _ => Nat.zero_le _
  | [], _ :: _, n, ks, r', n', h => nomatch h
  | x :: r, k :: S, n, ks, r', n', h => by
    unfold kp at h
    by_cases hc : canB x k = true
    · rw [if_pos hc] at h
      cases e : kp r (comL x k ++ S) (n + 1) with
      | inl m => rw [e] at h; cases h
      | inr p =>
        obtain ⟨ks0, r0, n0⟩ := p
        rw [e] at h
        injection h with h
        injection h with h1 h2
        subst h1
        have := kp_ge e
        rw [List.length_append] at this
        rw [List.length_cons, List.length_cons]
        omega
    · rw [if_neg hc] at h
      cases h
theorem KP.ge {ws S : List Str} {a b : Nat} {T : List TV} (h : KP ws a S b T) : a + S.length ≤ b := by
  obtain ⟨h1, h2, h3, ks, h4, h5, h6⟩ := h
  have := kp_ge h4
  omega
theorem shape_len4 {x : Str} {l : List Str} (h : shapeOf x = some l) (h0 : l.head? = some "scheme") : 4 ≤ x.length := by
  have key : ∀ p ∈ shapesL, p.2.head? = some "scheme" → 4 ≤ p.1.length := by decide +kernel
  exact key _ (shape_mem h) h0
theorem cw_two {ws : List Str} {n b : Nat} {x : Str} (edr : ws.drop n = x :: ws.drop (n + 1)) (hx : 3 ≤ x.length) (hb : n + 2 ≤ b) (hl : b ≤ ws.length) : cw (ws.drop b) + 5 ≤ cw (ws.drop n) := by
  have h1 : cw (ws.drop b) ≤ cw (ws.drop (n + 2)) := cw_le hb
  have hn : n + 1 < ws.length := by omega
  have e2 : ws.drop (n + 1) = ws[n + 1]'hn :: ws.drop (n + 2) := List.drop_eq_getElem_cons hn
  rw [edr]
  show _ ≤ x.length + 1 + cw (ws.drop (n + 1))
  rw [e2]
  show _ ≤ x.length + 1 + ((ws[n + 1]'hn).length + 1 + cw (ws.drop (n + 2)))
  omega
theorem grown_turn {m : Nat} {sp' : Sp} (T : PTx w K mg) (D : Def K mg "_law_grown" s_L_grown ["_law_words", "_law_at"]) (DN : Def K mg "_law_number" s_L_number ["_law_word"]) (mmin : mg "min" = none)
    (G : FnOk P w K mg base CX0 (m + 1) D.f D.fd ["_law_words", "_law_at"] sp') (hs : ∀ m', m = m' + 1 → sp' = spGrown m') : FnOk P w K mg base CX0 (m + 2) D.f D.fd ["_law_words", "_law_at"] (spGrown m) := by
  have GN : FnOk P w K mg base CX0 1 DN.f DN.fd ["_law_word"] spNum := ok_L_number T DN
  have ml : mg "len" = none := T.free "len" (by decide +kernel)
  have mli : mg "list" = none := T.free "list" (by decide +kernel)
  have mi : mg "int" = none := T.free "int" (by decide +kernel)
  have mr : mg "range" = none := T.free "range" (by decide +kernel)
  have mt : mg "tuple" = none := T.free "tuple" (by decide +kernel)
  have nd := sc_L_grown.nd
  refine D.ok sc_L_grown (fun vs H Q E h => ?_) (fun cdv A outer s H vs Q E hr h => ?_)
  · obtain ⟨wl, ws, n, rfl, _⟩ := h
    rfl
  obtain ⟨wl, ws, n, rfl, ew, hws, hn, hl, hm, q1, q2⟩ := h
  have r1 : Room 1 _ := hr.mono (by omega)
  have hu : (A.deeper (PyProof.Rows.envOfC "_law_grown" (defScope s_L_grown) s.heap.objs.size D.f cdv)).units + 1 < cLine := by have := hr.un; omega
  refine ⟨_, pss_cons (ps_set (i := 2) nd rfl (Or.inl rfl) (pe_disp (pps_cons pe_str pe_str (pps_cons pe_str pe_str (pps_cons pe_str pe_str (pps_cons pe_str pe_str (pps_cons pe_str pe_str (pps_cons pe_str pe_str (pps_cons pe_str pe_str pps_nil))))))) rfl rfl (by simp) (by decide)))
    (pss_cons (ps_expr (pe_bm PySem.F.plainAttrs_dict PySem.F.slot_dict_update PySem.F.type_dict_update XUpd.mtd_update (pv 2) (pa_cons (pe_disp (pps_cons pe_str pe_str (pps_cons pe_str pe_str (pps_cons pe_str pe_str pps_nil))) rfl rfl (by simp) (by decide)) pa_nil)))
    (pss_cons (ps_if (PW.pt (pw_or (pt_cmpR op_ge (pv 1) (pe_callB call_len_seq rfl ml PySem.boot_len (pa_cons (pv 0) pa_nil)) (nomark _)) (pw_or1 (pt_cmp (pc_dnotin hu (pe_ix ix_list (pv 0) (pv 1) (fun _ _ => rfl)) (pv 2)))))) (pss_one (ps_ret (pe_tup (pa_cons pe_non (pa_cons (pe_callB (call_min2 rfl) rfl mmin (by decide +kernel) (pa_cons (pv 1) (pa_cons (pe_callB call_len_seq rfl ml PySem.boot_len (pa_cons (pv 0) pa_nil)) pa_nil))) pa_nil))))) pss_nil)
    (pss_cons (ps_par (i := 3) (j := 4) (by rfl) nd rfl rfl (by decide) rfl rfl (pa_cons (pe_lst (pa_cons (pe_ix ix_list (pv 0) (pv 1) (fun _ _ => rfl)) pa_nil)) (pa_cons (pe_op op_add (pv 1) pe_int) pa_nil)) (by rfl))
    (pss_cons (ps_for PassesOwn.never rfl (pi_str (pe_dget hu (pv 2) (pe_ix ix_list (pv 0) (pv 1) (fun _ _ => rfl)) (fun _ _ => rfl))) (pg_name (i := 5) nd rfl (Or.inl rfl))
      (pss_cons (ps_set (i := 6) nd rfl (Or.inl rfl) (pe_op op_rep (pe_lst (pa_cons pe_non pa_nil)) (pe_callTy call_int1 rfl mi (by decide +kernel) (pa_cons (pe_cmpR op_eq (pv 5) pe_str (nomark _)) pa_nil))))
      (pss_cons (ps_if (pt_cmpR op_ne (pv 5) pe_str (nomark _))
        (pss_cons (ps_set (i := 7) nd rfl (Or.inl rfl) (pe_ifExp (pt_cmpR op_lt (pv 4) (pe_callB call_len_seq rfl ml PySem.boot_len (pa_cons (pv 0) pa_nil)) (nomark _)) (pe_ix ix_list (pv 0) (pv 4) (fun _ _ => rfl)) pe_str))
        (pss_cons (ps_set (i := 8) nd rfl (Or.inl rfl) (pe_ifExp (pt_cmpR op_eq (pv 5) pe_str (nomark _)) (pe_cmpR op_in_seq (pv 7) (pe_callTy (cr_listStr rfl) rfl mli (by decide +kernel) (pa_cons pe_str pa_nil)) (by rfl)) (pe_cmpR op_notN (pcall DN GN r1 (pa_cons (pv 7) pa_nil)) pe_non (by rfl))))
        (pss_cons (ps_if (pt_not (pt_val (pv 8))) (pss_one (ps_ret (pe_tup (pa_cons pe_non (pa_cons (pe_callB (call_min2 rfl) rfl mmin (by decide +kernel) (pa_cons (pv 4) (pa_cons (pe_callB call_len_seq rfl ml PySem.boot_len (pa_cons (pv 0) pa_nil)) pa_nil))) pa_nil))))) pss_nil)
        (pss_cons (ps_set (i := 6) nd rfl (Or.inl rfl) (pe_op op_rep (pe_lst (pa_cons pe_non pa_nil)) (pe_ifExp (pt_cmpR op_eq (pv 5) pe_str (nomark _)) (pcall DN GN r1 (pa_cons (pe_ix ix_list (pv 0) (pv 4) (fun _ _ => rfl)) pa_nil)) pe_int)))
        (pss_cons (ps_if (pt_cmpR op_ne (pv 5) pe_str (nomark _)) (pss_one (ps_expr (pe_bm PySem.F.plainAttrs_list PySem.F.slot_list_append PySem.F.type_list_append mt_append (pv 3) (pa_cons (pe_ifExp (pt_cmpR op_eq (pv 5) pe_str (nomark _)) (pe_ix ix_list (pv 0) (pv 4) (fun _ _ => rfl)) (pcall DN GN r1 (pa_cons (pe_ix ix_list (pv 0) (pv 4) (fun _ _ => rfl)) pa_nil))) pa_nil)))) pss_nil)
        (pss_one (ps_set (i := 4) nd rfl (Or.inl rfl) (pe_op op_add (pv 4) pe_int)))))))) pss_nil)
      (pss_cons (ps_for PassesOwn.never rfl (pi_range1 rfl mr (pa_cons (pe_callB call_len_seq rfl ml PySem.boot_len (pa_cons (pv 6) pa_nil)) pa_nil)) (pg_name (i := 9) nd rfl (Or.inl rfl))
        (pss_cons (ps_asg (pcall D G hr (pa_cons (pv 0) (pa_cons (pv 4) pa_nil))) (pg_tup (by rfl) (pgs_cons (pg_sub (pv 6) (pv 9) set_list) (pgs_cons (pg_name (i := 4) nd rfl (Or.inl rfl)) pgs_nil))))
        (pss_one (ps_if (pt_cmpR op_isN (pe_ix ix_list (pv 6) (pv 9) (fun _ _ => rfl)) pe_non (nomark _)) (pss_one (ps_ret (pe_tup (pa_cons pe_non (pa_cons (pv 4) pa_nil))))) pss_nil))))
      (pss_one (ps_set (i := 3) nd rfl (Or.inl rfl) (pe_op op_cat (pv 3) (pe_ifExp (pt_cmpR op_eq (pv 5) pe_str (nomark _)) (pe_lst (pa_cons (pe_callTy call_tuple_of rfl mt (by decide +kernel) (pa_cons (pv 6) pa_nil)) pa_nil)) (pv 6)))))))))
    (pss_one (ps_ret (pe_tup (pa_cons (pe_callTy call_tuple_of rfl mt (by decide +kernel) (pa_cons (pv 3) pa_nil)) (pa_cons (pv 4) pa_nil))))))))), ?_⟩
  refine fun d1 hd1 => ⟨upd_same, (sortsL.take 7).map fun p => ((.inr p.1 : Key), V.str p.2), rfl, by decide, ?_⟩
  have s1 : Same H (upd (upd H d1 (.dK [])) d1 (.dK (mergeK [] ((sortsL.take 7).map fun p => ((.inr p.1 : Key), V.str p.2))))) := by rw [upd_upd]; exact Same.new hd1
  have e1 : upd (upd H d1 (.dK [])) d1 (.dK (mergeK [] ((sortsL.take 7).map fun p => ((.inr p.1 : Key), V.str p.2)))) d1 = some (.dK (mergeK [] ((sortsL.take 7).map fun p => ((.inr p.1 : Key), V.str p.2)))) := upd_same
  dsimp only [gName]
  generalize upd (upd H d1 (.dK [])) d1 (.dK (mergeK [] ((sortsL.take 7).map fun p => ((.inr p.1 : Key), V.str p.2)))) = H1 at s1 e1 ⊢
  refine ⟨_, rfl, ?_, fun d2 hd2 => ⟨upd_same, (sortsL.drop 7).map fun p => ((.inr p.1 : Key), V.str p.2), rfl, by decide, ?_⟩⟩
  · exact .inr (.inr (.inl ⟨rfl, .inl ⟨_, e1⟩⟩))
  have n12 : d1 ≠ d2 := ne_of_none e1 hd2
  refine ⟨d1, d2, _, _, rfl, rfl, n12, by rw [upd_ne n12, upd_ne n12]; exact e1, upd_same, by decide, by decide, ?_⟩
  rw [sorts_merge]
  have hd10 : H d1 = none := hd1
  have s3 : Same H (upd (upd (upd H1 d2 (.dK [])) d2 (.dK (mergeK [] ((sortsL.drop 7).map fun p => ((.inr p.1 : Key), V.str p.2))))) d1 (.dK sortsK)) := Same.newer (by rw [upd_upd]; exact s1.trans (Same.new hd2)) hd10
  have e3 : upd (upd (upd H1 d2 (.dK [])) d2 (.dK (mergeK [] ((sortsL.drop 7).map fun p => ((.inr p.1 : Key), V.str p.2))))) d1 (.dK sortsK) d1 = some (.dK sortsK) := upd_same
  dsimp only
  generalize upd (upd (upd H1 d2 (.dK [])) d2 (.dK (mergeK [] ((sortsL.drop 7).map fun p => ((.inr p.1 : Key), V.str p.2))))) d1 (.dK sortsK) = H3 at s3 e3 ⊢
  have lw : (ws.map V.str).length = ws.length := List.length_map _
  have ew3 := s3 _ _ ew
  have ge_ : ∀ {σ : St} {Hx : Hp} {b : Bool}, σ[0]? = some (some (.ref wl)) → σ[1]? = some (some (.int ((n : Nat) : Int))) → Same H Hx → b = decide (ws.length ≤ n) → ∀ Q : Bool → Hp → Prop, (∀ H', Same Hx H' → Q b H') → tTest (tOp (rI0 fun i j => V.bl (decide (j ≤ i))) (tVar 1) (tCB (fun xs H Q => ∃ p ys, xs = [.ref p] ∧ (SqL K H p ys ∨ SqT K H p ys) ∧ Q (.int ys.length) H) (tCons (tVar 0) tNil))) σ Hx Q := fun {σ Hx b} h0 h1 sx eb Q q =>
    ⟨_, h1, _, h0, wl, _, rfl, .inl (SqL.of (sx _ _ ew)), _, _, rfl, rfl, _, rfl, by
      have e : decide (((ws.map V.str).length : Int) ≤ ((n : Nat) : Int)) = decide (ws.length ≤ n) := by
        rw [lw]
        by_cases z : ws.length ≤ n
        · rw [decide_eq_true z, decide_eq_true (show ((ws.length : Nat) : Int) ≤ ((n : Nat) : Int) by omega)]
        · rw [decide_eq_false z, decide_eq_false (show ¬ ((ws.length : Nat) : Int) ≤ ((n : Nat) : Int) by omega)]
      rw [e, ← eb]
      exact q _ (Same.refl _)⟩
  -- told: none, and where
  have none_at : ∀ (i : Nat) (σ : St) (e : Nat) (Hx : Hp) (D' : Ends), σ[0]? = some (some (.ref wl)) → σ[i]? = some (some (.int ((e : Nat) : Int))) → e ≤ ws.length → Same H Hx → D'.rt = Q → kp (ws.drop n) ["scheme"] n = .inl e →
      tRet (tTup (tCons (tC .non) (tCons (tCB (fun xs H Q => ∃ i j, xs = [.int i, .int j] ∧ Q (.int (if j < i then j else i)) H) (tCons (tVar i) (tCons (tCB (fun xs H Q => ∃ p ys, xs = [.ref p] ∧ (SqL K H p ys ∨ SqT K H p ys) ∧ Q (.int ys.length) H) (tCons (tVar 0) tNil)) tNil))) tNil))) D' σ Hx := fun i σ e Hx D' h0 h1 he sx hD hk =>
    ⟨_, h1, _, h0, wl, _, rfl, .inl (SqL.of (sx _ _ ew)), _, _, rfl, sz2, fun t ht => by
      rw [hD, if_neg (by rw [lw]; omega)]
      exact q1 e hk t _ (sx.trans (Same.new ht)) (sx.free ht) (by rw [upd_same])⟩
  have word_here : ∀ {σ : St} {Hx : Hp} {Q : VK} {b : Nat}, σ[0]? = some (some (.ref wl)) → σ[4]? = some (some (.int ((b : Nat) : Int))) → Same H Hx → (∀ y, asc y → y.length ≤ 1000 → (b < ws.length → ws[b]? = some y) → (¬ b < ws.length → y = "none") → Q (.str y) Hx) →
      tIf (tTest (tOp (rI0 fun i j => V.bl (decide (i < j))) (tVar 4) (tCB (fun xs H Q => ∃ p ys, xs = [.ref p] ∧ (SqL K H p ys ∨ SqT K H p ys) ∧ Q (.int ys.length) H) (tCons (tVar 0) tNil)))) (tOp (rIxL K) (tVar 0) (tVar 4)) (tC (.str "none")) σ Hx Q := fun {σ Hx Q b} h0 h4 sx q => by
    refine ⟨_, h4, _, h0, wl, _, rfl, .inl (SqL.of (sx _ _ ew)), _, _, rfl, rfl, _, rfl, ?_⟩
    rw [lw]
    by_cases hb : b < ws.length
    · rw [decide_eq_true (show ((b : Nat) : Int) < ((ws.length : Nat) : Int) by omega)]
      obtain ⟨ha, hl'⟩ := hws _ (List.getElem_mem hb)
      exact iteT ⟨_, h0, _, h4, wl, _, _, _, rfl, rfl, SqL.of (sx _ _ ew), atI_nat (get_map V.str ws hb), q _ ha hl' (fun _ => List.getElem?_eq_getElem hb) fun z => absurd hb z⟩
    · rw [decide_eq_false (show ¬ ((b : Nat) : Int) < ((ws.length : Nat) : Int) by omega)]
      exact iteF (q "none" none_asc (by decide +kernel) (fun z => absurd z hb) fun _ => rfl)
  have good_here : ∀ {σ : St} {Hx : Hp} {Q : VK} {k y : Str}, σ[5]? = some (some (.str ⟨#[letterOf k]⟩)) → σ[7]? = some (some (.str y)) → k ≠ "scheme" → asc y → y.length ≤ 1000 → (∀ H', Same Hx H' → Q (.bl (canB y k)) H') →
      tIf (tTest (tOp rEq (tVar 5) (tC (.str "w")))) (tOp (rIn K false) (tVar 7) (tCB rListS (tCons (tC (.str "abcdefgh")) tNil))) (tOp (fun x y H Q => y = V.non ∧ Q (V.bl !decide (x = V.non)) H) (tCall spNum [] E0 (tCons (tVar 7) tNil)) (tC .non)) σ Hx Q := fun {σ Hx Q k y} h5 h7 hk ha hl' q => by
    unfold canB at q
    rw [if_neg hk] at q
    by_cases hw : k = "word"
    · rw [if_pos hw] at q
      refine is_word (b := true) h5 (by rw [let_w, decide_eq_true hw]) _ (iteT ⟨_, h7, _, rfl, by decide, fun p hp => ?_⟩)
      rw [letters_of]
      refine ⟨p, _, rfl, .inl (SqL.of upd_same), rfl, by decide +kernel, ?_⟩
      show Q (.bl (inV (.str y) (wordsL.map V.str))) _
      rw [inV_dec]
      exact q _ (Same.new hp)
    · rw [if_neg hw] at q
      refine is_word (b := false) h5 (by rw [let_w, decide_eq_false hw]) _ (iteF ⟨_, h7, y, rfl, ha, hl', rfl, ?_⟩)
      have e : (!decide (numV y = V.non)) = figB y := by
        unfold numV
        cases figB y <;> rfl
      rw [e]
      exact q _ (Same.refl _)
  by_cases hlt : n < ws.length
  case neg =>
    have en : n = ws.length := by omega
    refine seq_new (b := true || false) (ev_or_new (b := true) (c := false) (ge_ rfl rfl s3 (by rw [decide_eq_true]; omega)) (fun z => nomatch z)) (fun _ Hx sx => ?_) (fun z => nomatch z)
    exact none_at 1 _ n Hx _ rfl rfl hn (s3.trans sx) rfl (by rw [List.drop_of_length_le (by omega)]; rfl)
  case pos =>
    have edr : ws.drop n = ws[n]'hlt :: ws.drop (n + 1) := List.drop_eq_getElem_cons hlt
    obtain ⟨hxa, hxl⟩ := hws _ (List.getElem_mem hlt)
    have gx : (ws.map V.str)[n]? = some (V.str (ws[n]'hlt)) := get_map V.str ws hlt
    have gws : ws[n]? = some (ws[n]'hlt) := List.getElem?_eq_getElem hlt
    generalize ws[n]'hlt = x at edr hxa hxl gx gws
    cases es : shapeOf x with
    | none =>
      refine seq_new (b := false || true) (ev_or_new (b := false) (c := true) (ge_ rfl rfl s3 (by rw [decide_eq_false]; omega)) (fun _ Hx sx Q q => ⟨_, rfl, _, rfl, wl, _, _, _, rfl, rfl, SqL.of ((s3.trans sx) _ _ ew), atI_nat gx, _, rfl, d1, none, rfl, .inl ⟨_, .inr x, .inl (sx _ _ e3), rfl, (sorts_none es).symm⟩, _, rfl, q _ (Same.refl _)⟩)) (fun _ Hx sx => ?_) (fun z => nomatch z)
      refine none_at 1 _ n Hx _ rfl rfl hn (s3.trans sx) rfl ?_
      rw [edr, kp_cons, if_neg ?_]
      unfold canB
      rw [if_pos rfl, es]
      decide
    | some l =>
      obtain ⟨z, hz, hzl⟩ := sorts_at es
      refine seq_new (b := false || false) (ev_or_new (b := false) (c := false) (ge_ rfl rfl s3 (by rw [decide_eq_false]; omega)) (fun _ Hx sx Q q => ⟨_, rfl, _, rfl, wl, _, _, _, rfl, rfl, SqL.of ((s3.trans sx) _ _ ew), atI_nat gx, _, rfl, d1, some _, rfl, .inl ⟨_, .inr x, .inl (sx _ _ e3), rfl, (sorts_get hz).symm⟩, _, rfl, q _ (Same.refl _)⟩)) (fun z => nomatch z) (fun _ H4 s4 => ?_)
      have s34 := s3.trans s4
      have e4 := s4 _ _ e3
      refine ⟨_, rfl, _, rfl, wl, _, _, _, rfl, rfl, SqL.of (s34 _ _ ew), atI_nat gx, (by show 1 ≤ sizeLine; decide), fun fl0 hfl0 => ⟨_, rfl, _, _, rfl, rfl, _, _, rfl, ?_⟩⟩
      have s35 : Same H (upd H4 fl0 (.lst [.str x])) := s34.trans (Same.new hfl0)
      have e35 : upd H4 fl0 (.lst [.str x]) fl0 = some (.lst [.str x]) := upd_same
      have ed5 := (Same.new (o := .lst [.str x]) hfl0) _ _ e4
      have hfl0H : H fl0 = none := s34.free hfl0
      generalize upd H4 fl0 (.lst [.str x]) = H5 at s35 e35 ed5
      refine ⟨_, rfl, _, rfl, _, rfl, wl, _, _, _, rfl, rfl, SqL.of (s35 _ _ ew), atI_nat gx, d1, _, rfl, .inl ⟨_, .inr x, .inl ed5, rfl, (sorts_get hz).symm⟩, z, rfl, ?_⟩
      have hzn : z.cps.size = l.length := by rw [← Array.length_toList, hzl, List.length_map]
      refine for_it walk_str (fun i σ Hc => ∃ (fl : Addr) (vs : List V) (b : Nat) (TT : List TV) (v5 v6 v7 v8 v9 : Option V), σ = [some (.ref wl), some (.int ((n : Nat) : Int)), some (.ref d1), some (.ref fl), some (.int ((b : Nat) : Int)), v5, v6, v7, v8, v9] ∧ H fl = none ∧ Hc fl = some (.lst (.str x :: vs)) ∧ KP ws (n + 1) (l.take i) b TT ∧ VAtL Hc TT vs ∧ Same H Hc)
        ⟨fl0, [], n + 1, [], none, none, none, none, none, by rfl, hfl0H, e35, KP.nil (by omega), by rw [VAtL], s35⟩ (fun _ _ _ _ _ => trivial) ?_ ?_
      · rintro i xx σ H60 H6 hi ⟨fl, vs, b, TT, v5, v6, v7, v8, v9, rfl, hfl, efl, hkp, hvs, s6⟩ ⟨rfl, c, hc, rfl⟩
        have hil : i < l.length := by omega
        have ec : c = letterOf (l[i]'hil) := by
          have q : z.cps.toList[i]? = some c := by rw [Array.getElem?_toList]; exact hc
          rw [hzl, List.getElem?_map, List.getElem?_eq_getElem hil] at q
          exact (Option.some.inj q).symm
        subst ec
        have etk : l.take (i + 1) = l.take i ++ [l[i]'hil] := List.take_succ_eq_append_getElem hil
        have elr : l = l.take i ++ (l[i]'hil) :: l.drop (i + 1) := by rw [← List.drop_eq_getElem_cons hil, List.take_append_drop]
        rw [etk]
        generalize l[i]'hil = k at etk elr
        have bad : ∀ e, kp (ws.drop b) [k] b = .inl e → kp (ws.drop n) ["scheme"] n = .inl e := fun e he => kp_one_bad gws es (by rw [elr]; exact hkp.bad (S' := k :: l.drop (i + 1)) (kp_bad_app (S := [k]) he))
        have dS : decide (V.str ⟨#[letterOf k]⟩ = V.str "s") = decide (k = "scheme") := by rw [dec_str, let_s]
        have dM : decide (V.str ⟨#[letterOf k]⟩ = V.str "m") = decide (k = "schemes") := by rw [dec_str, let_m]
        have dW : decide (V.str ⟨#[letterOf k]⟩ = V.str "w") = decide (k = "word") := by rw [dec_str, let_w]
        have hTT : TT.length ≤ 3 := by
          have h3 : l.length ≤ 3 := by
            have key : ∀ p ∈ shapesL, p.2.length ≤ 3 := by decide +kernel
            exact key _ (shape_mem es)
          rw [hkp.2.2.1, List.length_take]
          omega
        dsimp only [gName]
        refine ⟨(by show 1 ≤ sizeLine; decide), fun p0 hp0 => ⟨_, rfl, rfl, .inr ⟨_, rfl, p0, _, _, rfl, rfl, upd_same, ?_⟩⟩⟩
        rw [dS]
        generalize ei : (if decide (k = "scheme") = true then (1 : Int) else 0) = ii
        have eii : ii = 0 ∨ ii = 1 := by rw [← ei]; split <;> simp
        refine ⟨by omega, by omega, by show 1 * _ ≤ _; rcases eii with e | e <;> rw [e] <;> decide, fun kl0 hkl0 => ?_⟩
        have s67 : Same H6 (upd (upd H6 p0 (.lst [.non])) kl0 (.lst (List.replicate ii.toNat [V.non]).flatten)) := (Same.new hp0).trans (Same.new hkl0)
        have e7 : upd (upd H6 p0 (.lst [.non])) kl0 (.lst (List.replicate ii.toNat [V.non]).flatten) kl0 = some (.lst (List.replicate ii.toNat V.non)) := by
          rw [upd_same]
          rcases eii with e | e <;> rw [e] <;> rfl
        have hkl6 : H6 kl0 = none := (Same.new (o := .lst [.non]) hp0).free hkl0
        generalize upd (upd H6 p0 (.lst [.non])) kl0 (.lst (List.replicate ii.toNat [V.non]).flatten) = H7 at s67 e7
        have efl7 := s67 _ _ efl
        have nkf0 : kl0 ≠ fl := fun e => by rw [e, efl] at hkl6; cases hkl6
        have s7 := s6.trans s67
        have hvs7 := hvs.keep (Same.tupK s67)
        dsimp only
        refine seq_if_to (b := !decide (k = "scheme")) (fun σ' H' => ∃ (M b0 : Nat) (add : List V) (A : List TV) (kl : Addr) (v7 v8 : Option V), σ' = [some (.ref wl), some (.int ((n : Nat) : Int)), some (.ref d1), some (.ref fl), some (.int ((b0 : Nat) : Int)), some (.str ⟨#[letterOf k]⟩), some (.ref kl), v7, v8, v9] ∧
            H' fl = some (.lst (.str x :: (vs ++ add))) ∧ H kl = none ∧ kl ≠ fl ∧ H' kl = some (.lst (List.replicate M V.non)) ∧ VAtL H' (TT ++ A) (vs ++ add) ∧ Same H H' ∧ M ≤ 99 ∧ (0 < M → cw (ws.drop b0) + 5 ≤ cw (ws.drop n)) ∧ b0 ≤ ws.length ∧ add.length ≤ 1 ∧
            (∀ e, kp (ws.drop b0) (List.replicate M ("scheme" : Str)) b0 = .inl e → kp (ws.drop n) ["scheme"] n = .inl e) ∧
            ∀ b' T', KP ws b0 (List.replicate M ("scheme" : Str)) b' T' → KP ws (n + 1) (l.take i ++ [k]) b' ((TT ++ A) ++ if k = "schemes" then [.t T'] else T'))
          (fun Q q => ⟨_, rfl, rfl, _, rfl, by rw [dS]; exact q⟩) ?_ ?_ ?_
        · rintro σ' H8 ⟨M, b0, add, A', kl, w7, w8, rfl, efl8, hklH, nkf, ekl, hva, s8, hM, hb0, hb1, hadd, hbad, hgood⟩
          refine ⟨_, rfl, kl, _, rfl, .inl (SqL.of ekl), _, rfl, by rw [List.length_replicate]; omega, by rw [List.length_replicate]; omega, ?_⟩
          rw [Int.toNat_natCast, List.length_replicate]
          refine for_range (lo := 0) (n := M) (fun j σ Hc => ∃ (b' : Nat) (T' : List TV) (us : List V) (u9 : Option V), σ = [some (.ref wl), some (.int ((n : Nat) : Int)), some (.ref d1), some (.ref fl), some (.int ((b' : Nat) : Int)), some (.str ⟨#[letterOf k]⟩), some (.ref kl), w7, w8, u9] ∧
              Hc kl = some (.lst (us ++ List.replicate (M - j) V.non)) ∧ Hc fl = some (.lst (.str x :: (vs ++ add))) ∧ KP ws b0 (List.replicate j ("scheme" : Str)) b' T' ∧ VAtL Hc T' us ∧ VAtL Hc (TT ++ A') (vs ++ add) ∧ Same H Hc)
            ⟨b0, [], [], v9, rfl, ekl, efl8, KP.nil hb1, by rw [VAtL], hva, s8⟩ ?_ ?_
          · rintro j σ H9 hj ⟨b', T', us, u9, rfl, ek9, ef9, hk9, hu9, hv9, s9⟩
            have hus : us.length = j := by rw [← hu9.len, hk9.2.2.1, List.length_replicate]
            have hb' := hk9.1
            have hxs := shape_len es
            have hcw : cw (ws.drop b') + 5 ≤ cw (ws.drop n) := by
              have z : cw (ws.drop b') ≤ cw (ws.drop b0) := cw_le hb'
              have z2 := hb0 (by omega)
              omega
            obtain ⟨m', em⟩ : ∃ m', m = m' + 1 := ⟨m - 1, by omega⟩
            rw [hs m' em]
            have el : (us ++ List.replicate (M - j) V.non).length = M := by rw [List.length_append, List.length_replicate, hus]; omega
            have eset : ∀ v : V, (us ++ List.replicate (M - j) V.non).set j v = (us ++ [v]) ++ List.replicate (M - (j + 1)) V.non := fun v => by
              rw [show M - j = (M - (j + 1)) + 1 by omega, List.replicate_succ, List.set_append_right _ _ (by omega), hus, Nat.sub_self, List.set_cons_zero, List.append_assoc]
              rfl
            have eat : ∀ v : V, atI ((us ++ [v]) ++ List.replicate (M - (j + 1)) V.non) (0 + ((j : Nat) : Int)) = some v := fun v => by
              rw [Int.zero_add]
              exact atI_nat (by rw [List.append_assoc, List.getElem?_append_right (by omega), hus, Nat.sub_self]; rfl)
            have eix : ixN (us ++ List.replicate (M - j) V.non).length (0 + ((j : Nat) : Int)) = some j := by rw [el, Int.zero_add]; exact ixN_at hj
            dsimp only [gName]
            refine ⟨_, rfl, _, rfl, wl, ws, b', rfl, s9 _ _ ew, hws, hk9.2.1, hl, by omega, fun e he t H' sx ht et => ?_, fun ks r' n' tv hk hB t v H' sx ht et hv => ?_⟩
            · refine ⟨t, _, rfl, SqT.of et, rfl, _, _, rfl, _, rfl, _, rfl, kl, _, _, j, rfl, rfl, sx _ _ ek9, eix, _, _, rfl, rfl, ?_⟩
              rw [eset]
              refine ⟨_, rfl, _, rfl, kl, _, _, .non, rfl, rfl, SqL.of upd_same, eat _, rfl, _, rfl, iteT ⟨_, rfl, sz2, fun t2 ht2 => ?_⟩⟩
              have s10 : Same H (upd H' kl (.lst ((us ++ [V.non]) ++ List.replicate (M - (j + 1)) V.non))) := Same.newer (Same.trans s9 sx) hklH
              exact q1 e (hbad e (by
                rw [repl_split hj]
                exact hk9.bad (kp_bad_app (S := ["scheme"]) he))) t2 _ (Same.trans s10 (Same.new ht2)) (s10.free ht2) upd_same
            · refine ⟨t, _, rfl, SqT.of et, rfl, _, _, rfl, _, rfl, _, rfl, kl, _, _, j, rfl, rfl, sx _ _ ek9, eix, _, _, rfl, rfl, ?_⟩
              rw [eset]
              have t10 : TupK H' (upd H' kl (.lst ((us ++ [v]) ++ List.replicate (M - (j + 1)) V.non))) := TupK.put (sx _ _ ek9)
              refine ⟨_, rfl, _, rfl, kl, _, _, v, rfl, rfl, SqL.of upd_same, eat _, rfl, _, rfl, ?_⟩
              rw [decide_eq_false hv.some]
              refine iteF ⟨n', T' ++ [tv], us ++ [v], _, rfl, upd_same, by rw [upd_ne nkf.symm]; exact sx _ _ ef9, ?_, VAtL.app ((hu9.keep (Same.tupK sx)).keep t10) (VAtL.cons (hv.keep t10) (by rw [VAtL])), (hv9.keep (Same.tupK sx)).keep t10, Same.newer (Same.trans s9 sx) hklH⟩
              have er : List.replicate (j + 1) ("scheme" : Str) = List.replicate j ("scheme" : Str) ++ [("scheme" : Str)] := by rw [List.replicate_succ']
              rw [er]
              exact hk9.app (KP.of hk9.2.1 hk rfl hB)
          · rintro σ H9 ⟨b', T', us, u9, rfl, ek9, ef9, hk9, hu9, hv9, s9⟩
            rw [Nat.sub_self, List.replicate_zero, List.append_nil] at ek9
            have hvl := hvs.len
            have hul := hu9.len
            rw [hk9.2.2.1, List.length_replicate] at hul
            have hlen : (V.str x :: (vs ++ add)).length ≤ 100 := by
              rw [List.length_cons, List.length_append]
              omega
            have hg := hgood b' T' hk9
            by_cases hkm : k = "schemes"
            · rw [if_pos hkm] at hg
              refine ⟨_, rfl, is_word (b := true) rfl (by rw [let_m, decide_eq_true hkm]) _ (iteT ⟨_, rfl, kl, us, rfl, .inl ⟨SqL.of ek9, fun t ht => ⟨(by show 1 ≤ sizeLine; decide), fun p hp => ⟨fl, p, _, _, rfl, rfl, Same.trans (Same.new ht) (Same.new hp) _ _ ef9, upd_same, szM (by rw [List.length_singleton]; omega), fun f2 hf2 => ?_⟩⟩⟩⟩)⟩
              have sA : Same H9 (upd (upd (upd H9 t (.tup us)) p (.lst [.ref t])) f2 (.lst (V.str x :: (vs ++ add) ++ [V.ref t]))) := Same.trans (Same.trans (Same.new ht) (Same.new hp)) (Same.new hf2)
              have etA : upd (upd (upd H9 t (.tup us)) p (.lst [.ref t])) f2 (.lst (V.str x :: (vs ++ add) ++ [V.ref t])) t = some (.tup us) := Same.trans (Same.new hp) (Same.new hf2) _ _ upd_same
              have kA := Same.tupK sA
              refine ⟨f2, (vs ++ add) ++ [V.ref t], b', (TT ++ A') ++ [.t T'], _, _, _, _, _, rfl, (Same.trans s9 (Same.trans (Same.new ht) (Same.new hp))).free hf2, upd_same, hg, VAtL.app (hv9.keep kA) (VAtL.cons ?_ (by rw [VAtL])), Same.trans s9 sA⟩
              rw [VAt]
              exact ⟨t, us, rfl, etA, hu9.keep kA⟩
            · rw [if_neg hkm] at hg
              refine ⟨_, rfl, is_word (b := false) rfl (by rw [let_m, decide_eq_false hkm]) _ (iteF ⟨_, rfl, fl, kl, _, _, rfl, rfl, ef9, ek9, szM (by omega), fun f2 hf2 => ?_⟩)⟩
              exact ⟨f2, (vs ++ add) ++ us, b', (TT ++ A') ++ T', _, _, _, _, _, rfl, s9.free hf2, upd_same, hg, VAtL.app (hv9.keep (Same.tupK (Same.new hf2))) (hu9.keep (Same.tupK (Same.new hf2))), Same.trans s9 (Same.new hf2)⟩
        · intro hk rest
          have hks : k ≠ "scheme" := fun e => by
            rw [decide_eq_true e] at hk
            cases hk
          dsimp only
          refine word_here rfl rfl s7 fun y hya hyl hy1 hy2 => ?_
          dsimp only [gName]
          refine good_here rfl rfl hks hya hyl fun H8 s78 => ?_
          dsimp only [gName]
          have hyc : ∀ y', ws[b]? = some y' → y' = y := fun y' e => by
            have := hy1 (List.getElem?_eq_some_iff.mp e).1
            rw [e] at this
            exact Option.some.inj this
          have hbl := hkp.2.1
          refine seq_if (b := !canB y k) (fun Q q => ⟨_, rfl, _, rfl, q⟩) (fun e => ?_) (fun e => ?_)
          · have e : canB y k = false := by
              cases z : canB y k with
              | false => rfl
              | true => rw [z] at e; cases e
            exact none_at 4 _ b H8 _ rfl rfl hbl (Same.trans s7 s78) rfl (bad b (kp_no fun y' hy' => by rw [hyc y' hy']; exact e))
          · have e : canB y k = true := by
              cases z : canB y k with
              | true => rfl
              | false => rw [z] at e; cases e
            have hb : b < ws.length := Classical.byContradiction fun z => by
              rw [hy2 z] at e
              unfold canB at e
              rw [if_neg hks] at e
              by_cases hw : k = "word"
              · rw [if_pos hw] at e
                exact absurd e (by decide +kernel)
              · rw [if_neg hw] at e
                exact absurd e (by decide +kernel)
            have gy := hy1 hb
            have gyV : (ws.map V.str)[b]? = some (.str y) := by rw [List.getElem?_map, gy]; rfl
            have fnum : k ≠ "word" → numV y = .int (valOf y) ∧ 0 ≤ valOf y ∧ valOf y ≤ 99 := fun hw => by
              unfold canB at e
              rw [if_neg hks, if_neg hw] at e
              obtain ⟨h0, h1⟩ := fig_val hya e
              exact ⟨by unfold numV; rw [e, if_pos rfl], h0, h1⟩
            have s8 : Same H H8 := Same.trans s7 s78
            have efl8 := s78 _ _ efl7
            have hvs8 := hvs7.keep (Same.tupK s78)
            have elen : (V.str x :: vs).length ≤ 100 := by
              have := hvs.len
              rw [List.length_cons]
              omega
            by_cases hm' : k = "schemes"
            · obtain ⟨f1, f2, f3⟩ := fnum (by rw [hm']; decide +kernel)
              rw [hm'] at e
              refine ⟨(by show 1 ≤ sizeLine; decide), fun p1 hp1 => is_word (b := true) rfl (by rw [let_m, decide_eq_true hm']) _ (iteT ⟨_, rfl, _, rfl, wl, _, _, _, rfl, rfl, SqL.of (Same.trans s8 (Same.new hp1) _ _ ew), atI_nat gyV, y, rfl, hya, hyl, p1, _, _, rfl, f1, upd_same, by omega, by omega, szM (by show 1 * _ ≤ _; omega), fun kl hkl => ?_⟩)⟩
              rw [List.flatten_replicate_singleton]
              have sA : Same H8 (upd (upd H8 p1 (.lst [V.non])) kl (.lst (List.replicate (valOf y).toNat V.non))) := Same.trans (Same.new hp1) (Same.new hkl)
              have nkl : kl ≠ fl := fun z => by
                have := (Same.new (o := .lst [V.non]) hp1) _ _ efl8
                rw [z, this] at hkl
                cases hkl
              dsimp only
              refine seq_if (b := false) (fun Q q => ⟨_, rfl, rfl, _, rfl, by rw [dM, decide_eq_true hm']; exact q⟩) (fun z => nomatch z) (fun _ => ⟨_, rfl, _, _, rfl, rfl, ?_⟩)
              exact rest _ _ ⟨(valOf y).toNat, b + 1, [], [], kl, _, _, rfl, by rw [List.append_nil]; exact sA _ _ efl8, (Same.trans s8 (Same.new hp1)).free hkl, nkl, upd_same, by rw [List.append_nil, List.append_nil]; exact hvs8.keep (Same.tupK sA), Same.trans s8 sA, by omega, (fun _ => cw_two edr (shape_len es) (by have := hkp.1; omega) (by omega)), by omega, Nat.zero_le _,
                fun e' he' => bad e' (by rw [hm']; exact kp_many_bad gy e he'), fun b' T' hT' => by
                  rw [List.append_nil, if_pos hm']
                  refine hkp.app ?_
                  rw [hm']
                  exact KP.many gy e hT'⟩
            · refine ⟨(by show 1 ≤ sizeLine; decide), fun p1 hp1 => is_word (b := false) rfl (by rw [let_m, decide_eq_false hm']) _ (iteF ⟨p1, _, _, rfl, rfl, upd_same, by omega, by omega, by show 1 * 0 ≤ _; omega, fun kl hkl => ?_⟩)⟩
              have sA : Same H8 (upd (upd H8 p1 (.lst [V.non])) kl (.lst (List.replicate (Int.toNat 0) [V.non]).flatten)) := Same.trans (Same.new hp1) (Same.new hkl)
              have ekl : upd (upd H8 p1 (.lst [V.non])) kl (.lst (List.replicate (Int.toNat 0) [V.non]).flatten) kl = some (.lst (List.replicate 0 V.non)) := upd_same
              have nkl : kl ≠ fl := fun z => by
                have := (Same.new (o := .lst [V.non]) hp1) _ _ efl8
                rw [z, this] at hkl
                cases hkl
              have hklH : H kl = none := (Same.trans s8 (Same.new (o := .lst [V.non]) hp1)).free hkl
              dsimp only
              generalize upd (upd H8 p1 (.lst [V.non])) kl (.lst (List.replicate (Int.toNat 0) [V.non]).flatten) = H9 at sA ekl
              have s9 : Same H H9 := Same.trans s8 sA
              have efl9 := sA _ _ efl8
              have hvs9 := hvs8.keep (Same.tupK sA)
              have fin : ∀ (av : V) (at_ : TV), (at_ = if k = "word" then .s y else .n (valOf y)) → VAt (upd H9 fl (.lst ((V.str x :: vs) ++ [av]))) at_ av → ∀ σ', σ' = [some (.ref wl), some (.int ((n : Nat) : Int)), some (.ref d1), some (.ref fl), some (.int (((b : Nat) : Int) + 1)), some (.str ⟨#[letterOf k]⟩), some (.ref kl), some (.str y), some (.bl (canB y k)), v9] → _ := fun av at_ eat hav σ' eσ => rest σ' (upd H9 fl (.lst ((V.str x :: vs) ++ [av]))) ⟨0, b + 1, [av], [at_], kl, _, _, eσ, upd_same, hklH, nkl, by rw [upd_ne nkl]; exact ekl, VAtL.app (hvs9.keep (TupK.put efl9)) (VAtL.cons hav (by rw [VAtL])), Same.newer s9 hfl, by omega, by have := hkp.1; omega, by omega, Nat.le_refl _,
                fun e' he' => absurd he' (by rw [List.replicate_zero, kp_nil]; exact fun z => nomatch z), fun b' T' hT' => by
                  rw [if_neg hm']
                  refine (KP.app hkp (T' := [at_]) (S' := [k]) (c := b + 1) ?_).app hT' |> fun z => by
                    rw [List.replicate_zero, List.append_nil] at z
                    exact z
                  rw [eat]
                  exact KP.leaf gy e hks hm'⟩
              refine seq_if (b := true) (fun Q q => ⟨_, rfl, rfl, _, rfl, by rw [dM, decide_eq_false hm']; exact q⟩) (fun _ => ?_) (fun z => nomatch z)
              by_cases hw : k = "word"
              · refine ⟨_, rfl, .inl ⟨rfl, _, SqL.of efl9⟩, is_word (b := true) rfl (by rw [let_w, decide_eq_true hw]) _ (iteT ⟨_, rfl, _, rfl, wl, _, _, _, rfl, rfl, SqL.of (s9 _ _ ew), atI_nat gyV, fl, _, _, rfl, rfl, efl9, small4000 (by omega), _, rfl, _, _, rfl, rfl, ?_⟩)⟩
                exact fin _ (.s y) (by rw [if_pos hw]) (by rw [VAt]) _ rfl
              · obtain ⟨f1, f2, f3⟩ := fnum hw
                refine ⟨_, rfl, .inl ⟨rfl, _, SqL.of efl9⟩, is_word (b := false) rfl (by rw [let_w, decide_eq_false hw]) _ (iteF ⟨_, rfl, _, rfl, wl, _, _, _, rfl, rfl, SqL.of (s9 _ _ ew), atI_nat gyV, y, rfl, hya, hyl, fl, _, _, rfl, rfl, efl9, small4000 (by omega), _, rfl, _, _, rfl, rfl, ?_⟩)⟩
                rw [f1]
                exact fin _ (.n (valOf y)) (by rw [if_neg hw]) (by rw [VAt]) _ rfl
        · intro hk
          have hk : k = "scheme" := by
            by_cases z : k = "scheme"
            · exact z
            · rw [decide_eq_false z] at hk
              cases hk
          have ei1 : ii.toNat = 1 := by rw [← ei, decide_eq_true hk, if_pos rfl]; rfl
          rw [ei1] at e7
          subst hk
          have hone : cw (ws.drop b) + 5 ≤ cw (ws.drop n) := by
            have hge := hkp.ge
            rw [List.length_take, Nat.min_eq_left (Nat.le_of_lt hil)] at hge
            by_cases h0 : i = 0
            · subst h0
              have h4 := shape_len4 es (by rw [elr]; rfl)
              have z : cw (ws.drop b) ≤ cw (ws.drop (n + 1)) := cw_le (by omega)
              rw [edr]
              show _ ≤ x.length + 1 + cw (ws.drop (n + 1))
              omega
            · exact cw_two edr (shape_len es) (by omega) hkp.2.1
          exact ⟨1, b, [], [], kl0, v7, v8, rfl, by rw [List.append_nil]; exact efl7, s6.free hkl6, nkf0, e7, by rw [List.append_nil, List.append_nil]; exact hvs7, s7, by omega, (fun _ => hone), hkp.2.1, Nat.zero_le _, bad, fun b' T' h => by
            rw [List.append_nil, if_neg (by decide +kernel)]
            exact hkp.app h⟩
      · rintro σ H6 ⟨fl, vs, b, TT, v5, v6, v7, v8, v9, rfl, hfl, efl, hkp, hvs, s6⟩
        rw [hzn, List.take_length] at hkp
        have K1 := KP.one gws es hkp
        obtain ⟨_, _, _, ks, hk, _, hB⟩ := K1
        refine ⟨_, rfl, fl, _, rfl, .inl ⟨SqL.of efl, fun t ht => ⟨_, rfl, sz2, fun t2 ht2 => ?_⟩⟩⟩
        have sA : Same H6 (upd (upd H6 t (.tup (.str x :: vs))) t2 (.tup [.ref t, .int ((b : Nat) : Int)])) := Same.trans (Same.new ht) (Same.new ht2)
        refine q2 ks _ b _ hk hB t2 (.ref t) _ (Same.trans s6 sA) ((Same.trans s6 (Same.new ht)).free ht2) upd_same ?_
        rw [VAt]
        exact ⟨t, _, rfl, Same.new ht2 _ _ upd_same, VAtL.cons (by rw [VAt]) (hvs.keep (Same.tupK sA))⟩
theorem ok_L_grown (T : PTx w K mg) (D : Def K mg "_law_grown" s_L_grown ["_law_words", "_law_at"]) (DN : Def K mg "_law_number" s_L_number ["_law_word"]) (mmin : mg "min" = none) : ∀ m : Nat, FnOk P w K mg base CX0 (m + 2) D.f D.fd ["_law_words", "_law_at"] (spGrown m)
  | 0 => grown_turn T D DN mmin (sp' := fun _ _ _ _ => False) no_sp fun m' h => by omega
  | m + 1 => grown_turn T D DN mmin (ok_L_grown T D DN mmin m) fun m' h => by
    have e : m = m' := by omega
    rw [e]
end
end MS
end
section
set_option maxRecDepth 100000
set_option maxHeartbeats 4000000
namespace MS
open PySem L2
/-! ### schemes that a text can tell -/
def Frm : Nat → Sch → Prop
  | 0, _ => False
  | _ + 1, .step w p => IsW w ∧ 0 ≤ p ∧ p ≤ 99
  | d + 1, .all k => k.length ≤ 99 ∧ ∀ s ∈ k, Frm d s
  | d + 1, .best k => k.length ≤ 99 ∧ ∀ s ∈ k, Frm d s
  | d + 1, .most n s => (0 ≤ n ∧ n ≤ 99) ∧ Frm d s
  | d + 1, .half s => Frm d s
  | d + 1, .seen w s => IsW w ∧ Frm d s
  | d + 1, .behind w s => IsW w ∧ Frm d s
  | d + 1, .carry s => Frm d s
  | d + 1, .fin w p s => (IsW w ∧ 0 ≤ p ∧ p ≤ 99) ∧ Frm d s
  | _ + 1, .use n => n ≤ 99
/-- the value that tells it -/
def ofD : Nat → Sch → TV
  | 0, _ => .t []
  | _ + 1, .step w p => .t [.s "step", .s w, .n p]
  | d + 1, .all k => .t [.s "all", .t (k.map (ofD d))]
  | d + 1, .best k => .t [.s "best", .t (k.map (ofD d))]
  | d + 1, .most n s => .t [.s "most", .n n, ofD d s]
  | d + 1, .half s => .t [.s "half", ofD d s]
  | d + 1, .seen w s => .t [.s "seen", .s w, ofD d s]
  | d + 1, .behind w s => .t [.s "behind", .s w, ofD d s]
  | d + 1, .carry s => .t [.s "carry", ofD d s]
  | d + 1, .fin w p s => .t [.s "end", .s w, .n p, ofD d s]
  | _ + 1, .use n => .t [.s "use", .n ((n : Nat) : Int)]
theorem of_paired {H : Hp} {d : Nat} (ih : ∀ (s : Sch) (v : V), Frm d s → VAt H (ofD d s) v → SAt H d s v) : ∀ {k : List Sch} {vs : List V}, (∀ s ∈ k, Frm d s) → VAtL H (k.map (ofD d)) vs → Paired (SAt H d) k vs
  | [], vs, _, h => by
    rw [List.map_nil, VAtL] at h
    rw [h]
    exact .nil
  | s :: k, vs, f, h => by
    rw [List.map_cons, VAtL] at h
    obtain ⟨v, vr, rfl, h1, h2⟩ := h
    exact .cons (ih s v (f s List.mem_cons_self) h1) (of_paired ih (fun x hx => f x (List.mem_cons_of_mem _ hx)) h2)
theorem of_at {H : Hp} : ∀ (d : Nat) (s : Sch) (v : V), Frm d s → VAt H (ofD d s) v → SAt H d s v
  | 0, _, _, f, _ => by cases f
  | d + 1, .step w p, v, f, h => by
    simp only [ofD, VAt, VAtL] at h
    obtain ⟨a, vs, rfl, ha, v1, r1, rfl, rfl, v2, r2, rfl, rfl, v3, r3, rfl, rfl, rfl⟩ := h
    exact ⟨a, rfl, ha⟩
  | d + 1, .all k, v, f, h => by
    simp only [ofD, VAt, VAtL] at h
    obtain ⟨a, vs, rfl, ha, v1, r1, rfl, rfl, v2, r2, rfl, ⟨b, ks, rfl, hb, hk⟩, rfl⟩ := h
    exact ⟨a, b, ks, rfl, ha, hb, of_paired (of_at d) f.2 hk⟩
  | d + 1, .best k, v, f, h => by
    simp only [ofD, VAt, VAtL] at h
    obtain ⟨a, vs, rfl, ha, v1, r1, rfl, rfl, v2, r2, rfl, ⟨b, ks, rfl, hb, hk⟩, rfl⟩ := h
    exact ⟨a, b, ks, rfl, ha, hb, of_paired (of_at d) f.2 hk⟩
  | d + 1, .most n s, v, f, h => by
    simp only [ofD, VAt, VAtL] at h
    obtain ⟨a, vs, rfl, ha, v1, r1, rfl, rfl, v2, r2, rfl, rfl, v3, r3, rfl, h3, rfl⟩ := h
    exact ⟨a, v3, rfl, ha, of_at d s v3 f.2 h3⟩
  | d + 1, .half s, v, f, h => by
    simp only [ofD, VAt, VAtL] at h
    obtain ⟨a, vs, rfl, ha, v1, r1, rfl, rfl, v3, r3, rfl, h3, rfl⟩ := h
    exact ⟨a, v3, rfl, ha, of_at d s v3 f h3⟩
  | d + 1, .seen x s, v, f, h => by
    simp only [ofD, VAt, VAtL] at h
    obtain ⟨a, vs, rfl, ha, v1, r1, rfl, rfl, v2, r2, rfl, rfl, v3, r3, rfl, h3, rfl⟩ := h
    exact ⟨a, v3, rfl, ha, of_at d s v3 f.2 h3⟩
  | d + 1, .behind x s, v, f, h => by
    simp only [ofD, VAt, VAtL] at h
    obtain ⟨a, vs, rfl, ha, v1, r1, rfl, rfl, v2, r2, rfl, rfl, v3, r3, rfl, h3, rfl⟩ := h
    exact ⟨a, v3, rfl, ha, of_at d s v3 f.2 h3⟩
  | d + 1, .carry s, v, f, h => by
    simp only [ofD, VAt, VAtL] at h
    obtain ⟨a, vs, rfl, ha, v1, r1, rfl, rfl, v3, r3, rfl, h3, rfl⟩ := h
    exact ⟨a, v3, rfl, ha, of_at d s v3 f h3⟩
  | d + 1, .fin x p s, v, f, h => by
    simp only [ofD, VAt, VAtL] at h
    obtain ⟨a, vs, rfl, ha, v1, r1, rfl, rfl, v2, r2, rfl, rfl, v4, r4, rfl, rfl, v3, r3, rfl, h3, rfl⟩ := h
    exact ⟨a, v3, rfl, ha, of_at d s v3 f.2 h3⟩
  | d + 1, .use n, v, f, h => by
    simp only [ofD, VAt, VAtL] at h
    obtain ⟨a, vs, rfl, ha, v1, r1, rfl, rfl, v3, r3, rfl, rfl, rfl⟩ := h
    exact ⟨a, rfl, ha⟩
/-- what stands for a kind -/
def TFrm (d : Nat) (k : Str) (v : TV) : Prop := if k = "scheme" then ∃ s, Frm d s ∧ v = ofD d s else if k = "schemes" then ∃ l : List Sch, l.length ≤ 99 ∧ (∀ s ∈ l, Frm d s) ∧ v = .t (l.map (ofD d))
  else if k = "word" then ∃ w, IsW w ∧ v = .s w else ∃ n : Nat, n ≤ 99 ∧ v = .n ((n : Nat) : Int)
theorem tf_one {d : Nat} {v : TV} (h : TFrm d "scheme" v) : ∃ s, Frm d s ∧ v = ofD d s := by
  rw [TFrm, if_pos rfl] at h
  exact h
theorem tf_many {d : Nat} {v : TV} (h : TFrm d "schemes" v) : ∃ l : List Sch, l.length ≤ 99 ∧ (∀ s ∈ l, Frm d s) ∧ v = .t (l.map (ofD d)) := by
  rw [TFrm, if_neg (by decide +kernel), if_pos rfl] at h
  exact h
theorem tf_word {d : Nat} {v : TV} (h : TFrm d "word" v) : ∃ w, IsW w ∧ v = .s w := by
  rw [TFrm, if_neg (by decide +kernel), if_neg (by decide +kernel), if_pos rfl] at h
  exact h
theorem tf_num {d : Nat} {k : Str} {v : TV} (h : TFrm d k v) (h1 : k ≠ "scheme") (h2 : k ≠ "schemes") (h3 : k ≠ "word") : ∃ n : Nat, n ≤ 99 ∧ v = .n ((n : Nat) : Int) := by
  rw [TFrm, if_neg h1, if_neg h2, if_neg h3] at h
  exact h
theorem pr_cut {α β : Type} {R : α → β → Prop} : ∀ {a b : List α} {T : List β}, Paired R (a ++ b) T → Paired R a (T.take a.length) ∧ Paired R b (T.drop a.length)
  | [], b, T, h => ⟨.nil, h⟩
  | x :: a, b, _, .cons h t => by
    obtain ⟨h1, h2⟩ := pr_cut t
    exact ⟨.cons h h1, h2⟩
theorem tf_repl {d : Nat} : ∀ {m : Nat} {T : List TV}, Paired (TFrm d) (List.replicate m ("scheme" : Str)) T → ∃ l : List Sch, l.length = m ∧ (∀ s ∈ l, Frm d s) ∧ T = l.map (ofD d)
  | 0, T, h => by
    cases h
    exact ⟨[], rfl, (fun _ h => nomatch h), rfl⟩
  | m + 1, T, h => by
    rw [List.replicate_succ] at h
    cases h with
    | cons h1 t1 =>
      obtain ⟨s, fs, rfl⟩ := tf_one h1
      obtain ⟨l, e, f, rfl⟩ := tf_repl t1
      refine ⟨s :: l, by rw [List.length_cons, e], fun x hx => ?_, rfl⟩
      rcases List.mem_cons.mp hx with rfl | hx
      · exact fs
      · exact f x hx
theorem shape_form {d : Nat} {x : Str} {l : List Str} {T : List TV} (h : shapeOf x = some l) (hp : Paired (TFrm d) l T) : ∃ s, Frm (d + 1) s ∧ (.t (.s x :: T) : TV) = ofD (d + 1) s := by
  have hm := shape_mem h
  simp only [shapesL, List.mem_cons, List.not_mem_nil, or_false, Prod.mk.injEq] at hm
  have np : ("points" : Str) ≠ "scheme" ∧ ("points" : Str) ≠ "schemes" ∧ ("points" : Str) ≠ "word" := by decide +kernel
  have nl : ("limit" : Str) ≠ "scheme" ∧ ("limit" : Str) ≠ "schemes" ∧ ("limit" : Str) ≠ "word" := by decide +kernel
  have nt : ("later" : Str) ≠ "scheme" ∧ ("later" : Str) ≠ "schemes" ∧ ("later" : Str) ≠ "word" := by decide +kernel
  rcases hm with ⟨rfl, rfl⟩ | ⟨rfl, rfl⟩ | ⟨rfl, rfl⟩ | ⟨rfl, rfl⟩ | ⟨rfl, rfl⟩ | ⟨rfl, rfl⟩ | ⟨rfl, rfl⟩ | ⟨rfl, rfl⟩ | ⟨rfl, rfl⟩ | ⟨rfl, rfl⟩
  · cases hp with
    | cons h1 t1 => cases t1 with
      | cons h2 t2 =>
        cases t2
        obtain ⟨w, hw, rfl⟩ := tf_word h1
        obtain ⟨n, hn, rfl⟩ := tf_num h2 np.1 np.2.1 np.2.2
        exact ⟨.step w n, ⟨hw, by omega, by omega⟩, rfl⟩
  · cases hp with
    | cons h1 t1 =>
      cases t1
      obtain ⟨l, hl, hf, rfl⟩ := tf_many h1
      exact ⟨.all l, ⟨hl, hf⟩, rfl⟩
  · cases hp with
    | cons h1 t1 =>
      cases t1
      obtain ⟨l, hl, hf, rfl⟩ := tf_many h1
      exact ⟨.best l, ⟨hl, hf⟩, rfl⟩
  · cases hp with
    | cons h1 t1 => cases t1 with
      | cons h2 t2 =>
        cases t2
        obtain ⟨n, hn, rfl⟩ := tf_num h1 nl.1 nl.2.1 nl.2.2
        obtain ⟨s, hs, rfl⟩ := tf_one h2
        exact ⟨.most n s, ⟨⟨by omega, by omega⟩, hs⟩, rfl⟩
  · cases hp with
    | cons h1 t1 =>
      cases t1
      obtain ⟨s, hs, rfl⟩ := tf_one h1
      exact ⟨.half s, hs, rfl⟩
  · cases hp with
    | cons h1 t1 => cases t1 with
      | cons h2 t2 =>
        cases t2
        obtain ⟨w, hw, rfl⟩ := tf_word h1
        obtain ⟨s, hs, rfl⟩ := tf_one h2
        exact ⟨.seen w s, ⟨hw, hs⟩, rfl⟩
  · cases hp with
    | cons h1 t1 => cases t1 with
      | cons h2 t2 =>
        cases t2
        obtain ⟨w, hw, rfl⟩ := tf_word h1
        obtain ⟨s, hs, rfl⟩ := tf_one h2
        exact ⟨.behind w s, ⟨hw, hs⟩, rfl⟩
  · cases hp with
    | cons h1 t1 =>
      cases t1
      obtain ⟨s, hs, rfl⟩ := tf_one h1
      exact ⟨.carry s, hs, rfl⟩
  · cases hp with
    | cons h1 t1 => cases t1 with
      | cons h2 t2 => cases t2 with
        | cons h3 t3 =>
          cases t3
          obtain ⟨w, hw, rfl⟩ := tf_word h1
          obtain ⟨n, hn, rfl⟩ := tf_num h2 np.1 np.2.1 np.2.2
          obtain ⟨s, hs, rfl⟩ := tf_one h3
          exact ⟨.fin w n s, ⟨⟨hw, by omega, by omega⟩, hs⟩, rfl⟩
  · cases hp with
    | cons h1 t1 =>
      cases t1
      obtain ⟨n, hn, rfl⟩ := tf_num h1 nt.1 nt.2.1 nt.2.2
      exact ⟨.use n, hn, rfl⟩
/-- what words build is formed -/
theorem kp_form : ∀ {r S : List Str} {n : Nat} {ks r' : List Str} {n' : Nat}, (∀ x ∈ r, asc x) → kp r S n = .inr (ks, r', n') → ∃ T : List TV, (∀ B : List TV, bldF (r.zip ks) B = T ++ B) ∧ ∀ d, r.length ≤ d → Paired (TFrm d) S T
  | r, [], n, ks, r', n', _, h => by
    rw [kp_nil] at h
    injection h with h
    injection h with h1 h2
    subst h1
    exact ⟨[], fun B => by rw [List.zip_nil_right]; rfl, fun _ _ => .nil⟩
  | [], _ :: _, n, ks, r', n', _, h => nomatch h
  | x :: r, k :: S, n, ks, r', n', ha, h => by
    unfold kp at h
    by_cases hc : canB x k = true
    · rw [if_pos hc] at h
      have hax := ha x List.mem_cons_self
      cases e : kp r (comL x k ++ S) (n + 1) with
      | inl m => rw [e] at h; cases h
      | inr p =>
        obtain ⟨ks0, r0, n0⟩ := p
        rw [e] at h
        injection h with h
        injection h with h1 h2
        subst h1
        obtain ⟨T, hB, hP⟩ := kp_form (fun y hy => ha y (List.mem_cons_of_mem _ hy)) e
        have hT : T.length = (comL x k ++ S).length := (Paired.length (hP r.length (Nat.le_refl _))).symm
        rw [List.length_append] at hT
        have key : ∀ (m : Nat) (B : List TV), m ≤ T.length → (T ++ B).take m = T.take m ∧ (T ++ B).drop m = T.drop m ++ B := fun m B hm => ⟨List.take_append_of_le_length hm, List.drop_append_of_le_length hm⟩
        by_cases h3 : k = "scheme"
        · subst h3
          cases es : shapeOf x with
          | none =>
            unfold canB at hc
            rw [if_pos rfl, es] at hc
            cases hc
          | some l =>
            have ec : comL x "scheme" = l := by unfold comL; rw [if_pos rfl, es]; rfl
            rw [ec] at hT hP
            refine ⟨.t (.s x :: T.take l.length) :: T.drop l.length, fun B => ?_, fun d hd => ?_⟩
            · obtain ⟨k1, k2⟩ := key l.length B (by omega)
              rw [List.zip_cons_cons, bldF, if_pos rfl, hB B, es]
              show (.t (.s x :: (T ++ B).take l.length) : TV) :: (T ++ B).drop l.length = _
              rw [k1, k2]
              rfl
            · rw [List.length_cons] at hd
              obtain ⟨d', rfl⟩ : ∃ d', d = d' + 1 := ⟨d - 1, by omega⟩
              obtain ⟨p1, _⟩ := pr_cut (hP d' (by omega))
              obtain ⟨_, p2⟩ := pr_cut (hP (d' + 1) (by omega))
              refine .cons ?_ p2
              rw [TFrm, if_pos rfl]
              exact shape_form es p1
        · by_cases h4 : k = "schemes"
          · subst h4
            have ec : comL x "schemes" = List.replicate (valOf x).toNat ("scheme" : Str) := by unfold comL; rw [if_neg h3, if_pos rfl]
            have h99 := com_len hax hc
            rw [ec] at hT hP h99
            rw [List.length_replicate] at hT h99
            refine ⟨.t (T.take (valOf x).toNat) :: T.drop (valOf x).toNat, fun B => ?_, fun d hd => ?_⟩
            · obtain ⟨k1, k2⟩ := key (valOf x).toNat B (by omega)
              rw [List.zip_cons_cons, bldF, if_neg h3, if_pos rfl, hB B, k1, k2]
              rfl
            · rw [List.length_cons] at hd
              obtain ⟨p1, p2⟩ := pr_cut (hP d (by omega))
              rw [List.length_replicate] at p1 p2
              refine .cons ?_ p2
              obtain ⟨l, hl, hf, e⟩ := tf_repl p1
              rw [TFrm, if_neg h3, if_pos rfl]
              exact ⟨l, by omega, hf, by rw [e]⟩
          · have ec : comL x k = [] := by unfold comL; rw [if_neg h3, if_neg h4]
            rw [ec, List.nil_append] at hP
            by_cases h5 : k = "word"
            · subst h5
              refine ⟨.s x :: T, fun B => ?_, fun d hd => .cons ?_ (hP d (by rw [List.length_cons] at hd; omega))⟩
              · rw [List.zip_cons_cons, bldF, if_neg h3, if_neg h4, if_pos rfl, hB B]
                rfl
              · rw [TFrm, if_neg h3, if_neg h4, if_pos rfl]
                unfold canB at hc
                rw [if_neg h3, if_pos rfl] at hc
                exact ⟨x, (of_decide_eq_true hc : x ∈ wordsL), rfl⟩
            · refine ⟨.n (valOf x) :: T, fun B => ?_, fun d hd => .cons ?_ (hP d (by rw [List.length_cons] at hd; omega))⟩
              · rw [List.zip_cons_cons, bldF, if_neg h3, if_neg h4, if_neg h5, hB B]
                rfl
              · rw [TFrm, if_neg h3, if_neg h4, if_neg h5]
                unfold canB at hc
                rw [if_neg h3, if_neg h5] at hc
                obtain ⟨f0, f1⟩ := fig_val hax hc
                exact ⟨(valOf x).toNat, by omega, by rw [Int.toNat_of_nonneg f0]⟩
    · rw [if_neg hc] at h
      cases h
/-- one scheme -/
theorem kp_sch {ws ks r' : List Str} {n n' : Nat} (ha : ∀ x ∈ ws, asc x) (h : kp ws ["scheme"] n = .inr (ks, r', n')) : ∃ s, Frm ws.length s ∧ ∀ B : List TV, bldF (ws.zip ks) B = [ofD ws.length s] ++ B := by
  obtain ⟨T, hB, hP⟩ := kp_form ha h
  cases hP _ (Nat.le_refl _) with
  | cons h1 t1 =>
    cases t1
    obtain ⟨s, fs, rfl⟩ := tf_one h1
    exact ⟨s, fs, hB⟩
end MS
end
section
set_option maxRecDepth 100000
set_option maxHeartbeats 4000000
namespace MS
open PySem L2
/-! ### can_be, within of any scheme that a text can tell -/
/-- whether a scheme itself can be, in scheme i of M -/
def okOwn (i M : Nat) : Sch → Bool
  | .step _ p => decide (1 ≤ p ∧ p ≤ 9)
  | .all k => decide (1 ≤ k.length ∧ k.length ≤ 4)
  | .best k => decide (1 ≤ k.length ∧ k.length ≤ 4)
  | .most n _ => decide (0 ≤ n ∧ n ≤ 30)
  | .fin _ p _ => decide (1 ≤ p ∧ p ≤ 9)
  | .use n => decide (i < n ∧ n < M)
  | _ => true
def FitB (H : Hp) (i M : Nat) (p : V × Bool) (kind : Str) : Prop :=
  (kind = "word" ∧ p.2 = true ∧ ∃ x, p.1 = .str x ∧ IsW x) ∨ (kind = "points" ∧ ∃ n : Int, p.1 = .int n ∧ p.2 = decide (1 ≤ n ∧ n ≤ 9)) ∨ (kind = "limit" ∧ ∃ n : Int, p.1 = .int n ∧ p.2 = decide (0 ≤ n ∧ n ≤ 30)) ∨
  (kind = "schemes" ∧ ∃ a vs, p.1 = .ref a ∧ H a = some (.tup vs) ∧ p.2 = decide (1 ≤ vs.length ∧ vs.length ≤ 4)) ∨ (kind = "scheme" ∧ p.2 = true) ∨ (kind = "later" ∧ ∃ j : Nat, p.1 = .int ((j : Nat) : Int) ∧ p.2 = decide (i < j ∧ j < M))
theorem FitB.keep {H H' : Hp} {i M : Nat} {p : V × Bool} {z : Str} (h : FitB H i M p z) (k : Same H H') : FitB H' i M p z := by
  rcases h with h | h | h | ⟨e, b, vs, e1, e2, h1⟩ | h | h
  · exact .inl h
  · exact .inr (.inl h)
  · exact .inr (.inr (.inl h))
  · exact .inr (.inr (.inr (.inl ⟨e, b, vs, e1, k _ _ e2, h1⟩)))
  · exact .inr (.inr (.inr (.inr (.inl h))))
  · exact .inr (.inr (.inr (.inr (.inr h))))
structure ShpX (H : Hp) (i M d : Nat) (sc : Sch) (nm : Str) (rest : List V) (kinds : List Str) (kv : List V) (prs : List (V × Bool)) : Prop where
  mem : (nm, kinds) ∈ shapesL
  fst : rest = prs.map (·.1)
  fit : Paired (FitB H i M) prs kinds
  all : (prs.map (·.2)).all id = okOwn i M sc
  at_ : Paired (SAt H d) (kidsOf sc) kv
  k1 : ∃ kl, atI (kinds.map V.str) (-1) = some (.str kl) ∧ ((kl = "schemes" ∧ ∃ b, atI (.str nm :: rest) (-1) = some (.ref b) ∧ H b = some (.tup kv)) ∨ (kl = "scheme" ∧ ∃ u, atI (.str nm :: rest) (-1) = some u ∧ kv = [u]) ∨ (kl ≠ "schemes" ∧ kl ≠ "scheme" ∧ kv = []))
theorem all2 (b : Bool) : (true && (b && true)) = b := by cases b <;> rfl
theorem all1 (b : Bool) : (b && true) = b := by cases b <;> rfl
theorem SAt.shapeX {H : Hp} {i M d : Nat} {sc : Sch} {a : Addr} {nm : Str} {rest : List V} (h : SAt H (d + 1) sc (.ref a)) (o : Frm (d + 1) sc) (ea : H a = some (.tup (.str nm :: rest))) : ∃ kinds kv prs, ShpX H i M d sc nm rest kinds kv prs := by
  have inj : ∀ {a' : Addr} {nm' : Str} {rest' : List V}, (V.ref a = V.ref a') → H a' = some (.tup (.str nm' :: rest')) → nm' = nm ∧ rest' = rest := fun e h => by
    cases e
    rw [ea] at h
    cases h
    exact ⟨rfl, rfl⟩
  have fw : ∀ {x : Str}, IsW x → FitB H i M (.str x, true) "word" := fun hx => .inl ⟨rfl, rfl, _, rfl, hx⟩
  have fp : ∀ {p : Int}, FitB H i M (.int p, decide (1 ≤ p ∧ p ≤ 9)) "points" := .inr (.inl ⟨rfl, _, rfl, rfl⟩)
  have fs : ∀ {u : V}, FitB H i M (u, true) "scheme" := .inr (.inr (.inr (.inr (.inl ⟨rfl, rfl⟩))))
  cases sc with
  | step x p =>
    obtain ⟨a', e, h⟩ := h
    obtain ⟨rfl, rfl⟩ := inj e h
    exact ⟨["word", "points"], [], [(.str x, true), (.int p, _)], by decide +kernel, rfl, .cons (fw o.1) (.cons fp .nil), all2 _, .nil, ⟨"points", rfl, .inr (.inr ⟨by decide +kernel, by decide +kernel, rfl⟩)⟩⟩
  | all k =>
    obtain ⟨a', b, vs, e, h, eb, hk⟩ := h
    obtain ⟨rfl, rfl⟩ := inj e h
    have := Paired.length hk
    exact ⟨["schemes"], vs, [(.ref b, decide (1 ≤ k.length ∧ k.length ≤ 4))], by decide +kernel, rfl, .cons (.inr (.inr (.inr (.inl ⟨rfl, b, vs, rfl, eb, by rw [this]⟩)))) .nil, all1 _, hk, ⟨"schemes", rfl, .inl ⟨rfl, b, rfl, eb⟩⟩⟩
  | best k =>
    obtain ⟨a', b, vs, e, h, eb, hk⟩ := h
    obtain ⟨rfl, rfl⟩ := inj e h
    have := Paired.length hk
    exact ⟨["schemes"], vs, [(.ref b, decide (1 ≤ k.length ∧ k.length ≤ 4))], by decide +kernel, rfl, .cons (.inr (.inr (.inr (.inl ⟨rfl, b, vs, rfl, eb, by rw [this]⟩)))) .nil, all1 _, hk, ⟨"schemes", rfl, .inl ⟨rfl, b, rfl, eb⟩⟩⟩
  | most n s =>
    obtain ⟨a', u, e, h, hs⟩ := h
    obtain ⟨rfl, rfl⟩ := inj e h
    exact ⟨["limit", "scheme"], [u], [(.int n, decide (0 ≤ n ∧ n ≤ 30)), (u, true)], by decide +kernel, rfl, .cons (.inr (.inr (.inl ⟨rfl, n, rfl, rfl⟩))) (.cons fs .nil), all1 _, .cons hs .nil, ⟨"scheme", rfl, .inr (.inl ⟨rfl, u, rfl, rfl⟩)⟩⟩
  | half s =>
    obtain ⟨a', u, e, h, hs⟩ := h
    obtain ⟨rfl, rfl⟩ := inj e h
    exact ⟨["scheme"], [u], [(u, true)], by decide +kernel, rfl, .cons fs .nil, rfl, .cons hs .nil, ⟨"scheme", rfl, .inr (.inl ⟨rfl, u, rfl, rfl⟩)⟩⟩
  | seen x s =>
    obtain ⟨a', u, e, h, hs⟩ := h
    obtain ⟨rfl, rfl⟩ := inj e h
    exact ⟨["word", "scheme"], [u], [(.str x, true), (u, true)], by decide +kernel, rfl, .cons (fw o.1) (.cons fs .nil), rfl, .cons hs .nil, ⟨"scheme", rfl, .inr (.inl ⟨rfl, u, rfl, rfl⟩)⟩⟩
  | behind x s =>
    obtain ⟨a', u, e, h, hs⟩ := h
    obtain ⟨rfl, rfl⟩ := inj e h
    exact ⟨["word", "scheme"], [u], [(.str x, true), (u, true)], by decide +kernel, rfl, .cons (fw o.1) (.cons fs .nil), rfl, .cons hs .nil, ⟨"scheme", rfl, .inr (.inl ⟨rfl, u, rfl, rfl⟩)⟩⟩
  | carry s =>
    obtain ⟨a', u, e, h, hs⟩ := h
    obtain ⟨rfl, rfl⟩ := inj e h
    exact ⟨["scheme"], [u], [(u, true)], by decide +kernel, rfl, .cons fs .nil, rfl, .cons hs .nil, ⟨"scheme", rfl, .inr (.inl ⟨rfl, u, rfl, rfl⟩)⟩⟩
  | fin x p s =>
    obtain ⟨a', u, e, h, hs⟩ := h
    obtain ⟨rfl, rfl⟩ := inj e h
    exact ⟨["word", "points", "scheme"], [u], [(.str x, true), (.int p, _), (u, true)], by decide +kernel, rfl, .cons (fw o.1.1) (.cons fp (.cons fs .nil)), all2 _, .cons hs .nil, ⟨"scheme", rfl, .inr (.inl ⟨rfl, u, rfl, rfl⟩)⟩⟩
  | use n =>
    obtain ⟨a', e, h⟩ := h
    obtain ⟨rfl, rfl⟩ := inj e h
    exact ⟨["later"], [], [(.int ((n : Nat) : Int), decide (i < n ∧ n < M))], by decide +kernel, rfl, .cons (.inr (.inr (.inr (.inr (.inr ⟨rfl, n, rfl, rfl⟩))))) .nil, all1 _, .nil, ⟨"later", rfl, .inr (.inr ⟨by decide +kernel, by decide +kernel, rfl⟩)⟩⟩
theorem frm_kids {d : Nat} {s : Sch} (o : Frm (d + 1) s) : ∀ x ∈ kidsOf s, Frm d x := by
  cases s with
  | step w p => exact fun _ h => nomatch h
  | all k => exact o.2
  | best k => exact o.2
  | most n s => intro x h; rw [List.mem_singleton.mp h]; exact o.2
  | half s => intro x h; rw [List.mem_singleton.mp h]; exact o
  | seen w s => intro x h; rw [List.mem_singleton.mp h]; exact o.2
  | behind w s => intro x h; rw [List.mem_singleton.mp h]; exact o.2
  | carry s => intro x h; rw [List.mem_singleton.mp h]; exact o
  | fin w p s => intro x h; rw [List.mem_singleton.mp h]; exact o.2
  | use n => exact fun _ h => nomatch h
theorem frm_few {d : Nat} {s : Sch} (o : Frm (d + 1) s) : (kidsOf s).length ≤ 99 := by
  cases s with
  | all k => exact o.1
  | best k => exact o.1
  | _ => first | (show 0 ≤ 99; decide) | (show 1 ≤ 99; decide)
theorem own_few {i M : Nat} {s : Sch} (o : okOwn i M s = true) : (kidsOf s).length ≤ 4 := by
  cases s with
  | all k => exact (of_decide_eq_true o).2
  | best k => exact (of_decide_eq_true o).2
  | _ => first | (show 0 ≤ 4; decide) | (show 1 ≤ 4; decide)
def spFitsX (i M : Nat) : Sp := fun vs H Q _ => ∃ (part : V) (kind : Str) (b : Bool), vs = [part, .str kind, .int ((i : Nat) : Int), .int ((M : Nat) : Int)] ∧ FitB H i M (part, b) kind ∧ Q (.bl b) H
def spCanBeX (i M : Nat) : Sp := fun vs H Q _ => ∃ (v : V) (sc : Sch) (d : Nat), vs = [v, .int ((i : Nat) : Int), .int ((M : Nat) : Int)] ∧ SAt H (d + 1) sc v ∧ Frm (d + 1) sc ∧ ∀ H', Same H H' → Q (.bl (okOwn i M sc)) H'
def spWithinX : Sp := fun vs H Q _ => ∃ (v : V) (sc : Sch) (d : Nat), vs = [v] ∧ SAt H (d + 1) sc v ∧ Frm (d + 1) sc ∧ ∀ (f : Addr) (kv : List V), H f = none → Paired (SAt H d) (kidsOf sc) kv → Q (.ref f) (upd H f (.lst kv))
theorem dec_and {a b : Prop} [Decidable a] [Decidable b] (h : a) : decide b = decide (a ∧ b) := by
  rw [decide_eq_decide]
  exact ⟨fun z => ⟨h, z⟩, fun z => z.2⟩
theorem dec_nand {a b : Prop} [Decidable a] [Decidable b] (h : ¬ a) : decide (a ∧ b) = false := decide_eq_false fun z => h z.1
theorem pr_get {α β : Type} {R : α → β → Prop} : ∀ {xs : List α} {ys : List β}, Paired R xs ys → ∀ {k : Nat} {y : β}, ys[k]? = some y → ∃ x, xs[k]? = some x ∧ R x y
  | _, _, .nil, _, _, h => by simp at h
  | _, _, .cons r t, 0, _, h => by
    simp at h
    subst h
    exact ⟨_, rfl, r⟩
  | _, _, .cons _ t, k + 1, y, h => by
    obtain ⟨x, e, r⟩ := pr_get t (k := k) (y := y) (by simpa using h)
    exact ⟨x, by simpa using e, r⟩
section
variable {P : Program} {w : World} {K : PySem.W.Frag} {mg : Str → Option Value} {base : Heap}
theorem ok_fitsX {i M : Nat} (T : PTx w K mg) (D : Def K mg "fits" s_fits psFits) (DN : Def K mg "is_number" s_is_number ["thing"]) : FnOk P w K mg base CX0 2 D.f D.fd psFits (spFitsX i M) := by
  have GN : FnOk P w K mg base CX0 1 DN.f DN.fd ["thing"] spIsNumber := ok_is_number T DN
  obtain ⟨aW, gW, qW⟩ := T.words
  obtain ⟨tm, gm⟩ := T.mostWithin
  obtain ⟨aB, gB, t1, t2, kb1, qb1, kb2, qb2⟩ := T.bounds
  have nd := sc_fits.nd
  refine D.ok sc_fits (fun vs H Q E h => ?_) (fun cdv A outer s H vs Q E hr h => ?_)
  · obtain ⟨part, kind, b, rfl, _⟩ := h
    rfl
  obtain ⟨part, kind, b, rfl, hf, q⟩ := h
  refine ⟨_, pss_cons (ps_if (pt_cmpR op_eq (pv 1) pe_str (nomark _)) (pss_one (ps_ret (pe_cmpR op_in_seq (pv 0) (pe_glob rfl gW (v := .ref aW) rfl) (by rfl)))) pss_nil)
    (pss_cons (ps_if (pt_cmpR op_eq (pv 1) pe_str (nomark _)) (pss_one (ps_ret (pe_and (pe_callB call_isi rfl (T.free "isinstance" (by decide +kernel)) (by decide +kernel) (pa_cons (pv 0) (pa_cons (pe_bltn rfl (T.free "tuple" (by decide +kernel)) (by decide +kernel) (v := .ty "tuple") rfl) pa_nil)))
        (pe_one (pe_chain op_le op_le pe_int (pe_callB call_len_seq rfl (T.free "len" (by decide +kernel)) PySem.boot_len (pa_cons (pv 0) pa_nil)) (pe_glob rfl gm (v := .int 4) ⟨_, rfl⟩)))))) pss_nil)
    (pss_cons (ps_if (pt_cmpR op_eq (pv 1) pe_str (nomark _)) (pss_one (ps_ret pe_bl)) pss_nil)
    (pss_cons (ps_if (pt_cmpR op_eq (pv 1) pe_str (nomark _)) (pss_one (ps_ret (pe_and (pcall DN GN hr (pa_cons (pv 0) pa_nil)) (pe_one (pe_chain op_lt op_lt (pv 2) (pv 0) (pv 3)))))) pss_nil)
    (pss_cons (ps_asg (pe_ix ix_kdict (pe_glob rfl gB (v := .ref aB) rfl) (pv 1) (fun _ _ => rfl)) (pg_tup (by rfl) (pgs_cons (pg_name (i := 4) nd rfl (Or.inl rfl)) (pgs_cons (pg_name (i := 5) nd rfl (Or.inl rfl)) pgs_nil))))
    (pss_one (ps_ret (pe_and (pcall DN GN hr (pa_cons (pv 0) pa_nil)) (pe_one (pe_chain op_le op_le (pv 4) (pv 0) (pv 5)))))))))), ?_⟩
  have tst : ∀ {c : Str} {σ : St} {b : Bool}, σ[1]? = some (some (.str kind)) → (kind == c) = b → ∀ Q : Bool → Hp → Prop, Q b H → tTest (tOp rEq (tVar 1) (tC (.str c))) σ H Q := fun s1 e Q q => ⟨_, s1, rfl, _, rfl, by rw [dec_str, e]; exact q⟩
  rcases hf with ⟨rfl, eb, x, ep, hx⟩ | ⟨rfl, p, ep, eb⟩ | ⟨rfl, p, ep, eb⟩ | ⟨rfl, c, vs, ep, ec, eb⟩ | ⟨rfl, eb⟩ | ⟨rfl, j, ep, eb⟩
  · obtain rfl : part = _ := ep
    obtain rfl : b = _ := eb
    refine seq_if (b := true) (tst rfl (by decide +kernel)) (fun _ => ?_) (fun z => nomatch z)
    refine ⟨_, rfl, aW, _, rfl, .inr (qW _), rfl, by decide +kernel, ?_⟩
    show Q (.bl (inV (.str x) (wordsL.map V.str))) _
    rw [inV_words hx]
    exact q
  · obtain rfl : part = _ := ep
    obtain rfl : b = _ := eb
    refine seq_if (b := false) (tst rfl (by decide +kernel)) (fun z => nomatch z) (fun _ => seq_if (b := false) (tst rfl (by decide +kernel)) (fun z => nomatch z) (fun _ => seq_if (b := false) (tst rfl (by decide +kernel)) (fun z => nomatch z) (fun _ => seq_if (b := false) (tst rfl (by decide +kernel)) (fun z => nomatch z) (fun _ => ?_))))
    refine ⟨_, rfl, aB, "points", .ref t1, rfl, rfl, kb1, t1, _, rfl, qb1 _, rfl, _, _, rfl, _, _, rfl, rfl, ?_⟩
    refine ⟨_, rfl, p, rfl, _, rfl, ?_⟩
    refine ⟨_, rfl, _, rfl, _, _, rfl, rfl, _, rfl, ?_⟩
    by_cases p1 : 1 ≤ p
    · rw [decide_eq_true p1]
      refine iteT ⟨_, rfl, _, _, rfl, rfl, ?_⟩
      show Q (V.bl (decide _)) H
      rw [dec_and p1]
      exact q
    · rw [decide_eq_false p1]
      rw [dec_nand p1] at q
      exact iteF q
  · obtain rfl : part = _ := ep
    obtain rfl : b = _ := eb
    refine seq_if (b := false) (tst rfl (by decide +kernel)) (fun z => nomatch z) (fun _ => seq_if (b := false) (tst rfl (by decide +kernel)) (fun z => nomatch z) (fun _ => seq_if (b := false) (tst rfl (by decide +kernel)) (fun z => nomatch z) (fun _ => seq_if (b := false) (tst rfl (by decide +kernel)) (fun z => nomatch z) (fun _ => ?_))))
    refine ⟨_, rfl, aB, "limit", .ref t2, rfl, rfl, kb2, t2, _, rfl, qb2 _, rfl, _, _, rfl, _, _, rfl, rfl, ?_⟩
    refine ⟨_, rfl, p, rfl, _, rfl, ?_⟩
    refine ⟨_, rfl, _, rfl, _, _, rfl, rfl, _, rfl, ?_⟩
    by_cases p1 : 0 ≤ p
    · rw [decide_eq_true p1]
      refine iteT ⟨_, rfl, _, _, rfl, rfl, ?_⟩
      show Q (V.bl (decide _)) H
      rw [dec_and p1]
      exact q
    · rw [decide_eq_false p1]
      rw [dec_nand p1] at q
      exact iteF q
  · obtain rfl : part = _ := ep
    obtain rfl : b = _ := eb
    refine seq_if (b := false) (tst rfl (by decide +kernel)) (fun z => nomatch z) (fun _ => seq_if (b := true) (tst rfl (by decide +kernel)) (fun _ => ?_) (fun z => nomatch z))
    refine ⟨_, rfl, _, .ty "tuple", .type "tuple", .type "tuple", true, rfl, .ty _, .base (.tup ec), kit_ty (by decide +kernel), _, rfl, ?_⟩
    refine iteT ⟨_, rfl, c, vs, rfl, .inr (SqT.of ec), _, _, rfl, rfl, _, rfl, ?_⟩
    by_cases p1 : 1 ≤ vs.length
    · rw [decide_eq_true (show (1 : Int) ≤ (vs.length : Int) by omega)]
      refine iteT ⟨_, _, rfl, rfl, ?_⟩
      show Q (V.bl (decide _)) H
      rw [show decide ((vs.length : Int) ≤ 4) = decide (1 ≤ vs.length ∧ vs.length ≤ 4) by rw [decide_eq_decide]; omega]
      exact q
    · rw [decide_eq_false (show ¬ (1 : Int) ≤ (vs.length : Int) by omega)]
      rw [dec_nand p1] at q
      exact iteF q
  · obtain rfl : b = _ := eb
    refine seq_if (b := false) (tst rfl (by decide +kernel)) (fun z => nomatch z) (fun _ => seq_if (b := false) (tst rfl (by decide +kernel)) (fun z => nomatch z) (fun _ => seq_if (b := true) (tst rfl (by decide +kernel)) (fun _ => q) (fun z => nomatch z)))
  · obtain rfl : part = _ := ep
    obtain rfl : b = _ := eb
    refine seq_if (b := false) (tst rfl (by decide +kernel)) (fun z => nomatch z) (fun _ => seq_if (b := false) (tst rfl (by decide +kernel)) (fun z => nomatch z) (fun _ => seq_if (b := false) (tst rfl (by decide +kernel)) (fun z => nomatch z) (fun _ => seq_if (b := true) (tst rfl (by decide +kernel)) (fun _ => ?_) (fun z => nomatch z))))
    refine ⟨_, rfl, _, rfl, _, rfl, ?_⟩
    refine iteT ⟨_, rfl, _, rfl, _, _, rfl, rfl, _, rfl, ?_⟩
    by_cases p1 : i < j
    · rw [decide_eq_true (show ((i : Nat) : Int) < ((j : Nat) : Int) by omega)]
      refine iteT ⟨_, rfl, _, _, rfl, rfl, ?_⟩
      show Q (V.bl (decide _)) H
      rw [show decide (((j : Nat) : Int) < ((M : Nat) : Int)) = decide (i < j ∧ j < M) by rw [decide_eq_decide]; omega]
      exact q
    · rw [decide_eq_false (show ¬ ((i : Nat) : Int) < ((j : Nat) : Int) by omega)]
      rw [dec_nand p1] at q
      exact iteF q
theorem ok_can_beX {i M : Nat} (T : PTx w K mg) (D : Def K mg "can_be" s_can_be ["thing", "number", "many"]) (DF : Def K mg "fits" s_fits psFits) (DN : Def K mg "is_number" s_is_number ["thing"]) : FnOk P w K mg base CX0 3 D.f D.fd ["thing", "number", "many"] (spCanBeX i M) := by
  have GF : FnOk P w K mg base CX0 2 DF.f DF.fd psFits (spFitsX i M) := ok_fitsX T DF DN
  obtain ⟨aS, gS, low, hS⟩ := T.shapes
  have nd := sc_can_be.nd
  refine D.ok sc_can_be (fun vs H Q E h => ?_) (fun cdv A outer s H vs Q E hr h => ?_)
  · obtain ⟨v, sc, d, rfl, _⟩ := h
    rfl
  obtain ⟨v, sc, d, rfl, hs, ho, q⟩ := h
  refine ⟨_, pss_cons (ps_if (PW.pt (pw_or (pt_not (pt_val (pe_callB call_isi rfl (T.free "isinstance" (by decide +kernel)) (by decide +kernel) (pa_cons (pv 0) (pa_cons (pe_bltn rfl (T.free "tuple" (by decide +kernel)) (by decide +kernel) (v := .ty "tuple") rfl) pa_nil)))))
      (pw_or (pt_not (pt_truth (pv 0) (by intro _; rfl))) (pw_or1 (pt_not (pt_val (pe_callB call_isi rfl (T.free "isinstance" (by decide +kernel)) (by decide +kernel) (pa_cons (pe_ix ix_tup (pv 0) pe_int (fun _ _ => rfl)) (pa_cons (pe_bltn rfl (T.free "str" (by decide +kernel)) (by decide +kernel) (v := .ty "str") rfl) pa_nil))))))))) (pss_one (ps_ret pe_bl)) pss_nil)
    (pss_cons (ps_set (i := 3) nd rfl (Or.inl rfl) (pe_kget2 (pe_glob rfl gS (v := .ref aS) rfl) (pe_ix ix_tup (pv 0) pe_int (fun _ _ => rfl)) pe_non ⟨rfl, rfl, rfl, rfl⟩))
    (pss_cons (ps_if (PW.pt (pw_or (pt_cmpR op_isN (pv 3) pe_non (nomark _)) (pw_or1 (pt_cmpR op_ne (pe_callB call_len_seq rfl (T.free "len" (by decide +kernel)) PySem.boot_len (pa_cons (pv 0) pa_nil)) (pe_op op_add (pe_callB call_len_seq rfl (T.free "len" (by decide +kernel)) PySem.boot_len (pa_cons (pv 3) pa_nil)) pe_int) (nomark _))))) (pss_one (ps_ret pe_bl)) pss_nil)
    (pss_one (ps_ret (pe_callB (cr_all rfl) rfl (T.free "all" (by decide +kernel)) (by decide +kernel) (pa_cons
      (pe_lc (own := [("part", 4), ("kind", 5)]) (g := gTup K 2 (gCons (gName 4) (gCons (gName 5) gNil))) (tt := tYes) rfl nd (RZ.pi_zipA rfl (T.free "zip" (by decide +kernel)) (pa_cons (pe_slice sl_tupA (pv 0) (po_some pe_int) po_none) (pa_cons (pv 3) pa_nil))) (blkOk_by (N := nmCanBe) (sc := defScope s_can_be) (by decide +kernel))
        (fun _ _ _ _ _ => pg_tup rfl (pgs_cons (pg_name (i := 4) nd rfl (Or.inl rfl)) (pgs_cons (pg_name (i := 5) nd rfl (Or.inl rfl)) pgs_nil))) (fun _ _ _ _ _ => pts_nil)
        (fun _ _ _ _ _ => pcall DF GF hr (pa_cons (pv 4) (pa_cons (pv 5) (pa_cons (pv 1) (pa_cons (pv 2) pa_nil)))))) pa_nil)))))), ?_⟩
  obtain ⟨a, nm, rest, rfl, ea⟩ := hs.tag
  obtain ⟨kinds, kv, prs, S⟩ := hs.shapeX (i := i) (M := M) ho ea
  obtain ⟨t, kd, qt⟩ := hS _ S.mem
  have lpk := Paired.length S.fit
  have efst := S.fst
  have lrk : rest.length = kinds.length := by rw [efst, List.length_map, lpk]
  have lk3 : kinds.length ≤ 3 := by
    have z : ∀ p ∈ shapesL, p.2.length ≤ 3 := by decide +kernel
    exact z _ S.mem
  refine seq_if (b := false || (false || false)) (ev_or (b := false) (c := false || false) (fun Q q => ⟨_, rfl, _, .ty "tuple", .type "tuple", .type "tuple", true, rfl, .ty _, .base (.tup ea), kit_ty (by decide +kernel), _, rfl, q⟩)
    (ev_or (b := false) (c := false) (fun Q q => ⟨_, rfl, true, .inr (.inl ⟨_, SqT.of ea, rfl⟩), q⟩) (fun Q q => ⟨_, rfl, a, _, 0, .str nm, rfl, rfl, SqT.of ea, at0, _, .ty "str", .type "str", .type "str", true, rfl, .ty _, .base (.str nm), kit_ty (by decide +kernel), _, rfl, q⟩))) (fun z => nomatch z) (fun _ => ?_)
  refine ⟨aS, rfl, low, ⟨_, _, kd⟩, _, rfl, a, _, 0, .str nm, rfl, rfl, SqT.of ea, at0, nm, rfl, .inl ⟨_, kd, ?_⟩⟩
  dsimp only [gName]
  refine seq_if (b := false || false) (ev_or (b := false) (c := false) (fun Q q => ⟨_, rfl, rfl, _, rfl, by rw [decide_eq_false (fun z => nomatch z)]; exact q⟩)
    (fun Q q => ⟨_, rfl, a, _, rfl, .inr (SqT.of ea), _, rfl, t, _, rfl, .inr (qt _), _, _, rfl, rfl, rfl, _, rfl, (by
      have e : V.int (((V.str nm :: rest).length : Nat) : Int) = V.int (((kinds.map V.str).length : Nat) + 1 : Int) := by
        rw [List.length_cons, List.length_map, lrk]
        rfl
      rw [decide_eq_true e]
      exact q)⟩)) (fun z => nomatch z) (fun _ => ?_)
  refine ⟨_, rfl, 1, rfl, a, _, rfl, SqT.of ea, fun z => absurd z (not_whole (Nat.succ_pos _)), fun _ p hp => ?_⟩
  have s1 : Same H (upd H p (.tup (cutV (V.str nm :: rest) (some 1) none))) := Same.new hp
  have ec : cutV (V.str nm :: rest) (some 1) none = rest := cut_from (V.str nm :: rest) 1
  rw [ec] at s1 ⊢
  refine ⟨_, rfl, p, t, rest, kinds.map V.str, rfl, .inr ⟨SqT.of upd_same, qt _, fun Dd hD => ?_⟩⟩
  have s2 := s1.trans (Same.new (o := .lst []) hD)
  have ep : upd H p (.tup rest) p = some (.tup rest) := upd_same
  refine lc_it (walk_zipT (K := K) (a := p) (b := t) (xs := rest) (ys := kinds.map V.str) (n := rest.length) (by rw [List.length_map]; omega)) (fun j H'' => H'' Dd = some (.lst (((prs.take j).map (·.2)).map V.bl)) ∧ Same (upd H p (.tup rest)) H'') ⟨upd_same, Same.new hD⟩ (fun j H'' _ ⟨_, s3⟩ => ⟨SqT.of (s3 _ _ ep), qt _⟩) ?_ ?_
  · rintro j x H2 H3 hj ⟨eD, s3⟩ ⟨T1, x1, x2, rfl, hT1, rfl, ex1, ex2⟩
    obtain ⟨k', ek', rfl⟩ : ∃ k', kinds[j]? = some k' ∧ x2 = V.str k' := by
      have ex2 : (kinds.map V.str)[j]? = some x2 := ex2
      rw [List.getElem?_map] at ex2
      cases e : kinds[j]? with
      | none => rw [e] at ex2; cases ex2
      | some k' => rw [e] at ex2; exact ⟨k', rfl, (Option.some.inj ex2).symm⟩
    obtain ⟨⟨x', b'⟩, ex', hf⟩ := pr_get S.fit ek'
    have ex1 : rest[j]? = some x1 := ex1
    rw [efst, List.getElem?_map, ex'] at ex1
    obtain rfl : x' = x1 := Option.some.inj ex1
    have s4 := (s1.trans s3).trans (Same.new (o := .tup [x', .str k']) hT1)
    refine ⟨T1, _, rfl, SqT.of upd_same, rfl, _, _, rfl, _, _, rfl, rfl, rfl, _, rfl, _, rfl, _, rfl, _, rfl, x', k', b', rfl, hf.keep s4, _, Same.new hT1 _ _ eD, ?_, ?_, ?_⟩
    · rw [List.length_map, List.length_map, List.length_take]
      exact small1000 (by omega)
    · rw [upd_same, List.take_succ, ex', List.map_append, List.map_append]
      rfl
    · exact fun b o e => by
        rw [upd_ne (ne_of_none e hD)]
        exact (s3.trans (Same.new hT1)) b o e
  · rintro H'' ⟨eD, s3⟩
    rw [show prs.take rest.length = prs by rw [lrk, ← lpk, List.take_length]] at eD
    refine ⟨Dd, _, rfl, SqL.of eD, ?_⟩
    rw [S.all]
    exact q _ (s1.trans s3)
theorem ok_withinX (T : PTx w K mg) (D : Def K mg "within" s_within ["scheme"]) : FnOk P w K mg base CX0 1 D.f D.fd ["scheme"] spWithinX := by
  obtain ⟨aS, gS, low, hS⟩ := T.shapes
  have nd := sc_within.nd
  refine D.ok sc_within (fun vs H Q E h => ?_) (fun cdv A outer s H vs Q E hr h => ?_)
  · obtain ⟨v, sc, d, rfl, _⟩ := h
    rfl
  obtain ⟨v, sc, d, rfl, hs, ho, q⟩ := h
  refine ⟨_, pss_cons (ps_set (i := 1) nd rfl (Or.inl rfl) (pe_ix ix_tup (pe_ix ix_kdict (pe_glob rfl gS (v := .ref aS) rfl) (pe_ix ix_tup (pv 0) pe_int (fun _ _ => rfl)) (fun _ _ => rfl)) (pe_un un_neg pe_int) (fun _ _ => rfl)))
    (pss_cons (ps_if (pt_cmpR op_eq (pv 1) pe_str (nomark _)) (pss_one (ps_ret (pe_callTy call_list_of rfl (T.free "list" (by decide +kernel)) (by decide +kernel) (pa_cons (pe_ix ix_tup (pv 0) (pe_un un_neg pe_int) (fun _ _ => rfl)) pa_nil)))) pss_nil)
    (pss_one (ps_ret (pe_ifExp (pt_cmpR op_eq (pv 1) pe_str (nomark _)) (pe_lst (pa_cons (pe_ix ix_tup (pv 0) (pe_un un_neg pe_int) (fun _ _ => rfl)) pa_nil)) (pe_lst pa_nil))))), ?_⟩
  obtain ⟨a, nm, rest, rfl, ea⟩ := hs.tag
  obtain ⟨kinds, kv, prs, S⟩ := hs.shapeX (i := 0) (M := 0) ho ea
  obtain ⟨t, kd, qt⟩ := hS _ S.mem
  obtain ⟨kl, hl, hk⟩ := S.k1
  refine ⟨_, rfl, a, _, 0, .str nm, rfl, rfl, SqT.of ea, at0, aS, nm, .ref t, rfl, rfl, kd, 1, rfl, t, _, -1, .str kl, rfl, rfl, qt _, hl, ?_⟩
  have S_at := S.at_
  rcases hk with ⟨e, b, e1, eb⟩ | ⟨e, u, e1, ek⟩ | ⟨n1, n2, ek⟩
  · refine seq_if (b := true) (is_word rfl (by rw [e]; decide +kernel)) (fun _ => ?_) (fun z => nomatch z)
    exact ⟨_, rfl, 1, rfl, a, _, -1, .ref b, rfl, rfl, SqT.of ea, e1, b, kv, rfl, .inr (SqT.of eb), fun l hl' => q l kv hl' S_at⟩
  · refine seq_if (b := false) (is_word rfl (by rw [e]; decide +kernel)) (fun z => nomatch z) (fun _ => ?_)
    refine is_word (b := true) rfl (by rw [e]; decide +kernel) _ (iteT ?_)
    exact ⟨_, rfl, 1, rfl, a, _, -1, u, rfl, rfl, SqT.of ea, e1, szN (by show 1 ≤ 1000; decide), fun l hl' => q l _ hl' (by rw [← ek]; exact S_at)⟩
  · refine seq_if (b := false) (is_word rfl (beq_eq_false_iff_ne.mpr n1)) (fun z => nomatch z) (fun _ => ?_)
    refine is_word (b := false) rfl (beq_eq_false_iff_ne.mpr n2) _ (iteF ?_)
    exact ⟨Nat.zero_le _, fun l hl' => q l _ hl' (by rw [← ek]; exact S_at)⟩
end
end MS
end
section
set_option maxRecDepth 100000
set_option maxHeartbeats 4000000
namespace MS
open PySem L2
open HeY XTup
/-! ### the error with two values -/
abbrev s_Paper_init : Stmt := inClass (topS 2) 0
abbrev dPaper : InD := ⟨"BadPaper", "BadPaper.__init__", defArgs s_Paper_init, defBody s_Paper_init, defScope s_Paper_init⟩
def RaisedP (C : Addr) (n : Nat) (wh : List Nat) (H : Hp) (E : XK) : Prop := ∀ (d q : Addr) (H' : Hp), H d = none → Same H H' → H' d = some (.xd [("place", .ref q), ("scheme", .int ((n : Nat) : Int))]) → H' q = some (.tup (natV wh)) → E (.ref C) (some d) H'
theorem RaisedP.from {C : Addr} {n : Nat} {wh : List Nat} {H H1 : Hp} {E : XK} (h : RaisedP C n wh H E) (s : Same H H1) : RaisedP C n wh H1 E := fun d q H' hd s' e e2 => h d q H' (s.free hd) (Same.trans s s') e e2
def spInit2 (C : Addr) : Sp := fun vs H Q _ => ∃ (a q : Addr) (n : Nat) (wh : List Nat), vs = [.ref a, .int ((n : Nat) : Int), .ref q] ∧ n < 1900 ∧ H a = some (exo a C none) ∧ H q = some (.tup (natV wh)) ∧ wh.length ≤ 100 ∧ (∀ x ∈ wh, x < 1000) ∧
  ∀ dx, H dx = none → dx ≠ a → Q .non (upd (upd (upd H dx (exd dx [("scheme", .int ((n : Nat) : Int))])) a (exo a C (some dx))) dx (exd dx [("place", .ref q), ("scheme", .int ((n : Nat) : Int))]))
structure Rsr2 (P : Program) (w : World) (K : PySem.W.Frag) (mg : Str → Option Value) (base : Heap) where
  C : Addr
  f : Addr
  fd : FuncData
  T : OexC K C
  init : PySem.W.findIn K (.ref C) "__init__" = some (some (.ref f))
  ty : PySem.W.typeIn K (.ref f) = some (.type "function")
  ok : FnOk P w K mg base CX0 1 f fd ["self", "scheme", "place"] (spInit2 C)
  b : Binds K fd ["self", "scheme", "place"] []
  g : mg "BadPaper" = some (.ref C)
theorem pmk_r2 {X : Cx} {e e' : Expr} {te te' : TE} {p pos : Pos} (R : Rsr2 X.prog X.w X.K X.mg X.base) (hr : Room 2 X.A) (he : PE X e te) (he' : PE X e' te') (hg : Gl X "BadPaper" := by rfl)
    (h0 : starEach [e'] X.env = (false, eval e' X.env) :: starEach [] X.env := by rfl) (h1 : starEach [e, e'] X.env = (false, eval e X.env) :: starEach [e'] X.env := by rfl) (h2 : (backTo pos (starEach [e'] X.env)).any (·.1) = false := by rfl) : PMk X (.Call (.Name "BadPaper" p) [e, e'] [] pos) (tMkO R.C (spInit2 R.C) [] (tCons te (tCons te' tNil))) :=
  pmk_oex R.T R.init R.ty R.ok hr R.b .nil pass0 hg R.g (pa_cons he (pa_cons he' pa_nil (hs := h0)) (hs := h1)) (by decide) h1 h2
theorem raised2_of {C q : Addr} {n : Nat} {wh : List Nat} {H1 : Hp} {Q : XK} (h1 : n < 1900) (hq : H1 q = some (.tup (natV wh))) (hl : wh.length ≤ 100) (hw : ∀ x ∈ wh, x < 1000)
    (h : ∀ (d : Addr) (H' : Hp), H1 d = none → Same H1 H' → H' d = some (.xd [("place", .ref q), ("scheme", .int ((n : Nat) : Int))]) → Q (.ref C) (some d) H') : [V.int ((n : Nat) : Int), .ref q].length ≤ 1000 ∧ ∀ a, H1 a = none → spInit2 C (.ref a :: ([.int ((n : Nat) : Int), .ref q] ++ [])) (upd H1 a (exo a C none))
    (fun v H2 => v = .non ∧ ∃ (d : Addr) (fs : List (Str × V)), H2 a = some (exo a C (some d)) ∧ H2 d = some (exd d fs) ∧ H1 d = none ∧ Q (.ref C) (some d) (upd (L2.del H2 a) d (.xd fs))) (fun _ _ _ => False) := by
  refine ⟨by show 2 ≤ 1000; decide, fun a ha => ⟨a, q, n, wh, rfl, h1, upd_same, by rw [upd_ne (ne_of_none hq ha)]; exact hq, hl, hw, fun dx hdx hne => ⟨rfl, dx, [("place", .ref q), ("scheme", .int ((n : Nat) : Int))], by rw [upd_ne hne.symm]; exact upd_same, upd_same, ?_, ?_⟩⟩⟩
  · rw [upd_ne hne] at hdx
    exact hdx
  · rw [upd_ne hne] at hdx
    refine h dx _ hdx (fun b o e => ?_) upd_same
    have n1 : b ≠ a := ne_of_none e ha
    have n2 : b ≠ dx := ne_of_none e hdx
    rw [upd_ne n2, L2.del_ne n1, upd_ne n2, upd_ne n1, upd_ne n2, upd_ne n1]
    exact e
/-- raise BadPaper(e, e') -/
theorem ps_rs2 {X : Cx} {e e' : Expr} {te te' : TE} {p pos pos' : Pos} {W : WX} (R : Rsr2 X.prog X.w X.K X.mg X.base) (hc : X.calm = true) (tk : L2.Takes X W) (hr : Room 2 X.A) (he : PE X e te) (he' : PE X e' te') (hg : Gl X "BadPaper" := by rfl)
    (h0 : starEach [e'] X.env = (false, eval e' X.env) :: starEach [] X.env := by rfl) (h1 : starEach [e, e'] X.env = (false, eval e X.env) :: starEach [e'] X.env := by rfl) (h2 : (backTo pos (starEach [e'] X.env)).any (·.1) = false := by rfl) :
    PS X (.Raise (some (.Call (.Name "BadPaper" p) [e, e'] [] pos)) none pos') (fun _ σ H => tMkO R.C (spInit2 R.C) [] (tCons te (tCons te' tNil)) σ H fun cls d H' => W cls d σ H') :=
  L2.ps_raise hc tk (pmk_r2 R hr he he' hg h0 h1 h2)
theorem natV_ints2 (wh : List Nat) : natV wh = (wh.map fun n => ((n : Nat) : Int)).map V.int := by
  unfold natV
  rw [List.map_map]
  rfl
section
variable {P : Program} {w : World} {K : PySem.W.Frag} {mg : Str → Option Value} {base : Heap}
theorem init_paper (Y : SupX P K dPaper) (hP : (P.main.scope.names.lookup ("super" : Str)).isSome = false) (msu : mg "super" = none) (hno1 : PySem.W.findIn K (.ref (He.ga K "BadPaper")) "scheme" = some none) (hno2 : PySem.W.findIn K (.ref (He.ga K "BadPaper")) "place" = some none) {fd : FuncData} (hfd : ∃ oc od osl, K.lookup (He.ma K (He.ga K "BadPaper") "__init__") = some ⟨oc, od, .func fd, osl⟩) :
    FnOk P w K mg base CX0 1 (He.ma K (He.ga K "BadPaper") "__init__") fd ["self", "scheme", "place"] (spInit2 (He.ga K "BadPaper")) := by
  refine XSU.fn_super (N := ["self", "scheme", "place", "__class__"]) (k := 0) Y.c rfl hfd (NdefX.nscope_by (by decide +kernel)) rfl rfl msu rfl hP (fun vs H Q E h => ?_) (fun env => rfl) (fun env => rfl) (fun A outer s H vs Q E hr h => ?_)
  · obtain ⟨a, q0, n, wh, rfl, _⟩ := h
    rfl
  obtain ⟨a, q0, n, wh, rfl, h1, ea, eq0, hl, hw, q⟩ := h
  obtain ⟨t1, t2⟩ := small_text (n := ((n : Nat) : Int)) (by omega) (by omega)
  refine ⟨a, [.int ((n : Nat) : Int), .ref q0], _, _, rfl, pe_joined (.cons pe_str (.cons (pe_fmt (pv 1)) (.cons pe_str (.cons (pe_fmtI hr (pv 2)) .nil)))), pss_cons (ps_ost (pv 0) (pv 1)) (pss_one (ps_ost (pv 0) (pv 2))), ea, ?_⟩
  have e0 : (Str.empty ++ ("no paper: scheme " : Str)).length = 17 := by decide +kernel
  have e1 : ∀ (x y : Str), (x ++ y).length = x.length + y.length := fun x y => Str.length_append _ _
  have e2 : (", place " : Str).length = 8 := by decide +kernel
  refine ⟨_, rfl, by decide +kernel, _, rfl, .inr ⟨_, rfl, t1, _, rfl, ?_, _, rfl, ?_, _, rfl, q0, wh.map fun n => ((n : Nat) : Int), rfl, ?_, ?_, by rw [List.length_map]; omega, fun m hm => ⟨_, rfl, ?_, ea, ?_⟩⟩⟩
  · exact szN (by rw [e1, e0]; omega)
  · exact szN (by rw [e1, e1, e0, e2]; omega)
  · rw [← natV_ints2]
    exact SqT.of eq0
  · intro i hi
    obtain ⟨x, hx, rfl⟩ := List.mem_map.mp hi
    have := hw x hx
    have e : (10 : Nat) ^ 4 = 10000 := by decide
    omega
  · rw [List.length_map] at hm
    exact szN (by rw [e1, e1, e1, e0, e2]; omega)
  · refine ⟨_, rfl, _, rfl, a, _, rfl, Y.c.T, hno1, .inl ⟨ea, fun dx hdx hne => ⟨_, rfl, _, rfl, a, _, rfl, Y.c.T, hno2, .inr ⟨dx, _, upd_same, by rw [upd_ne hne]; exact upd_same, by show 1 ≤ 900; decide, q dx hdx hne⟩⟩⟩⟩
end
end MS
end
section
set_option maxRecDepth 100000
set_option maxHeartbeats 4000000
namespace MS
open PySem L2
/-! ### the first bad place, pure -/
def fbW (i M : Nat) : Nat → List (List Nat × Sch) → Option (List Nat)
  | _, [] => none
  | 0, x :: _ => some x.1
  | n + 1, x :: L => if x.1.length ≤ 4 ∧ okOwn i M x.2 = true then fbW i M n (waitsOf x.1 0 (kidsOf x.2) ++ L) else some x.1
theorem fbW_nil (i M n : Nat) : fbW i M n [] = none := by cases n <;> rfl
theorem fbW_zero (i M : Nat) (x : List Nat × Sch) (L : List (List Nat × Sch)) : fbW i M 0 (x :: L) = some x.1 := rfl
theorem fbW_succ (i M n : Nat) (x : List Nat × Sch) (L : List (List Nat × Sch)) : fbW i M (n + 1) (x :: L) = if x.1.length ≤ 4 ∧ okOwn i M x.2 = true then fbW i M n (waitsOf x.1 0 (kidsOf x.2) ++ L) else some x.1 := rfl
theorem waits_cons (wh : List Nat) (n : Nat) (s : Sch) (r : List Sch) : waitsOf wh n (s :: r) = (wh ++ [n], s) :: waitsOf wh (n + 1) r := by
  unfold waitsOf
  rw [List.zipIdx_cons, List.map_cons]
theorem waits_map {β : Type} (f : Nat → Sch → β) (wh : List Nat) : ∀ (ks : List Sch) (n : Nat), (waitsOf wh n ks).map (fun x => f x.1.length x.2) = ks.map (f (wh.length + 1))
  | [], _ => rfl
  | s :: r, n => by
    rw [waits_cons, List.map_cons, waits_map f wh r (n + 1), List.map_cons]
    show f (wh ++ [n]).length s :: _ = _
    rw [List.length_append, List.length_singleton]
theorem waits_mem {wh : List Nat} : ∀ {ks : List Sch} {n : Nat} {y : List Nat × Sch}, y ∈ waitsOf wh n ks → y.1.length = wh.length + 1 ∧ y.2 ∈ ks
  | [], _, _, h => nomatch h
  | s :: r, n, y, h => by
    rw [waits_cons] at h
    rcases List.mem_cons.mp h with rfl | h
    · exact ⟨by rw [List.length_append, List.length_singleton], List.mem_cons_self⟩
    · obtain ⟨h1, h2⟩ := waits_mem h
      exact ⟨h1, List.mem_cons_of_mem _ h2⟩
theorem waits_of {wh : List Nat} : ∀ {ks : List Sch} {n : Nat} {s : Sch}, s ∈ ks → ∃ y ∈ waitsOf wh n ks, y.1.length = wh.length + 1 ∧ y.2 = s
  | [], _, _, h => nomatch h
  | s0 :: r, n, s, h => by
    rw [waits_cons]
    rcases List.mem_cons.mp h with rfl | h
    · exact ⟨_, List.mem_cons_self, by rw [List.length_append, List.length_singleton], rfl⟩
    · obtain ⟨y, h1, h2, h3⟩ := waits_of (n := n + 1) h
      exact ⟨y, List.mem_cons_of_mem _ h1, h2, h3⟩
theorem waits_len (wh : List Nat) (n : Nat) (ks : List Sch) : (waitsOf wh n ks).length = ks.length := by
  unfold waitsOf
  rw [List.length_map, List.length_zipIdx]
theorem ok_up {i M d d0 : Nat} {s : Sch} (f : Frm (d0 + 1) s) (o : okOwn i M s = true) (k : ∀ x ∈ kidsOf s, OkS i M d x) : OkS i M (d + 1) s := by
  cases s with
  | step w p => exact ⟨f.1, (of_decide_eq_true o).1, (of_decide_eq_true o).2⟩
  | all l => exact ⟨(of_decide_eq_true o).1, (of_decide_eq_true o).2, k⟩
  | best l => exact ⟨(of_decide_eq_true o).1, (of_decide_eq_true o).2, k⟩
  | most n s => exact ⟨of_decide_eq_true o, k s List.mem_cons_self⟩
  | half s => exact k s List.mem_cons_self
  | seen w s => exact ⟨f.1, k s List.mem_cons_self⟩
  | behind w s => exact ⟨f.1, k s List.mem_cons_self⟩
  | carry s => exact k s List.mem_cons_self
  | fin w p s => exact ⟨⟨f.1.1, (of_decide_eq_true o).1, (of_decide_eq_true o).2⟩, k s List.mem_cons_self⟩
  | use n => exact (of_decide_eq_true o : i < n ∧ n < M)
theorem fb_ok {i M : Nat} : ∀ (n : Nat) (L : List (List Nat × Sch)), (∀ x ∈ L, ∃ d, Frm d x.2) → fbW i M n L = none → (∀ x ∈ L, OkS i M (5 - x.1.length) x.2) ∧ (L.map fun x => sz (5 - x.1.length) x.2).sum ≤ (n : Int)
  | n, [], _, _ => ⟨(fun _ h => nomatch h), by show (0 : Int) ≤ _; omega⟩
  | 0, _ :: _, _, h => by cases h
  | n + 1, x :: L, f, h => by
    rw [fbW_succ] at h
    by_cases c : x.1.length ≤ 4 ∧ okOwn i M x.2 = true
    · rw [if_pos c] at h
      obtain ⟨d0, fx⟩ := f x List.mem_cons_self
      cases d0 with
      | zero => cases fx
      | succ d0 =>
        have fk := frm_kids fx
        obtain ⟨ih1, ih2⟩ := fb_ok n _ (fun y hy => by
          rcases List.mem_append.mp hy with hy | hy
          · exact ⟨d0, fk _ (waits_mem hy).2⟩
          · exact f y (List.mem_cons_of_mem _ hy)) h
        obtain ⟨d, hd⟩ : ∃ d, 5 - x.1.length = d + 1 := ⟨4 - x.1.length, by omega⟩
        have hd1 : 5 - (x.1.length + 1) = d := by omega
        have ok1 : OkS i M (5 - x.1.length) x.2 := by
          rw [hd]
          refine ok_up fx c.2 fun s hs => ?_
          obtain ⟨y, hy, e1, e2⟩ := waits_of (wh := x.1) (n := 0) hs
          have := ih1 y (List.mem_append.mpr (.inl hy))
          rw [e1, e2, hd1] at this
          exact this
        refine ⟨fun y hy => ?_, ?_⟩
        · rcases List.mem_cons.mp hy with rfl | hy
          · exact ok1
          · exact ih1 y (List.mem_append.mpr (.inr hy))
        · rw [List.map_append, List.sum_append, waits_map (fun k s => sz (5 - k) s), hd1] at ih2
          rw [List.map_cons, List.sum_cons, hd, sz_kids]
          have ih3 : ((kidsOf x.2).map (sz d)).sum + (L.map fun x => sz (5 - x.1.length) x.2).sum ≤ (n : Int) := ih2
          omega
    · rw [if_neg c] at h
      cases h
/-- a whole scheme -/
theorem fb_one {i M d : Nat} {s : Sch} (f : Frm d s) (h : fbW i M 12 [([], s)] = none) : OkS i M 5 s ∧ sz 5 s ≤ 12 := by
  obtain ⟨h1, h2⟩ := fb_ok 12 [([], s)] (fun x hx => by rw [List.mem_singleton.mp hx]; exact ⟨d, f⟩) h
  refine ⟨h1 _ List.mem_cons_self, ?_⟩
  have h3 : sz 5 s + 0 ≤ 12 := h2
  omega
theorem at_okL {H : Hp} {i M d' d : Nat} (ih : ∀ (s : Sch) (v : V), OkS i M d' s → SAt H d s v → SAt H d' s v) : ∀ {k : List Sch} {vs : List V}, (∀ s ∈ k, OkS i M d' s) → Paired (SAt H d) k vs → Paired (SAt H d') k vs
  | _, _, _, .nil => .nil
  | _, _, o, .cons r t => .cons (ih _ _ (o _ List.mem_cons_self) r) (at_okL ih (fun s hs => o s (List.mem_cons_of_mem _ hs)) t)
/-- levels: what stands at some depth and can be at d stands at d -/
theorem at_ok {H : Hp} {i M : Nat} : ∀ (d' d : Nat) (s : Sch) (v : V), OkS i M d' s → SAt H d s v → SAt H d' s v
  | 0, _, _, _, o, _ => by cases o
  | _ + 1, 0, _, _, _, h => by cases h
  | d' + 1, d + 1, .step _ _, v, _, h => h
  | d' + 1, d + 1, .use _, v, _, h => h
  | d' + 1, d + 1, .all k, v, o, ⟨a, b, vs, e, h1, h2, h3⟩ => ⟨a, b, vs, e, h1, h2, at_okL (at_ok d' d) o.2.2 h3⟩
  | d' + 1, d + 1, .best k, v, o, ⟨a, b, vs, e, h1, h2, h3⟩ => ⟨a, b, vs, e, h1, h2, at_okL (at_ok d' d) o.2.2 h3⟩
  | d' + 1, d + 1, .most n s, v, o, ⟨a, u, e, h1, h2⟩ => ⟨a, u, e, h1, at_ok d' d s u o.2 h2⟩
  | d' + 1, d + 1, .half s, v, o, ⟨a, u, e, h1, h2⟩ => ⟨a, u, e, h1, at_ok d' d s u o h2⟩
  | d' + 1, d + 1, .seen w s, v, o, ⟨a, u, e, h1, h2⟩ => ⟨a, u, e, h1, at_ok d' d s u o.2 h2⟩
  | d' + 1, d + 1, .behind w s, v, o, ⟨a, u, e, h1, h2⟩ => ⟨a, u, e, h1, at_ok d' d s u o.2 h2⟩
  | d' + 1, d + 1, .carry s, v, o, ⟨a, u, e, h1, h2⟩ => ⟨a, u, e, h1, at_ok d' d s u o h2⟩
  | d' + 1, d + 1, .fin w p s, v, o, ⟨a, u, e, h1, h2⟩ => ⟨a, u, e, h1, at_ok d' d s u o.2 h2⟩
/-! ### counts, pure -/
def tot (E : Bool) (c : Nat → Int) (s : Sch) : Int := match E with
  | true => er c 5 s
  | false => wr c 5 s
theorem tot_congr {E : Bool} {j M : Nat} {c c' : Nat → Int} {s : Sch} (hc : ∀ n, j < n → c n = c' n) (o : OkS j M 5 s) : tot E c s = tot E c' s := by
  cases E
  · exact wr_congr (fun n h1 _ => hc n h1) 5 s o
  · exact er_congr (fun n h1 _ => hc n h1) 5 s o
def cnts (E : Bool) : Nat → List Sch → Nat → Int
  | _, [], _ => 0
  | i, s :: r, n => if n = i then tot E (cnts E (i + 1) r) s else cnts E (i + 1) r n
theorem cnts_eq {E : Bool} {M : Nat} : ∀ {ps : List Sch} {i j : Nat} {s : Sch}, (∀ (j : Nat) (s : Sch), ps[j]? = some s → OkS (i + j) M 5 s) → ps[j]? = some s → cnts E i ps (i + j) = tot E (cnts E i ps) s
  | [], _, _, _, _, h => by simp at h
  | s0 :: r, i, 0, s, o, h => by
    have h : some s0 = some s := h
    obtain rfl := Option.some.inj h
    have ok0 := o 0 s0 rfl
    show (if i + 0 = i then tot E (cnts E (i + 1) r) s0 else _) = _
    rw [if_pos (Nat.add_zero i)]
    refine tot_congr (fun n hn => ?_) ok0
    show _ = if n = i then _ else _
    rw [if_neg (by omega)]
  | s0 :: r, i, j + 1, s, o, h => by
    have h : r[j]? = some s := h
    have ok1 : OkS (i + (j + 1)) M 5 s := o (j + 1) s h
    have ih := cnts_eq (E := E) (M := M) (ps := r) (i := i + 1) (j := j) (s := s) (fun j s hs => by
      have := o (j + 1) s hs
      rw [show i + (j + 1) = i + 1 + j by omega] at this
      exact this) h
    show (if i + (j + 1) = i then _ else cnts E (i + 1) r (i + (j + 1))) = _
    rw [if_neg (by omega), show i + (j + 1) = i + 1 + j by omega, ih]
    rw [show i + (j + 1) = i + 1 + j by omega] at ok1
    refine tot_congr (fun n hn => ?_) ok1
    show _ = if n = i then _ else _
    rw [if_neg (by omega)]
/-- the first bad place of a paper's schemes -/
def fbL (M : Nat) : Nat → List Sch → Option (Nat × List Nat)
  | _, [] => none
  | i, s :: r => if i = 5 then some (5, []) else match fbW i M 12 [([], s)] with
    | some p => some (i, p)
    | none => fbL M (i + 1) r
/-- what is wrong with a paper -/
def badP (ps : List Sch) : Option (Nat × List Nat) := match fbL ps.length 0 ps with
  | some x => some x
  | none => if 7 < cnts true 0 ps 0 ∨ 3 < cnts false 0 ps 0 then some (ps.length, []) else none
end MS
end
section
set_option maxRecDepth 100000
set_option maxHeartbeats 4000000
namespace MS
open PySem L2
open HeY
/-! ### schemes_in, check_paper of any schemes that a text can tell -/
theorem fn_anyX {P : Program} {w : World} {K : PySem.W.Frag} {mg : Str → Option Value} {base : Heap} {CX : CXT} {ι : Type} {sp : ι → Sp} {k : Nat} {f : Addr} {fd : FuncData} {ps : List Str} (G : ∀ i, FnOk P w K mg base CX k f fd ps (sp i)) : FnOk P w K mg base CX k f fd ps (fun vs H Q E => ∃ i, sp i vs H Q E) :=
  ⟨fun vs H Q E ⟨i, h⟩ => (G i).1 vs H Q E h, fun A outer s H args us vs Q E a1 a2 a3 a4 ⟨i, h⟩ => (G i).2 A outer s H args us vs Q E a1 a2 a3 a4 h⟩
/-- a scheme that a text told stands -/
def FrmR (H : Hp) (s : Sch) (v : V) : Prop := ∃ d, SAt H (d + 1) s v ∧ Frm (d + 1) s
theorem FrmR.keep {H H' : Hp} {s : Sch} {v : V} (h : FrmR H s v) (k : TupK H H') : FrmR H' s v := by
  obtain ⟨d, h1, h2⟩ := h
  exact ⟨d, SAt.keep k _ _ _ h1, h2⟩
def WaitX (H : Hp) (x : List Nat × Sch) (v : V) : Prop := ∃ b q u, v = V.ref b ∧ H b = some (.tup [.ref q, u]) ∧ H q = some (.tup (natV x.1)) ∧ x.1.length ≤ 5 ∧ (∀ n ∈ x.1, n < 1000) ∧ FrmR H x.2 u
theorem WaitX.keep {H H' : Hp} {x : List Nat × Sch} {v : V} (h : WaitX H x v) (k : TupK H H') : WaitX H' x v := by
  obtain ⟨b, q, u, e, h1, h2, h3, h4, h5⟩ := h
  exact ⟨b, q, u, e, k _ _ h1, k _ _ h2, h3, h4, h5.keep k⟩
theorem waits_atX {H : Hp} {d : Nat} {wh : List Nat} (hw : wh.length ≤ 4) (hn : ∀ n ∈ wh, n < 1000) : ∀ {ks : List Sch} {kv : List V} (n : Nat), n + ks.length ≤ 1000 → Paired (SAt H d) ks kv → (∀ s ∈ ks, Frm d s) → ∀ {pv : List V}, Paired (PlR H) ((kv.zipIdx n).map fun p => (wh ++ [p.2], p.1)) pv → Paired (WaitX H) (waitsOf wh n ks) pv
  | _, _, n, _, .nil, _, _, .nil => .nil
  | s :: ks, v :: kv, n, hk, .cons h t, ok, pv, hp => by
    rw [List.zipIdx_cons, List.map_cons] at hp
    rw [List.length_cons] at hk
    cases hp with
    | @cons _ p0 _ pr h0 hr =>
      obtain ⟨b, q, e, h1, h2⟩ := h0
      have o := ok s List.mem_cons_self
      rw [waits_cons]
      refine .cons ⟨b, q, v, e, h1, h2, ?_, ?_, ?_⟩ (waits_atX hw hn (n + 1) (by omega) t (fun s hs => ok s (List.mem_cons_of_mem _ hs)) hr)
      · show (wh ++ [n]).length ≤ 5
        rw [List.length_append, List.length_singleton]
        omega
      · intro m hm
        rcases List.mem_append.mp hm with hm | hm
        · exact hn m hm
        · rw [List.mem_singleton.mp hm]
          omega
      · cases d with
        | zero => cases o
        | succ d => exact ⟨d, h, o⟩
theorem pre_ok {i M : Nat} : ∀ (d : Nat) (s : Sch), OkS i M d s → ∀ x ∈ pre d s, ∃ d', OkS i M (d' + 1) x
  | 0, _, o => by cases o
  | d + 1, s, o => by
    intro x hx
    rw [pre_succ] at hx
    rcases List.mem_cons.mp hx with rfl | hx
    · exact ⟨d, o⟩
    · obtain ⟨l, hl, hx⟩ := List.mem_flatten.mp hx
      obtain ⟨k, hk, rfl⟩ := List.mem_map.mp hl
      exact pre_ok d k (ok_kids o k hk) x hx
theorem found_of {H : Hp} {i M : Nat} : ∀ {xs : List Sch} {vs : List V}, Paired (FrmR H) xs vs → (∀ x ∈ xs, ∃ d', OkS i M (d' + 1) x) → Paired (FoundR H i M) xs vs
  | _, _, .nil, _ => .nil
  | _, _, .cons h t, o => by
    obtain ⟨d', o1⟩ := o _ List.mem_cons_self
    obtain ⟨d, h1, h2⟩ := h
    exact .cons ⟨d', at_ok _ _ _ _ o1 h1, o1⟩ (found_of t fun x hx => o x (List.mem_cons_of_mem _ hx))
def SInX (i M : Nat) (s : Sch) (pa f : Addr) (H : Hp) (m : Nat) (σ : St) (H' : Hp) : Prop :=
  ∃ (wl : Addr) (done : List Sch) (L : List (List Nat × Sch)) (fv wv : List V) (v4 v5 : Option V), σ = [some (.ref pa), some (.int ((i : Nat) : Int)), some (.ref f), some (.ref wl), v4, v5] ∧ H' f = some (.lst fv) ∧ H' wl = some (.lst wv) ∧ wl ≠ f ∧
    Paired (FrmR H') done fv ∧ Paired (WaitX H') L wv ∧ done ++ restOf L = pre 5 s ∧ fbW i M (12 - done.length) L = fbW i M 12 [([], s)] ∧ done.length ≤ 12 ∧ L.length ≤ 1 + 4 * done.length ∧ m = 12 - done.length ∧ Same H H'
def spSchemesX (C : Addr) (ps : List Sch) (i : Nat) : Sp := fun vs H Q E => ∃ (pa : Addr) (pv : List V) (s : Sch), vs = [.ref pa, .int ((i : Nat) : Int)] ∧ H pa = some (.tup pv) ∧ Paired (FrmR H) ps pv ∧ ps[i]? = some s ∧ i < 1900 ∧ ps.length ≤ 1900 ∧
  (∀ wh, fbW i ps.length 12 [([], s)] = some wh → RaisedP C i wh H E) ∧
  (fbW i ps.length 12 [([], s)] = none → ∀ (f : Addr) (fv : List V) (H' : Hp), Same H H' → H f = none → H' f = some (.lst fv) → Paired (FoundR H' i ps.length) (pre 5 s) fv → Q (.ref f) H')
section
variable {P : Program} {w : World} {K : PySem.W.Frag} {mg : Str → Option Value} {base : Heap}
theorem ok_schemes_inX {ps : List Sch} {i : Nat} (T : PTx w K mg) (RP : Rsr2 P w K mg base) (D : Def K mg "schemes_in" s_schemes_in ["paper", "number"]) (DB : Def K mg "can_be" s_can_be ["thing", "number", "many"]) (DF : Def K mg "fits" s_fits psFits) (DN : Def K mg "is_number" s_is_number ["thing"])
    (DI : Def K mg "within" s_within ["scheme"]) (DP : Def K mg "placed" s_placed ["schemes", "place"]) : FnOk P w K mg base (L2.CX P w) 4 D.f D.fd ["paper", "number"] (spSchemesX RP.C ps i) := by
  have GB : FnOk P w K mg base CX0 3 DB.f DB.fd ["thing", "number", "many"] (spCanBeX i ps.length) := ok_can_beX T DB DF DN
  have GI : FnOk P w K mg base CX0 1 DI.f DI.fd ["scheme"] spWithinX := ok_withinX T DI
  have GP : FnOk P w K mg base CX0 1 DP.f DP.fd ["schemes", "place"] spPlaced := ok_placed T DP
  obtain ⟨tS, gS⟩ := T.mostInScheme
  obtain ⟨tL, gL⟩ := T.longest
  have nd := sc_schemes_in.nd
  refine D.okX sc_schemes_in (fun vs H Q E h => ?_) (fun cdv A outer s H vs Q E hr h => ?_)
  · obtain ⟨pa, pv, s, rfl, _⟩ := h
    rfl
  obtain ⟨pa, pv0, sc, rfl, epv, pp, es, hi9, hM9, q1, q2⟩ := h
  have hr1 : Room 1 _ := hr.mono (by decide)
  have hr2 : Room 2 _ := hr.mono (by decide)
  have tk : L2.Takes (cxOf (L2.CX P w) P w K mg base ["paper", "number", "found", "waiting", "place", "scheme"] "schemes_in" (defScope s_schemes_in) D.f cdv A outer s H E) (fun cls d _ H' => E cls d H') := L2.takes_of rfl rfl rfl rfl
  refine ⟨_, pss_cons (ps_set (i := 2) nd rfl (Or.inl rfl) (pe_lst pa_nil))
    (pss_cons (ps_set (i := 3) nd rfl (Or.inl rfl) (pe_lst (pa_cons (pe_tup (pa_cons (pe_tup pa_nil) (pa_cons (pe_ix ix_tup (pv 0) (pv 1) (fun _ _ => rfl)) pa_nil))) pa_nil)))
    (pss_cons (ps_while (L2.passes_of rfl) (pt_truth (pv 3) (by intro _; rfl))
      (pss_cons (ps_asg (pe_ix ix_list (pv 3) pe_int (fun _ _ => rfl)) (pg_tup (by rfl) (pgs_cons (pg_name (i := 4) nd rfl (Or.inl rfl)) (pgs_cons (pg_name (i := 5) nd rfl (Or.inl rfl)) pgs_nil))))
      (pss_cons (ps_if (PW.pt (pw_or (pt_cmpR op_eq (pe_callB call_len_seq rfl (T.free "len" (by decide +kernel)) PySem.boot_len (pa_cons (pv 2) pa_nil)) (pe_glob rfl gS (v := .int 12) ⟨_, rfl⟩) (nomark _)) (pw_or1 (pt_cmpR op_gt (pe_callB call_len_seq rfl (T.free "len" (by decide +kernel)) PySem.boot_len (pa_cons (pv 4) pa_nil)) (pe_glob rfl gL (v := .int 4) ⟨_, rfl⟩) (nomark _))))) (pss_one (ps_rs2 RP rfl tk hr2 (pv 1) (pv 4))) pss_nil)
      (pss_cons (ps_if (pt_not (pt_val (pcall DB GB hr (pa_cons (pv 5) (pa_cons (pv 1) (pa_cons (pe_callB call_len_seq rfl (T.free "len" (by decide +kernel)) PySem.boot_len (pa_cons (pv 0) pa_nil)) pa_nil)))))) (pss_one (ps_rs2 RP rfl tk hr2 (pv 1) (pv 4))) pss_nil)
      (pss_cons (ps_expr (pe_bm PySem.F.plainAttrs_list PySem.F.slot_list_append PySem.F.type_list_append mt_append (pv 2) (pa_cons (pv 5) pa_nil)))
      (pss_one (ps_set (i := 3) nd rfl (Or.inl rfl) (pe_op op_cat (pcall DP GP hr1 (pa_cons (pcall DI GI hr1 (pa_cons (pv 5) pa_nil)) (pa_cons (pv 4) pa_nil))) (pe_slice sl_list (pv 3) (po_some pe_int) po_none)))))))))
    (pss_one (ps_ret (pv 2))))), ?_⟩
  have hM := Paired.length pp
  obtain ⟨v0, ev0, hs0⟩ := paired_get2 pp es
  refine ⟨Nat.zero_le _, fun f hf => ?_⟩
  have s1 : Same H (upd H f (.lst [])) := Same.new hf
  dsimp only [gName]
  refine ⟨Nat.zero_le _, fun t0 ht0 => ?_⟩
  have s2 := s1.trans (Same.new (o := .tup []) ht0)
  refine ⟨_, rfl, _, rfl, pa, _, _, v0, rfl, rfl, SqT.of (s2 _ _ epv), atI_nat ev0, sz2, fun t1 ht1 => ?_⟩
  have s3 := s2.trans (Same.new (o := .tup [.ref t0, v0]) ht1)
  refine ⟨szN (by show 1 ≤ 1000; decide), fun wl hwl => ?_⟩
  have s4 := s3.trans (Same.new (o := .lst [.ref t1]) hwl)
  dsimp only [gName]
  have b1 := Same.new (o := .lst [V.ref t1]) hwl
  have b2 := (Same.new (o := .tup [.ref t0, v0]) ht1).trans b1
  have b3 := (Same.new (o := .tup []) ht0).trans b2
  have R0 : restOf [(([] : List Nat), sc)] = pre 5 sc := by show pre 5 sc ++ [] = _; rw [List.append_nil]
  have nwf : wl ≠ f := fun z => by
    have := b3 _ _ (upd_same : upd H f (.lst []) f = _)
    rw [← z] at this
    rw [upd_same] at this
    cases this
  refine ⟨fun m σ H' => SInX i ps.length sc pa f H m σ H', ⟨12, wl, [], [([], sc)], [], [.ref t1], none, none, rfl, b3 _ _ upd_same, upd_same, nwf, .nil, .cons ⟨t1, t0, v0, rfl, b1 _ _ upd_same, b2 _ _ upd_same, by show 0 ≤ 5; decide, (fun _ h => nomatch h), hs0.keep (Same.tupK s4)⟩ .nil, R0, rfl, by show 0 ≤ 12; decide, by show 1 ≤ 1; decide, rfl, s4⟩, ?_⟩
  rintro m σ H1 ⟨wl1, done, L, fv, wv, v4, v5, rfl, ef, ewl, nfw, pf, pw, eall, efb, h12, hL, em, sm⟩
  have lfv := Paired.length pf
  have lwv := Paired.length pw
  refine ⟨_, rfl, !wv.isEmpty, .inl ⟨_, SqL.of ewl, rfl⟩, ?_⟩
  cases pw with
  | nil =>
    rw [fbW_nil] at efb
    have e : done = pre 5 sc := by rw [← eall]; show done = done ++ []; rw [List.append_nil]
    obtain ⟨d0, _, f0⟩ := hs0
    have ok5 := (fb_one f0 efb.symm).1
    rw [e] at pf
    exact iteF ⟨_, rfl, q2 efb.symm f fv H1 sm hf ef (found_of pf (pre_ok 5 sc ok5))⟩
  | @cons x vb L' wr hx hrest =>
    obtain ⟨b, qa, u, rfl, eb, eqa, hx5, hxn, hfx⟩ := hx
    obtain ⟨wh, s'⟩ := x
    have hx5 : wh.length ≤ 5 := hx5
    have hxn : ∀ n ∈ wh, n < 1000 := hxn
    have hfx : FrmR H1 s' u := hfx
    have bad : fbW i ps.length 12 [([], sc)] = some wh → ∀ σ' Hx, Same H1 Hx → σ'[1]? = some (some (.int ((i : Nat) : Int))) → σ'[4]? = some (some (.ref qa)) → tMkO RP.C (spInit2 RP.C) [] (tCons (tVar 1) (tCons (tVar 4) tNil)) σ' Hx fun cls d H' => E cls d H' := fun hb σ' Hx sx h1 h4 =>
      ⟨_, h1, _, h4, raised2_of hi9 (sx _ _ eqa) (by omega) hxn fun d H' hd s' e => ((q1 _ hb).from (sm.trans sx)) d qa H' hd s' e (s' _ _ (sx _ _ eqa))⟩
    refine iteT ⟨fun σ' H' => ∃ m', m' < m ∧ SInX i ps.length sc pa f H m' σ' H', fun _ _ z => z, ?_⟩
    refine ⟨_, rfl, wl1, _, 0, .ref b, rfl, rfl, SqL.of ewl, at0, b, _, rfl, SqT.of eb, rfl, _, _, rfl, _, _, rfl, rfl, ?_⟩
    dsimp only [gName]
    refine seq_if (b := decide (done.length = 12) || decide (4 < wh.length)) (ev_or (b := decide (done.length = 12)) (c := decide (4 < wh.length)) (fun Q q => ⟨_, rfl, f, _, rfl, .inl (SqL.of ef), rfl, _, rfl, by
        rw [show decide (V.int ((fv.length : Nat) : Int) = V.int 12) = decide (done.length = 12) by
          rw [decide_eq_decide]
          exact ⟨fun z => by have z2 := V.int.inj z; omega, fun z => by rw [← lfv, z]; rfl⟩]
        exact q⟩) (fun Q q => ⟨_, rfl, qa, _, rfl, .inr (SqT.of eqa), _, _, rfl, rfl, _, rfl, by
        rw [show decide ((4 : Int) < (((natV wh).length : Nat) : Int)) = decide (4 < wh.length) by rw [decide_eq_decide, natV_len]; omega]
        exact q⟩)) (fun z => ?_) (fun z => ?_)
    · refine bad ?_ _ H1 (Same.refl _) rfl rfl
      rw [← efb]
      by_cases c : done.length = 12
      · rw [c]
        rfl
      · rw [decide_eq_false c, Bool.false_or] at z
        obtain ⟨n, hn⟩ : ∃ n, 12 - done.length = n + 1 := ⟨11 - done.length, by omega⟩
        have z := of_decide_eq_true z
        rw [hn, fbW_succ, if_neg (fun y => by have y1 : wh.length ≤ 4 := y.1; omega)]
    have zc : done.length ≠ 12 ∧ wh.length ≤ 4 := by
      rw [Bool.or_eq_false_iff] at z
      exact ⟨of_decide_eq_false z.1, by have := of_decide_eq_false z.2; omega⟩
    obtain ⟨z1, z2⟩ := zc
    obtain ⟨n, hn⟩ : ∃ n, 12 - done.length = n + 1 := ⟨11 - done.length, by omega⟩
    rw [hn, fbW_succ] at efb
    obtain ⟨d0, hsx, hox⟩ := hfx
    refine seq_new (b := !okOwn i ps.length s') (fun Q q => ⟨_, rfl, _, rfl, _, rfl, pa, _, rfl, .inr (SqT.of (sm _ _ epv)), u, s', d0, by rw [hM]; rfl, hsx, hox, fun H3 s3 => ⟨_, rfl, q H3 s3⟩⟩) (fun z H3 s3 => ?_) (fun z H3 s3 => ?_)
    · refine bad ?_ _ H3 s3 rfl rfl
      rw [← efb, if_neg (fun y => by have y2 : okOwn i ps.length s' = true := y.2; rw [y2] at z; cases z)]
    have hown : okOwn i ps.length s' = true := by
      cases hb : okOwn i ps.length s' with
      | true => rfl
      | false => rw [hb] at z; cases z
    rw [if_pos ⟨z2, hown⟩] at efb
    obtain ⟨d, hd⟩ : ∃ d, 5 - wh.length = d + 1 := ⟨4 - wh.length, by omega⟩
    have eR : restOf ((wh, s') :: L') = s' :: (((kidsOf s').map (pre d)).flatten ++ restOf L') := by
      show pre (5 - wh.length) s' ++ restOf L' = _
      rw [hd, pre_succ]
      rfl
    rw [eR] at eall
    have lkf := own_few hown
    rw [List.length_cons] at hL
    have ef3 := s3 _ _ ef
    refine ⟨_, rfl, .inl ⟨rfl, _, SqL.of ef3⟩, _, rfl, f, _, _, rfl, rfl, ef3, small1000 (by omega), ?_⟩
    have t4 : TupK H1 (upd H3 f (.lst (fv ++ [u]))) := (Same.tupK s3).trans (TupK.put ef3)
    have ef4 : upd H3 f (.lst (fv ++ [u])) f = some (.lst (fv ++ [u])) := upd_same
    have ewl4 : upd H3 f (.lst (fv ++ [u])) wl1 = some (.lst (V.ref b :: wr)) := by rw [upd_ne nfw]; exact s3 _ _ ewl
    have sm4 : Same H (upd H3 f (.lst (fv ++ [u]))) := Same.newer (sm.trans s3) hf
    generalize hH4 : upd H3 f (.lst (fv ++ [u])) = H4 at t4 ef4 ewl4 sm4 ⊢
    refine ⟨_, rfl, u, s', d0, rfl, SAt.keep t4 _ _ _ hsx, hox, fun l kv hl at_ => ?_⟩
    have lkv := Paired.length at_
    have s5 := Same.new (o := .lst kv) hl
    have t5 := t4.trans (Same.tupK s5)
    refine ⟨_, rfl, l, qa, kv, wh, rfl, upd_same, t5 _ _ eqa, by omega, by omega, fun g pv' H6 s6 hg eg pp6 => ?_⟩
    have s56 := s5.trans s6
    refine ⟨_, rfl, 1, rfl, wl1, _, rfl, SqL.of (s56 _ _ ewl4), fun p hp => ?_⟩
    have ec : cutV (V.ref b :: wr) (some 1) none = wr := cut_from (V.ref b :: wr) 1
    rw [ec]
    have ngp : g ≠ p := ne_of_none eg hp
    have lpv := Paired.length pp6
    have lpl : (placedL wh kv).length = kv.length := by unfold placedL; rw [List.length_map, List.length_zipIdx]
    have lcat : pv'.length + wr.length ≤ 1000 := by
      have := Paired.length hrest
      omega
    refine ⟨g, p, _, _, rfl, rfl, by rw [upd_ne ngp]; exact eg, upd_same, szN lcat, fun r hr => ?_⟩
    have s7 := (s56.trans (Same.new (o := .lst wr) hp)).trans (Same.new (o := .lst (pv' ++ wr)) hr)
    have s67 := (s6.trans (Same.new (o := .lst wr) hp)).trans (Same.new (o := .lst (pv' ++ wr)) hr)
    have t6 := (Same.new (o := .lst wr) hp).trans (Same.new (o := .lst (pv' ++ wr)) hr)
    dsimp only [gName]
    have hd' : 5 - (wh.length + 1) = d := by omega
    have tk7 := t4.trans (Same.tupK s7)
    have nrf : r ≠ f := fun z => by
      have ef7 := (s56.trans (Same.new (o := .lst wr) hp)) _ _ ef4
      rw [← z, hr] at ef7
      cases ef7
    have ld : (done ++ [s']).length = done.length + 1 := by rw [List.length_append, List.length_singleton]
    refine ⟨12 - (done.length + 1), by omega, r, done ++ [s'], waitsOf wh 0 (kidsOf s') ++ L', fv ++ [u], pv' ++ wr, _, _, rfl, s7 _ _ ef4, upd_same, nrf, ?_, ?_, ?_, ?_, by omega, ?_, by rw [ld], sm4.trans s7⟩
    · exact paired_app (paired_imp pf fun _ _ h => FrmR.keep h tk7) (.cons ⟨d0, SAt.keep tk7 _ _ _ hsx, hox⟩ .nil)
    · refine paired_app ?_ (paired_imp hrest fun _ _ h => WaitX.keep h tk7)
      exact waits_atX z2 hxn 0 (by omega) (paired_imp at_ fun _ _ h => SAt.keep (Same.tupK (s5.trans s67)) _ _ _ h) (frm_kids hox) (paired_imp pp6 fun _ _ h => PlR.keep h (Same.tupK t6))
    · rw [rest_app, rest_waits hd', ← eall]
      simp
    · rw [ld, show 12 - (done.length + 1) = n by omega]
      exact efb
    · rw [List.length_append, waits_len, ld]
      omega
end
end MS
end
section
set_option maxRecDepth 100000
set_option maxHeartbeats 4000000
namespace MS
open PySem L2
open HeY
/-! ### check_paper of any schemes that a text can tell -/
theorem fbL_nil (M i : Nat) : fbL M i [] = none := rfl
theorem fbL_cons (M i : Nat) (s : Sch) (r : List Sch) : fbL M i (s :: r) = if i = 5 then some (5, []) else match fbW i M 12 [([], s)] with
    | some p => some (i, p)
    | none => fbL M (i + 1) r := rfl
def FrmP (s : Sch) : Prop := ∃ d, Frm (d + 1) s
/-- nothing bad in the parts: they can be, and are few -/
theorem fbL_ok {M : Nat} : ∀ {i : Nat} {r : List Sch}, i ≤ 5 → (∀ s ∈ r, FrmP s) → fbL M i r = none → i + r.length ≤ 5 ∧ ∀ j s, r[j]? = some s → OkS (i + j) M 5 s ∧ sz 5 s ≤ 12
  | i, [], hi, _, _ => ⟨hi, fun j s h => by simp at h⟩
  | i, s0 :: r, hi, f, h => by
    rw [fbL_cons] at h
    by_cases c : i = 5
    · rw [if_pos c] at h
      cases h
    · rw [if_neg c] at h
      cases e : fbW i M 12 [([], s0)] with
      | some p => rw [e] at h; cases h
      | none =>
        rw [e] at h
        obtain ⟨d, f0⟩ := f s0 List.mem_cons_self
        obtain ⟨h1, h2⟩ := fbL_ok (i := i + 1) (r := r) (by omega) (fun s hs => f s (List.mem_cons_of_mem _ hs)) h
        refine ⟨by rw [List.length_cons]; omega, fun j s hs => ?_⟩
        cases j with
        | zero =>
          have hs : some s0 = some s := hs
          obtain rfl := Option.some.inj hs
          exact fb_one f0 e
        | succ j =>
          have := h2 j s hs
          rw [show i + 1 + j = i + (j + 1) by omega] at this
          exact this
theorem pre_tot {M j : Nat} {E : Bool} {c : Nat → Int} {s : Sch} (o : OkS j M 5 s) : tot E c s = ((pre 5 s).map (own E c)).sum := by
  cases E
  · exact (pre_wr c 5 s o).symm
  · exact (pre_er c 5 s o).symm
theorem badP_of {ps : List Sch} {x : Nat × List Nat} (h : fbL ps.length 0 ps = some x) : badP ps = some x := by
  unfold badP
  rw [h]
theorem badP_cnt {ps : List Sch} (h : fbL ps.length 0 ps = none) : badP ps = if 7 < cnts true 0 ps 0 ∨ 3 < cnts false 0 ps 0 then some (ps.length, []) else none := by
  unfold badP
  rw [h]
def spCheckX (C : Addr) : Sp := fun vs H Q E => ∃ (pa : Addr) (ps : List Sch) (pv : List V), vs = [.ref pa] ∧ H pa = some (.tup pv) ∧ Paired (FrmR H) ps pv ∧ 0 < ps.length ∧ ps.length ≤ 1800 ∧
  (∀ n wh, badP ps = some (n, wh) → RaisedP C n wh H E) ∧ (badP ps = none → ∀ H', Same H H' → Q .non H')
def spCheckX1 (C : Addr) (ps : List Sch) : Sp := fun vs H Q E => ∃ (pa : Addr) (pv : List V), vs = [.ref pa] ∧ H pa = some (.tup pv) ∧ Paired (FrmR H) ps pv ∧ 0 < ps.length ∧ ps.length ≤ 1800 ∧
  (∀ n wh, badP ps = some (n, wh) → RaisedP C n wh H E) ∧ (badP ps = none → ∀ H', Same H H' → Q .non H')
theorem frm_all {H : Hp} : ∀ {ps : List Sch} {pv : List V}, Paired (FrmR H) ps pv → ∀ s ∈ ps, FrmP s
  | _, _, .nil, _, h => nomatch h
  | _, _, .cons h t, s, hs => by
    rcases List.mem_cons.mp hs with rfl | hs
    · obtain ⟨d, _, f⟩ := h
      exact ⟨d, f⟩
    · exact frm_all t s hs
section
variable {P : Program} {w : World} {K : PySem.W.Frag} {mg : Str → Option Value} {base : Heap}
theorem ok_check_paperX1 {ps : List Sch} (T : PTx w K mg) (RP : Rsr2 P w K mg base) (D : DPaper K mg) : FnOk P w K mg base (L2.CX P w) 5 D.DC.f D.DC.fd ["paper"] (spCheckX1 RP.C ps) := by
  have GS : FnOk P w K mg base (L2.CX P w) 4 D.DS.f D.DS.fd ["paper", "number"] (fun vs H Q E => ∃ i, spSchemesX RP.C ps i vs H Q E) := fn_anyX fun i => ok_schemes_inX T RP D.DS D.DB D.DF D.DN D.DI D.DP
  have GE : FnOk P w K mg base CX0 1 D.DM.f D.DM.fd ["names", "parts"] (spMany K true ps (cnts true 0 ps)) := ok_many_of T D.DM
  have GW : FnOk P w K mg base CX0 1 D.DM.f D.DM.fd ["names", "parts"] (spMany K false ps (cnts false 0 ps)) := ok_many_of T D.DM
  obtain ⟨tP, gP⟩ := T.mostInPaper
  obtain ⟨tE, gE⟩ := T.mostE
  obtain ⟨tW, gW⟩ := T.mostW
  obtain ⟨aE, hE, qE⟩ := T.earners
  obtain ⟨aW, hW, qW⟩ := T.watchers
  have nd := sc_check_paper.nd
  refine D.DC.okX sc_check_paper (fun vs H Q E h => ?_) (fun cdv A outer s H vs Q E hr h => ?_)
  · obtain ⟨pa, pv, rfl, _⟩ := h
    rfl
  obtain ⟨pa, pv0, rfl, epv, pp, hPl, hP9, q1, q2⟩ := h
  have hr1 : Room 1 _ := hr.mono (by decide)
  have hr2 : Room 2 _ := hr.mono (by decide)
  have tk : L2.Takes (cxOf (L2.CX P w) P w K mg base ["paper", "parts", "number"] "check_paper" (defScope s_check_paper) D.DC.f cdv A outer s H E) (fun cls d _ H' => E cls d H') := L2.takes_of rfl rfl rfl rfl
  refine ⟨_, pss_cons (ps_if (PW.pt (pw_or (pt_not (pt_val (pe_callB call_isi rfl (T.free "isinstance" (by decide +kernel)) (by decide +kernel) (pa_cons (pv 0) (pa_cons (pe_bltn rfl (T.free "tuple" (by decide +kernel)) (by decide +kernel) (v := .ty "tuple") rfl) pa_nil)))))
      (pw_or1 (pt_not (pt_truth (pv 0) (by intro _; rfl)))))) (pss_one (ps_rs2 RP rfl tk hr2 pe_int (pe_tup pa_nil))) pss_nil)
    (pss_cons (ps_set (i := 1) nd rfl (Or.inl rfl) (pe_lst pa_nil))
    (pss_cons (ps_for (L2.passes_of rfl) rfl (pi_range1 rfl (T.free "range" (by decide +kernel)) (pa_cons (pe_callB call_len_seq rfl (T.free "len" (by decide +kernel)) PySem.boot_len (pa_cons (pv 0) pa_nil)) pa_nil)) (pg_name (i := 2) nd rfl (Or.inl rfl))
      (pss_cons (ps_if (pt_cmpR op_eq (pv 2) (pe_glob rfl gP (v := .int 5) ⟨_, rfl⟩) (nomark _)) (pss_one (ps_rs2 RP rfl tk hr2 (pv 2) (pe_tup pa_nil))) pss_nil)
      (pss_one (ps_expr (pe_bm PySem.F.plainAttrs_list PySem.F.slot_list_append PySem.F.type_list_append mt_append (pv 1) (pa_cons (pcallX (E := E) D.DS GS hr (L2.passes_call tk (fun _ _ _ _ h => h)) (pa_cons (pv 0) (pa_cons (pv 2) pa_nil))) pa_nil))))))
    (pss_one (ps_if (PW.pt (pw_or (pt_cmpR op_gt (pcall D.DM GE hr1 (pa_cons (pe_glob rfl hE (v := .ref aE) rfl) (pa_cons (pv 1) pa_nil))) (pe_glob rfl gE (v := .int 7) ⟨_, rfl⟩) (nomark _))
      (pw_or1 (pt_cmpR op_gt (pcall D.DM GW hr1 (pa_cons (pe_glob rfl hW (v := .ref aW) rfl) (pa_cons (pv 1) pa_nil))) (pe_glob rfl gW (v := .int 3) ⟨_, rfl⟩) (nomark _))))) (pss_one (ps_rs2 RP rfl tk hr2 (pe_callB call_len_seq rfl (T.free "len" (by decide +kernel)) PySem.boot_len (pa_cons (pv 0) pa_nil)) (pe_tup pa_nil))) pss_nil)))), ?_⟩
  have hM := Paired.length pp
  have hfall := frm_all pp
  refine seq_if (b := false || false) (ev_or (b := false) (c := false) (fun Q q => ⟨_, rfl, _, .ty "tuple", .type "tuple", .type "tuple", true, rfl, .ty _, .base (.tup epv), kit_ty (by decide +kernel), _, rfl, q⟩)
    (fun Q q => ⟨_, rfl, true, .inr (.inl ⟨_, SqT.of epv, by cases pp with
      | nil => exact absurd hPl (by simp)
      | cons _ _ => rfl⟩), q⟩)) (fun z => nomatch z) (fun _ => ?_)
  refine ⟨Nat.zero_le _, fun p hp => ?_⟩
  have s1 : Same H (upd H p (.lst [])) := Same.new hp
  dsimp only [gName]
  refine ⟨_, rfl, pa, _, rfl, .inr (SqT.of (s1 _ _ epv)), _, rfl, by omega, by omega, ?_⟩
  have hn : (((pv0.length : Nat) : Int)).toNat = ps.length := by omega
  have bad0 : ∀ (n : Nat) (te : TE) (σ' : St) (Hx : Hp), badP ps = some (n, []) → n < 1900 → Same H Hx → (∀ Q : VK, Q (.int ((n : Nat) : Int)) Hx → te σ' Hx Q) → tMkO RP.C (spInit2 RP.C) [] (tCons te (tCons (tTup tNil) tNil)) σ' Hx fun cls d H' => E cls d H' := fun n te σ' Hx hb h9 sx ht =>
    ht _ ⟨Nat.zero_le _, fun t ht' => raised2_of h9 (wh := []) upd_same (by decide) (fun _ h => nomatch h) fun d H' hd s' e => ((q1 _ _ hb).from (Same.trans sx (Same.new ht'))) d t H' hd s' e (s' _ _ upd_same)⟩
  refine for_range (lo := 0) (n := (((pv0.length : Nat) : Int)).toNat) (fun i σ H' => ∃ (plv : List V) (v : Option V), σ = [some (.ref pa), some (.ref p), v] ∧ H' p = some (.lst plv) ∧ plv.length = i ∧ i ≤ 5 ∧ fbL ps.length i (ps.drop i) = fbL ps.length 0 ps ∧
      (∀ j s, j < i → ps[j]? = some s → ∃ fj fv, plv[j]? = some (V.ref fj) ∧ fj ≠ p ∧ H' fj = some (.lst fv) ∧ Paired (FoundR H' j ps.length) (pre 5 s) fv) ∧ Same H H')
    ⟨[], none, rfl, upd_same, rfl, Nat.zero_le _, rfl, (fun _ _ h => by omega), s1⟩ ?_ ?_
  · rintro i σ H1 hi ⟨plv, v, rfl, ep, hl, h5, hfb, hparts, sm⟩
    rw [hn] at hi
    have ez : (0 : Int) + ((i : Nat) : Int) = ((i : Nat) : Int) := by omega
    dsimp only [gName]
    rw [ez]
    rw [List.drop_eq_getElem_cons hi, fbL_cons] at hfb
    refine seq_if (b := decide (i = 5)) (fun Q q => ⟨_, rfl, rfl, _, rfl, by
      rw [show decide (V.int ((i : Nat) : Int) = V.int 5) = decide (i = 5) by
        rw [decide_eq_decide]
        exact ⟨fun z => by have := V.int.inj z; omega, fun z => by rw [z]; rfl⟩]
      exact q⟩) (fun z => ?_) (fun z => ?_)
    · have z := of_decide_eq_true z
      rw [if_pos z] at hfb
      subst z
      exact bad0 5 _ _ H1 (badP_of hfb.symm) (by decide) sm fun Q q => ⟨_, rfl, q⟩
    have hi5 := of_decide_eq_false z
    rw [if_neg hi5] at hfb
    refine ⟨_, rfl, .inl ⟨rfl, _, SqL.of ep⟩, _, rfl, _, rfl, i, pa, pv0, _, rfl, sm _ _ epv, paired_imp pp fun _ _ h => FrmR.keep h (Same.tupK sm), List.getElem?_eq_getElem hi, by omega, by omega, fun wh hb => ?_, fun hb f fv H2 s2 hf ef pf => ?_⟩
    · rw [hb] at hfb
      exact (q1 _ _ (badP_of hfb.symm)).from sm
    rw [hb] at hfb
    have ep2 := s2 _ _ ep
    have nfp : f ≠ p := fun z => by rw [z, ep] at hf; cases hf
    have tk : TupK H2 (upd H2 p (.lst (plv ++ [.ref f]))) := TupK.put ep2
    refine ⟨p, _, _, rfl, rfl, ep2, small1000 (by omega), ?_⟩
    refine ⟨plv ++ [.ref f], _, rfl, upd_same, by rw [List.length_append, hl]; rfl, by omega, hfb, fun j s hj es => ?_, Same.newer (sm.trans s2) hp⟩
    by_cases e : j < i
    · obtain ⟨fj, fv', e1, e2, e3, e4⟩ := hparts j s e es
      exact ⟨fj, fv', by rw [List.getElem?_append_left (by omega)]; exact e1, e2, by rw [upd_ne e2]; exact s2 _ _ e3, paired_imp e4 fun _ _ h => FoundR.keep h ((Same.tupK s2).trans tk)⟩
    · have e : j = i := by omega
      subst e
      obtain rfl : ps[j] = s := Option.some.inj ((List.getElem?_eq_getElem hi).symm.trans es)
      refine ⟨f, fv, ?_, nfp, by rw [upd_ne nfp]; exact ef, paired_imp pf fun _ _ h => FoundR.keep h tk⟩
      rw [List.getElem?_append_right (by omega), hl, Nat.sub_self]
      rfl
  · rintro σ H1 ⟨plv, v, rfl, ep, hl, h5, hfb, hparts, sm⟩
    rw [hn] at hl hparts h5 hfb
    rw [List.drop_length, fbL_nil] at hfb
    have hbc := badP_cnt hfb.symm
    obtain ⟨_, hok⟩ := fbL_ok (Nat.zero_le _) hfall hfb.symm
    have hok1 : ∀ j s, ps[j]? = some s → OkS (0 + j) ps.length 5 s := fun j s es => (hok j s es).1
    have hPA : PartsAt H1 ps plv := fun j s es => by
      obtain ⟨fj, fv, e1, _, e3, e4⟩ := hparts j s (List.getElem?_eq_some_iff.mp es).1 es
      exact ⟨fj, fv, e1, e3, e4⟩
    have hcnt : ∀ E j s, ps[j]? = some s → cnts E 0 ps j = ((pre 5 s).map (own E (cnts E 0 ps))).sum := fun E j s es => by
      have := cnts_eq (E := E) (M := ps.length) hok1 es
      rw [Nat.zero_add] at this
      rw [this]
      exact pre_tot (hok1 j s es)
    dsimp only
    refine one_new (u := tNext) (b := decide (7 < cnts true 0 ps 0) || decide (3 < cnts false 0 ps 0)) (ev_or_new (b := decide (7 < cnts true 0 ps 0)) (c := decide (3 < cnts false 0 ps 0)) (fun Q q => ?_) (fun _ H2 s2 Q q => ?_)) (fun z H2 s2 => ?_) (fun z H2 s2 => ?_)
    · exact ⟨_, rfl, aE, p, plv, rfl, qE, ep, hl, hPl, h5, hPA, hcnt true, fun H2 s2 => ⟨_, _, rfl, rfl, _, rfl, q H2 s2⟩⟩
    · exact ⟨_, rfl, aW, p, plv, rfl, qW, s2 _ _ ep, hl, hPl, h5, hPA.keep s2, hcnt false, fun H3 s3 => ⟨_, _, rfl, rfl, _, rfl, q H3 s3⟩⟩
    · have z1 : 7 < cnts true 0 ps 0 ∨ 3 < cnts false 0 ps 0 := by
        rw [Bool.or_eq_true] at z
        rcases z with z | z
        · exact .inl (of_decide_eq_true z)
        · exact .inr (of_decide_eq_true z)
      rw [if_pos z1] at hbc
      refine bad0 ps.length _ _ H2 hbc (by omega) (sm.trans s2) fun Q q => ⟨_, rfl, pa, _, rfl, .inr (SqT.of (s2 _ _ (sm _ _ epv))), ?_⟩
      rw [← hM]
      exact q
    · have z1 : ¬ (7 < cnts true 0 ps 0 ∨ 3 < cnts false 0 ps 0) := by
        rw [Bool.or_eq_false_iff] at z
        exact fun y => y.elim (fun y => of_decide_eq_false z.1 y) (fun y => of_decide_eq_false z.2 y)
      rw [if_neg z1] at hbc
      exact q2 hbc H2 (sm.trans s2)
theorem ok_check_paperX (T : PTx w K mg) (RP : Rsr2 P w K mg base) (D : DPaper K mg) : FnOk P w K mg base (L2.CX P w) 5 D.DC.f D.DC.fd ["paper"] (spCheckX RP.C) := by
  have G : FnOk P w K mg base (L2.CX P w) 5 D.DC.f D.DC.fd ["paper"] (fun vs H Q E => ∃ ps, spCheckX1 RP.C ps vs H Q E) := fn_anyX fun ps => ok_check_paperX1 T RP D
  have e : spCheckX RP.C = fun vs H Q E => ∃ ps, spCheckX1 RP.C ps vs H Q E := by
    funext vs H Q E
    refine propext ⟨fun h => ?_, fun h => ?_⟩
    · obtain ⟨pa, ps, pv, h⟩ := h
      exact ⟨ps, pa, pv, h⟩
    · obtain ⟨ps, pa, pv, h⟩ := h
      exact ⟨pa, ps, pv, h⟩
  rw [e]
  exact G
end
end MS
end
section
set_option maxRecDepth 100000
set_option maxHeartbeats 4000000
namespace MS
open PySem L2
open HeY
/-! ### a text's rows and words, pure -/
theorem in_join {z x : Str} {c : Nat} : ∀ {l : List Str}, x ∈ l → c ∈ TL.tl x → c ∈ TL.tl (Str.join z l)
  | [], h, _ => nomatch h
  | [y], h, hc => by
    rw [List.mem_singleton.mp h] at hc
    exact hc
  | y :: y2 :: r, h, hc => by
    show c ∈ TL.tl (y ++ z ++ Str.join z (y2 :: r))
    rw [TL.tl_append, TL.tl_append]
    rcases List.mem_cons.mp h with rfl | h
    · exact List.mem_append.mpr (.inl (List.mem_append.mpr (.inl hc)))
    · exact List.mem_append.mpr (.inr (in_join h hc))
theorem split_asc {x y : Str} (h : asc x) : ∀ p ∈ Txt.split x y, asc p := fun p hp c hc => h c (by
  have e : c ∈ TL.tl (Str.join y (Txt.split x y)) := in_join hp hc
  rw [PySem.StrLaws.join_split] at e
  exact e)
theorem cw_sum : ∀ l : List Str, cw l = (l.map (·.length)).sum + l.length
  | [] => rfl
  | x :: r => by
    show x.length + 1 + cw r = _
    rw [cw_sum r, List.map_cons, List.sum_cons, List.length_cons]
    omega
theorem split_cw (x y : Str) (hy : 1 ≤ y.length) : cw (Txt.split x y) ≤ x.length + 1 := by
  rw [cw_sum]
  exact PyProof.Rows.split_weight x y hy
theorem len_cw : ∀ l : List Str, l.length ≤ cw l
  | [] => Nat.le_refl _
  | x :: r => by
    have := len_cw r
    show r.length + 1 ≤ x.length + 1 + cw r
    omega
theorem mem_cw : ∀ {l : List Str} {x : Str}, x ∈ l → x.length + 1 ≤ cw l
  | y :: r, x, h => by
    show _ ≤ y.length + 1 + cw r
    rcases List.mem_cons.mp h with rfl | h
    · omega
    · have := mem_cw h
      omega
/-- the rows' words -/
def rowsOf (t : Str) : List (List Str) := (Txt.split t "\n").map fun r => Txt.split r " "
def wsum : List (List Str) → Nat
  | [] => 0
  | ws :: R => cw ws + wsum R
theorem wsum_map : ∀ l : List Str, wsum (l.map fun r => Txt.split r " ") ≤ cw l
  | [] => Nat.le_refl _
  | x :: r => by
    have h1 := wsum_map r
    have h2 := split_cw x " " (by decide +kernel)
    show cw (Txt.split x " ") + wsum (r.map fun r => Txt.split r " ") ≤ x.length + 1 + cw r
    omega
theorem rows_sum {t : Str} (h : t.length ≤ 1000) : wsum (rowsOf t) ≤ 1001 := by
  have h1 := wsum_map (Txt.split t "\n")
  have h2 := split_cw t "\n" (by decide +kernel)
  unfold rowsOf
  omega
def OkW (ws : List Str) : Prop := ∀ x ∈ ws, asc x
theorem rows_asc {t : Str} (h : asc t) : ∀ ws ∈ rowsOf t, OkW ws := fun ws hw => by
  obtain ⟨r, hr, rfl⟩ := List.mem_map.mp hw
  exact split_asc (split_asc h r hr)
theorem rows_pos (t : Str) : 1 ≤ (rowsOf t).length := by
  unfold rowsOf
  rw [List.length_map]
  exact PyProof.Rows.split_pos t "\n"
/-- how many words stand ahead of row j -/
def ahead (R : List (List Str)) (j : Nat) : Nat := ((R.take j).map List.length).sum
theorem wsum_at : ∀ {R : List (List Str)} {j : Nat} {ws : List Str}, R[j]? = some ws → ahead R j + cw ws ≤ wsum R
  | [], _, _, h => by simp at h
  | w0 :: R, 0, ws, h => by
    have h : some w0 = some ws := h
    obtain rfl := Option.some.inj h
    show 0 + cw w0 ≤ cw w0 + wsum R
    omega
  | w0 :: R, j + 1, ws, h => by
    have h : R[j]? = some ws := h
    have ih := wsum_at h
    have h2 := len_cw w0
    show w0.length + ahead R j + cw ws ≤ cw w0 + wsum R
    omega
theorem ahead_succ {R : List (List Str)} {j : Nat} {ws : List Str} (h : R[j]? = some ws) : ahead R (j + 1) = ahead R j + ws.length := by
  unfold ahead
  rw [List.take_succ, h, List.map_append, List.sum_append]
  simp
theorem row_cw {R : List (List Str)} {j : Nat} {ws : List Str} (h : R[j]? = some ws) : cw ws ≤ wsum R := by
  have := wsum_at h
  omega
theorem rows_few : ∀ {R : List (List Str)}, (∀ ws ∈ R, 1 ≤ ws.length) → R.length ≤ wsum R
  | [], _ => Nat.le_refl _
  | ws :: R, h => by
    have h1 := rows_few fun x hx => h x (List.mem_cons_of_mem _ hx)
    have h2 := h ws List.mem_cons_self
    have h3 := len_cw ws
    show R.length + 1 ≤ cw ws + wsum R
    omega
theorem rows_len {t : Str} (h : t.length ≤ 1000) : (rowsOf t).length ≤ 1001 :=
  Nat.le_trans (rows_few fun ws hw => by
    obtain ⟨r, hr, rfl⟩ := List.mem_map.mp hw
    exact PyProof.Rows.split_pos r " ") (rows_sum h)
/-- the machine's places, from another start -/
theorem kp_shift (m : Nat) : ∀ (r S : List Str) (n : Nat), kp r S (n + m) = (match kp r S n with
    | .inl e => .inl (e + m)
    | .inr (ks, r', n') => .inr (ks, r', n' + m))
  | r, [], n => by rw [kp_nil, kp_nil]
  | [], _ :: _, n => rfl
  | x :: r, k :: S, n => by
    rw [kp_cons, kp_cons]
    by_cases hc : canB x k = true
    · rw [if_pos hc, if_pos hc, show n + m + 1 = n + 1 + m by omega, kp_shift m r (comL x k ++ S) (n + 1)]
      cases kp r (comL x k ++ S) (n + 1) with
      | inl e => rfl
      | inr p => rfl
    · rw [if_neg hc, if_neg hc]
/-- a row's scheme -/
def SchOk (ws : List Str) (s : Sch) : Prop := ∃ ks r' n', kp ws ["scheme"] 0 = .inr (ks, r', n') ∧ Frm ws.length s ∧ ∀ B : List TV, bldF (ws.zip ks) B = [ofD ws.length s] ++ B
open Classical in
noncomputable def schOf (ws : List Str) : Sch := if h : ∃ s, SchOk ws s then Classical.choose h else .use 0
theorem sch_ok {ws ks r' : List Str} {n' : Nat} (ha : OkW ws) (h : kp ws ["scheme"] 0 = .inr (ks, r', n')) : Frm ws.length (schOf ws) ∧ ∀ B : List TV, bldF (ws.zip ks) B = [ofD ws.length (schOf ws)] ++ B := by
  obtain ⟨s, fs, hB⟩ := kp_sch ha h
  have hx : ∃ s, SchOk ws s := ⟨s, ks, r', n', h, fs, hB⟩
  have e : schOf ws = Classical.choose hx := by unfold schOf; rw [dif_pos hx]
  obtain ⟨ks2, r2, n2, h2, f2, b2⟩ := Classical.choose_spec hx
  rw [h] at h2
  injection h2 with h2
  injection h2 with h2 _
  subst h2
  rw [e]
  exact ⟨f2, b2⟩
/-- what a text's rows tell: the place of the first bad word, or the schemes -/
def rdW (ws : List Str) : Option Nat := match kp ws ["scheme"] 0 with
  | .inl e => some e
  | .inr (_, [], _) => none
  | .inr (_, _ :: _, n') => some n'
noncomputable def rdL : Nat → List (List Str) → Nat ⊕ List Sch
  | _, [] => .inr []
  | st, ws :: R => match rdW ws with
    | some e => .inl (st + e)
    | none => (match rdL (st + ws.length) R with
      | .inl m => .inl m
      | .inr l => .inr (schOf ws :: l))
def rdB (done : List Sch) : Nat ⊕ List Sch → Nat ⊕ List Sch
  | .inl m => .inl m
  | .inr l => .inr (done ++ l)
theorem rd_nil (st : Nat) : rdL st [] = .inr [] := by rw [rdL]
theorem rd_bad {st e : Nat} {ws : List Str} {R : List (List Str)} (h : rdW ws = some e) : rdL st (ws :: R) = .inl (st + e) := by
  rw [rdL, h]
theorem rd_good {st : Nat} {ws : List Str} {R : List (List Str)} {done : List Sch} (h : rdW ws = none) : rdB done (rdL st (ws :: R)) = rdB (done ++ [schOf ws]) (rdL (st + ws.length) R) := by
  rw [rdL, h]
  cases rdL (st + ws.length) R with
  | inl m => rfl
  | inr l =>
    show (Sum.inr (done ++ schOf ws :: l) : Nat ⊕ List Sch) = .inr (done ++ [schOf ws] ++ l)
    rw [List.append_assoc]
    rfl
theorem km_bad {ws : List Str} {e : Nat} (st : Nat) (h : rdW ws = some e) : km ws ["scheme"] st = .inl (st + e) := by
  have hs := kp_shift st ws ["scheme"] 0
  rw [Nat.zero_add] at hs
  rw [km_kp, hs]
  unfold rdW at h
  cases hk : kp ws ["scheme"] 0 with
  | inl m =>
    rw [hk] at h
    obtain rfl : m = e := Option.some.inj h
    show (Sum.inl (m + st) : Nat ⊕ List Str) = _
    rw [Nat.add_comm]
  | inr p =>
    obtain ⟨ks, r', n'⟩ := p
    rw [hk] at h
    cases r' with
    | nil => cases h
    | cons y r' =>
      obtain rfl : n' = e := Option.some.inj h
      show (Sum.inl (n' + st) : Nat ⊕ List Str) = _
      rw [Nat.add_comm]
theorem km_good {ws : List Str} (st : Nat) (ha : OkW ws) (h : rdW ws = none) : ∃ ks, km ws ["scheme"] st = .inr ks ∧ Frm ws.length (schOf ws) ∧ bld (ws.zip ks) = [ofD ws.length (schOf ws)] := by
  have hs := kp_shift st ws ["scheme"] 0
  rw [Nat.zero_add] at hs
  unfold rdW at h
  cases hk : kp ws ["scheme"] 0 with
  | inl m =>
    rw [hk] at h
    cases h
  | inr p =>
    obtain ⟨ks, r', n'⟩ := p
    rw [hk] at h hs
    cases r' with
    | cons y r' => cases h
    | nil =>
      obtain ⟨f, hB⟩ := sch_ok ha hk
      refine ⟨ks, by rw [km_kp, hs], f, ?_⟩
      have := hB []
      rw [bldF_nil] at this
      exact this
theorem frm_at {H : Hp} {d : Nat} {s : Sch} {v : V} (f : Frm d s) (h : VAt H (ofD d s) v) : FrmR H s v := by
  cases d with
  | zero => cases f
  | succ d => exact ⟨d, of_at _ _ _ f h, f⟩
/-! ### read -/
abbrev s_read : Stmt := topS 37
theorem sc_read : FnScope ["text", "schemes", "start", "row", "words", "paper"] ["text"] (defScope s_read) := ⟨rfl, rfl, rfl, by decide +kernel, rfl, by decide +kernel, by decide +kernel⟩
def spReadX (CT CP : Addr) : Sp := fun vs H Q E => ∃ t : Str, vs = [.str t] ∧ asc t ∧ t.length ≤ 1000 ∧ (∀ m, rdL 0 (rowsOf t) = .inl m → Raised CT "place" ((m : Nat) : Int) H E) ∧
  ∀ ps, rdL 0 (rowsOf t) = .inr ps → (∀ n wh, badP ps = some (n, wh) → RaisedP CP n wh H E) ∧ (badP ps = none → ∀ (p : Addr) (pv : List V) (H' : Hp), Same H H' → H p = none → H' p = some (.tup pv) → Paired (FrmR H') ps pv → Q (.ref p) H')
theorem rdB_nil (r : Nat ⊕ List Sch) : rdB [] r = r := by cases r <;> rfl
section
variable {P : Program} {w : World} {K : PySem.W.Frag} {mg : Str → Option Value} {base : Heap}
theorem ok_readX (T : PTx w K mg) (U : PTe w K mg) (RT : Tr P w K mg base) (RP : Rsr2 P w K mg base) (DP : DPaper K mg) (D : Def K mg "read" s_read ["text"]) (DK : Def K mg "kinds_in" s_kinds_in ["words", "start"]) (DO : Def K mg "scheme_of" s_scheme_of ["words", "kinds"]) (DT : Def K mg "taken" s_taken ["parts", "many"])
    (DS : Def K mg "can_stand" s_can_stand ["word", "kind"]) (DF : Def K mg "is_figures" s_is_figures ["word"]) (DC : Def K mg "coming" s_coming ["word", "kind"]) :
    FnOk P w K mg base (L2.CX P w) 6 D.f D.fd ["text"] (spReadX RT.C RP.C) := by
  have GK : FnOk P w K mg base (L2.CX P w) 3 DK.f DK.fd ["words", "start"] (spKindsX RT.C) := ok_kindsX T U RT DK DS DF DC
  have GO : FnOk P w K mg base CX0 2 DO.f DO.fd ["words", "kinds"] spSchemeX := ok_scheme_ofX T DO DT
  have GP : FnOk P w K mg base (L2.CX P w) 5 DP.DC.f DP.DC.fd ["paper"] (spCheckX RP.C) := ok_check_paperX T RP DP
  have nd := sc_read.nd
  refine D.okX sc_read (fun vs H Q E h => ?_) (fun cdv A outer s H vs Q E hr h => ?_)
  · obtain ⟨t, rfl, _⟩ := h
    rfl
  obtain ⟨t, rfl, hta, htl, q1, q2⟩ := h
  have r2 : Room 2 _ := hr.mono (by decide)
  have r3 : Room 3 _ := hr.mono (by decide)
  have tk : L2.Takes (cxOf (L2.CX P w) P w K mg base ["text", "schemes", "start", "row", "words", "paper"] "read" (defScope s_read) D.f cdv A outer s H E) (fun cls d _ H' => E cls d H') := L2.takes_of rfl rfl rfl rfl
  refine ⟨_, pss_cons (ps_set (i := 1) nd rfl (Or.inl rfl) (pe_lst pa_nil))
    (pss_cons (ps_set (i := 2) nd rfl (Or.inl rfl) pe_int)
    (pss_cons (ps_for (L2.passes_of rfl) rfl (pi_list (pe_split (pv 0) pe_str)) (pg_name (i := 3) nd rfl (Or.inl rfl))
      (pss_cons (ps_set (i := 4) nd rfl (Or.inl rfl) (pe_split (pv 3) pe_str))
      (pss_cons (ps_expr (pe_bm PySem.F.plainAttrs_list PySem.F.slot_list_append PySem.F.type_list_append mt_append (pv 1) (pa_cons (pcall DO GO r2 (pa_cons (pv 4) (pa_cons (pcallX (E := E) DK GK r3 (L2.passes_call tk (fun _ _ _ _ h => h)) (pa_cons (pv 4) (pa_cons (pv 2) pa_nil))) pa_nil))) pa_nil)))
      (pss_one (ps_aug (i := 2) nd rfl (Or.inl rfl) (pe_callB call_len_seq rfl (T.free "len" (by decide +kernel)) PySem.boot_len (pa_cons (pv 4) pa_nil)) ip_add)))))
    (pss_cons (ps_set (i := 5) nd rfl (Or.inl rfl) (pe_callTy call_tuple_of rfl (T.free "tuple" (by decide +kernel)) (by decide +kernel) (pa_cons (pv 1) pa_nil)))
    (pss_cons (ps_expr (pcallX (E := E) DP.DC GP hr (L2.passes_call tk (fun _ _ _ _ h => h)) (pa_cons (pv 5) pa_nil)))
    (pss_one (ps_ret (pv 5))))))), ?_⟩
  refine ⟨Nat.zero_le _, fun sl hsl => ?_⟩
  have s1 : Same H (upd H sl (.lst [])) := Same.new hsl
  have e1 : upd H sl (.lst []) sl = some (.lst []) := upd_same
  dsimp only [gName]
  generalize upd H sl (.lst []) = H1 at s1 e1 ⊢
  refine ⟨_, rfl, ⟨_, rfl⟩, _, "\n", rfl, rfl, by decide, by rw [sizeLine_eq]; omega, fun rl hrl => ?_⟩
  have s2 := s1.trans (Same.new (o := .lst ((Txt.split t "\n").map V.str)) hrl)
  have nrs : rl ≠ sl := fun e => by rw [e, e1] at hrl; cases hrl
  refine ⟨rl, rfl, ⟨_, SqL.of upd_same⟩, ?_⟩
  have hsum := rows_sum htl
  have hRl := rows_len htl
  have hRp := rows_pos t
  have lrows : ((Txt.split t "\n").map V.str).length = (rowsOf t).length := by unfold rowsOf; rw [List.length_map, List.length_map]
  have hasc := rows_asc hta
  have hrowat : ∀ j, (rowsOf t)[j]? = ((Txt.split t "\n")[j]?).map fun r => Txt.split r " " := fun j => by unfold rowsOf; rw [List.getElem?_map]
  have hparts : ∀ r ∈ Txt.split t "\n", r.length ≤ 1000 := fun r hr => Nat.le_trans (PyProof.Rows.part_short hr) htl
  generalize Txt.split t "\n" = L at s2 hrl hrowat hparts lrows
  generalize rowsOf t = R at q1 q2 hsum hRl hasc hrowat lrows hRp
  refine for_list (K := K) (a := rl) (xs := L.map V.str) (fun j σ H' => ∃ (v3 v4 : Option V) (us : List V) (done : List Sch), σ = [some (.str t), some (.ref sl), some (.int ((ahead R j : Nat) : Int)), v3, v4, none] ∧ H' sl = some (.lst us) ∧ Paired (FrmR H') done us ∧ done.length = j ∧ rdL 0 R = rdB done (rdL (ahead R j) (R.drop j)) ∧ H' rl = some (.lst (L.map V.str)) ∧ Same H H')
    ⟨none, none, [], [], rfl, by rw [upd_ne nrs.symm]; exact e1, .nil, rfl, (rdB_nil _).symm, upd_same, s2⟩ (fun j σ H' _ ⟨_, _, _, _, _, _, _, _, _, e, _⟩ => SqL.of e) ?_ ?_
  · rintro j y σ H3 hy ⟨v3, v4, us, done, rfl, esl, hus, hdn, hrd, erl, sm⟩
    have hj : j < L.length := by
      have := (List.getElem?_eq_some_iff.mp hy).1
      rw [List.length_map] at this
      exact this
    have ej : L[j]? = some (L[j]'hj) := List.getElem?_eq_getElem hj
    obtain rfl : V.str (L[j]'hj) = y := by
      rw [List.getElem?_map, ej] at hy
      exact Option.some.inj hy
    have hrl1 := hparts _ (List.getElem_mem hj)
    have eR := hrowat j
    rw [ej] at eR
    generalize L[j]'hj = row at hrl1 eR hy
    have eR : R[j]? = some (Txt.split row " ") := eR
    have hRj : j < R.length := (List.getElem?_eq_some_iff.mp eR).1
    have edrop : R.drop j = Txt.split row " " :: R.drop (j + 1) := by
      rw [List.drop_eq_getElem_cons hRj]
      congr 1
      exact Option.some.inj ((List.getElem?_eq_getElem hRj).symm.trans eR)
    rw [edrop] at hrd
    have hws := hasc _ (List.mem_of_getElem? eR)
    have hcw := wsum_at eR
    have hsc := ahead_succ eR
    dsimp only [gName]
    refine ⟨_, rfl, ⟨_, rfl⟩, _, " ", rfl, rfl, by decide, by rw [sizeLine_eq]; omega, fun wl hwl => ?_⟩
    have hlw := len_cw (Txt.split row " ")
    have hmw : ∀ x ∈ Txt.split row " ", asc x ∧ x.length ≤ 1000 := fun x hx => ⟨hws x hx, by have := mem_cw hx; omega⟩
    generalize Txt.split row " " = ws at hrd hws hcw hsc hlw hmw eR
    have s4 : Same H3 (upd H3 wl (.lst (ws.map V.str))) := Same.new hwl
    have ew4 : upd H3 wl (.lst (ws.map V.str)) wl = some (.lst (ws.map V.str)) := upd_same
    have nws : wl ≠ sl := fun e => by rw [e, esl] at hwl; cases hwl
    generalize upd H3 wl (.lst (ws.map V.str)) = H4 at s4 ew4 ⊢
    dsimp only [gName]
    refine ⟨_, rfl, .inl ⟨rfl, _, SqL.of (s4 _ _ esl)⟩, _, rfl, _, rfl, _, rfl, wl, ahead R j, ws, rfl, ew4, hmw, by omega, fun m hm => ?_, fun ks hks kl H6 s6 hkl ekl => ?_⟩
    · cases hw : rdW ws with
      | none =>
        obtain ⟨ks, hk, _⟩ := km_good (ahead R j) hws hw
        rw [hk] at hm
        cases hm
      | some e =>
        rw [km_bad (ahead R j) hw] at hm
        obtain rfl : ahead R j + e = m := Sum.inl.inj hm
        refine (q1 _ ?_).from (sm.trans s4)
        rw [hrd, rd_bad hw]
        rfl
    cases hw : rdW ws with
    | some e =>
      rw [km_bad (ahead R j) hw] at hks
      cases hks
    | none =>
      obtain ⟨ks2, hk2, hf, hb⟩ := km_good (ahead R j) hws hw
      rw [hks] at hk2
      obtain rfl : ks = ks2 := Sum.inr.inj hk2
      refine ⟨wl, kl, ws, ks, ahead R j, ofD ws.length (schOf ws), rfl, s6 _ _ ew4, ekl, hws, by omega, hks, hb, fun v H7 s7 hv => ?_⟩
      have s37 := (s4.trans s6).trans s7
      have lus := Paired.length hus
      refine ⟨sl, _, _, rfl, rfl, s37 _ _ esl, small4000 (by omega), ?_⟩
      have t8 : TupK H7 (upd H7 sl (.lst (us ++ [v]))) := TupK.put (s37 _ _ esl)
      dsimp only
      refine ⟨_, rfl, _, rfl, wl, _, rfl, .inl (SqL.of (by rw [upd_ne nws]; exact (s6.trans s7) _ _ ew4)), _, _, rfl, rfl, ?_⟩
      refine ⟨some (.str row), some (.ref wl), us ++ [v], done ++ [schOf ws], ?_, upd_same, ?_, by rw [List.length_append, hdn]; rfl, ?_, ?_, Same.newer (sm.trans s37) hsl⟩
      · rw [hsc, List.length_map]
        rfl
      · exact paired_app (paired_imp hus fun a b hab => FrmR.keep hab (fun c xs e => t8 _ _ (s37 _ _ e))) (.cons ((frm_at hf hv).keep t8) .nil)
      · rw [hrd, rd_good hw, hsc]
      · rw [upd_ne nrs]
        exact s37 _ _ erl
  · rintro σ H3 ⟨v3, v4, us, done, rfl, esl, hus, hdn, hrd, erl, sm⟩
    rw [lrows] at hdn hrd
    rw [List.drop_length, rd_nil] at hrd
    have hrd : rdL 0 R = .inr done := by rw [hrd]; show (Sum.inr (done ++ []) : Nat ⊕ List Sch) = _; rw [List.append_nil]
    obtain ⟨q3, q4⟩ := q2 done hrd
    have lus := Paired.length hus
    dsimp only
    refine ⟨_, rfl, sl, us, rfl, .inl ⟨SqL.of esl, fun p hp => ?_⟩⟩
    have s5 : Same H3 (upd H3 p (.tup us)) := Same.new hp
    dsimp only [gName]
    have hus' := paired_imp hus fun a b hab => FrmR.keep hab (Same.tupK s5)
    refine ⟨_, rfl, p, done, us, rfl, upd_same, hus', ?_, by omega, fun n wh hb => (q3 n wh hb).from (sm.trans s5), fun hb H4 s6 => ?_⟩
    · omega
    · exact ⟨_, rfl, q4 hb p us H4 (sm.trans (s5.trans s6)) (sm.free hp) (s6 _ _ upd_same) (paired_imp hus' fun a b hab => FrmR.keep hab (Same.tupK s6))⟩
end
end MS
end
section
set_option maxRecDepth 100000
set_option maxHeartbeats 4000000
namespace MS
open PySem L2
open HeY
/-! ### the law's own counts -/
abbrev s_L_tally : Stmt := topS 52
abbrev nmTa : List Str := ["_law_scheme_here", "_law_tallies", "_law_steps", "_law_gates", "_law_kids", "_law_kid", "_law_more"]
theorem sc_L_tally : FnScope nmTa ["_law_scheme_here", "_law_tallies"] (defScope s_L_tally) := ⟨rfl, rfl, rfl, by decide +kernel, rfl, by decide +kernel, by decide +kernel⟩
/-- how a scheme holds the schemes within -/
theorem kid_view {H : Hp} {d : Nat} {s : Sch} {a : Addr} {nm : Str} {rest : List V} (h : SAt H (d + 1) s (.ref a)) (ea : H a = some (.tup (.str nm :: rest))) :
    ((nm = "all" ∨ nm = "best") ∧ ∃ b kv, rest = [.ref b] ∧ H b = some (.tup kv) ∧ Paired (SAt H d) (kidsOf s) kv) ∨
    ((nm ≠ "all" ∧ nm ≠ "best" ∧ nm ≠ "step") ∧ ∃ u k, atI (.str nm :: rest) (-1) = some u ∧ kidsOf s = [k] ∧ SAt H d k u) ∨
    ((nm ≠ "all" ∧ nm ≠ "best" ∧ (nm = "step" ∨ nm = "use")) ∧ kidsOf s = [] ∧ ∃ n, atI (.str nm :: rest) (-1) = some (.int n)) := by
  have inj : ∀ {a' : Addr} {nm' : Str} {rest' : List V}, (V.ref a = V.ref a') → H a' = some (.tup (.str nm' :: rest')) → nm' = nm ∧ rest' = rest := fun e h => by
    cases e
    rw [ea] at h
    cases h
    exact ⟨rfl, rfl⟩
  cases s with
  | step x p =>
    obtain ⟨a', e, h⟩ := h
    obtain ⟨rfl, rfl⟩ := inj e h
    exact .inr (.inr ⟨⟨by decide +kernel, by decide +kernel, .inl rfl⟩, rfl, p, rfl⟩)
  | all k =>
    obtain ⟨a', b, vs, e, h, eb, hk⟩ := h
    obtain ⟨rfl, rfl⟩ := inj e h
    exact .inl ⟨.inl rfl, b, vs, rfl, eb, hk⟩
  | best k =>
    obtain ⟨a', b, vs, e, h, eb, hk⟩ := h
    obtain ⟨rfl, rfl⟩ := inj e h
    exact .inl ⟨.inr rfl, b, vs, rfl, eb, hk⟩
  | most n s =>
    obtain ⟨a', u, e, h, hs⟩ := h
    obtain ⟨rfl, rfl⟩ := inj e h
    exact .inr (.inl ⟨⟨by decide +kernel, by decide +kernel, by decide +kernel⟩, u, s, rfl, rfl, hs⟩)
  | half s =>
    obtain ⟨a', u, e, h, hs⟩ := h
    obtain ⟨rfl, rfl⟩ := inj e h
    exact .inr (.inl ⟨⟨by decide +kernel, by decide +kernel, by decide +kernel⟩, u, s, rfl, rfl, hs⟩)
  | seen x s =>
    obtain ⟨a', u, e, h, hs⟩ := h
    obtain ⟨rfl, rfl⟩ := inj e h
    exact .inr (.inl ⟨⟨by decide +kernel, by decide +kernel, by decide +kernel⟩, u, s, rfl, rfl, hs⟩)
  | behind x s =>
    obtain ⟨a', u, e, h, hs⟩ := h
    obtain ⟨rfl, rfl⟩ := inj e h
    exact .inr (.inl ⟨⟨by decide +kernel, by decide +kernel, by decide +kernel⟩, u, s, rfl, rfl, hs⟩)
  | carry s =>
    obtain ⟨a', u, e, h, hs⟩ := h
    obtain ⟨rfl, rfl⟩ := inj e h
    exact .inr (.inl ⟨⟨by decide +kernel, by decide +kernel, by decide +kernel⟩, u, s, rfl, rfl, hs⟩)
  | fin x p s =>
    obtain ⟨a', u, e, h, hs⟩ := h
    obtain ⟨rfl, rfl⟩ := inj e h
    exact .inr (.inl ⟨⟨by decide +kernel, by decide +kernel, by decide +kernel⟩, u, s, rfl, rfl, hs⟩)
  | use n =>
    obtain ⟨a', e, h⟩ := h
    obtain ⟨rfl, rfl⟩ := inj e h
    exact .inr (.inr ⟨⟨by decide +kernel, by decide +kernel, .inr rfl⟩, rfl, _, rfl⟩)
theorem in_ab {nm : Str} (h : nm = "all" ∨ nm = "best") : inV (.str nm) [.str "all", .str "best"] = true := by
  rcases h with rfl | rfl <;> decide +kernel
theorem not_ab {nm : Str} (h1 : nm ≠ "all") (h2 : nm ≠ "best") : ¬ inV (.str nm) [.str "all", .str "best"] = true := by
  intro h
  unfold inV at h
  rw [List.any_cons, List.any_cons, List.any_nil, Bool.or_false, Bool.or_eq_true] at h
  rcases h with h | h
  · have h : (("all" : Str) == nm) = true := h
    exact h1 (eq_of_beq h).symm
  · have h : (("best" : Str) == nm) = true := h
    exact h2 (eq_of_beq h).symm
def tKidsG (K : PySem.W.Frag) (i0 : Nat) (tt : TT) : TE := tIf (tTest (tOp (rIn K false) (tOp (rIxT K) (tVar i0) (tC (.int 0))) (tTup (tCons (tC (.str "all")) (tCons (tC (.str "best")) tNil))))) (tCB (fun xs H Q => ∃ p ys, xs = [.ref p] ∧ (SqL K H p ys ∨ SqT K H p ys) ∧ ∀ l, H l = none → Q (.ref l) (upd H l (.lst ys))) (tCons (tOp (rIxT K) (tVar i0) (tC (.int 1))) tNil))
  (tIf tt (tLst (tCons (tOp (rIxT K) (tVar i0) (tUn (rU fun i => .int (-i)) (tC (.int 1)))) tNil)) (tLst tNil))
/-- the schemes within, as a list -/
theorem kidsG_ev {K : PySem.W.Frag} {σ : St} {H : Hp} {i0 d : Nat} {a : Addr} {nm : Str} {rest : List V} {s : Sch} {tt : TT} {Q : VK} (s0 : σ[i0]? = some (some (.ref a))) (ea : H a = some (.tup (.str nm :: rest))) (hs : SAt H (d + 1) s (.ref a))
    (htt : ∀ (H1 : Hp) (b : Bool), Same H H1 → (b = true → (nm ≠ "all" ∧ nm ≠ "best" ∧ nm ≠ "step") ∧ ∃ c xs, atI (.str nm :: rest) (-1) = some (.ref c) ∧ H1 c = some (.tup xs)) → (b = false → (nm = "step" ∨ nm = "use") ∧ ∃ n, atI (.str nm :: rest) (-1) = some (.int n)) → ∀ Q2 : Bool → Hp → Prop, (∀ H2, Same H1 H2 → Q2 b H2) → tt σ H1 Q2)
    (h : ∀ (f : Addr) (kv : List V) (H4 : Hp), Same H H4 → H f = none → H4 f = some (.lst kv) → Paired (SAt H4 d) (kidsOf s) kv → Q (.ref f) H4) : tKidsG K i0 tt σ H Q := by
  refine ⟨_, s0, a, _, 0, .str nm, rfl, rfl, SqT.of ea, at0, sz2, fun t ht => ⟨t, _, rfl, .inr (SqT.of upd_same), rfl, rfl, _, rfl, ?_⟩⟩
  have s1 : Same H (upd H t (.tup [.str "all", .str "best"])) := Same.new ht
  have ea1 := s1 _ _ ea
  show (if inV (.str nm) [.str "all", .str "best"] = true then _ else _)
  rcases kid_view hs ea with ⟨hn, b, kv, rfl, eb, hk⟩ | ⟨⟨n1, n2, n3⟩, u, k, eu, ek, hk⟩ | ⟨⟨n1, n2, n3⟩, ek, n, en⟩
  · rw [if_pos (in_ab hn)]
    refine ⟨_, s0, a, _, 1, .ref b, rfl, rfl, SqT.of ea1, at1, b, kv, rfl, .inr (SqT.of (s1 _ _ eb)), fun l hl => ?_⟩
    have s2 := Same.trans s1 (Same.new (o := .lst kv) hl)
    exact h l kv _ s2 (s1.free hl) upd_same (paired_imp hk fun _ _ z => SAt.keep (Same.tupK s2) _ _ _ z)
  · rw [if_neg (not_ab n1 n2)]
    obtain ⟨c, nm2, r2, rfl, ec⟩ := hk.tag
    refine htt _ true s1 (fun _ => ⟨⟨n1, n2, n3⟩, c, _, eu, s1 _ _ ec⟩) (fun z => nomatch z) _ fun H2 s2 => iteT ?_
    have s3 := Same.trans s1 s2
    refine ⟨_, s0, 1, rfl, a, _, -1, .ref c, rfl, rfl, SqT.of (s3 _ _ ea), eu, szN (by show 1 ≤ 1000; decide), fun l hl => ?_⟩
    have s4 := Same.trans s3 (Same.new (o := .lst [.ref c]) hl)
    refine h l [.ref c] _ s4 (s3.free hl) upd_same ?_
    rw [ek]
    exact .cons (SAt.keep (Same.tupK s4) _ _ _ hk) .nil
  · rw [if_neg (not_ab n1 n2)]
    refine htt _ false s1 (fun z => nomatch z) (fun _ => ⟨n3, n, en⟩) _ fun H2 s2 => iteF ⟨Nat.zero_le _, fun l hl => ?_⟩
    have s3 := Same.trans s1 s2
    refine h l [] _ (Same.trans s3 (Same.new hl)) (s3.free hl) upd_same ?_
    rw [ek]
    exact .nil
def TalAt (H : Hp) (td : Addr) (i M : Nat) (ce cw : Nat → Int) : Prop := ∃ kvs, H td = some (.dK kvs) ∧ ∀ n, i < n → n < M → ∃ t, valV kvs (.inl ((n : Nat) : Int)) = some (.ref t) ∧ H t = some (.tup [.int (ce n), .int (cw n)])
theorem TalAt.keep {H H' : Hp} {td : Addr} {i M : Nat} {ce cw : Nat → Int} (h : TalAt H td i M ce cw) (s : Same H H') : TalAt H' td i M ce cw := by
  obtain ⟨kvs, e, q⟩ := h
  refine ⟨kvs, s _ _ e, fun n h1 h2 => ?_⟩
  obtain ⟨t, e1, e2⟩ := q n h1 h2
  exact ⟨t, e1, s _ _ e2⟩
def spTally (i M : Nat) (ce cw : Nat → Int) (d : Nat) : Sp := fun vs H Q _ => ∃ (v : V) (td : Addr) (s : Sch), vs = [v, .ref td] ∧ SAt H d s v ∧ OkS i M d s ∧ TalAt H td i M ce cw ∧ ∀ (t : Addr) (H' : Hp), Same H H' → H' t = some (.tup [.int (er ce d s), .int (wr cw d s)]) → Q (.ref t) H'
section
variable {P : Program} {w : World} {K : PySem.W.Frag} {mg : Str → Option Value} {base : Heap}
theorem tally_turn {i M d : Nat} {ce cw : Nat → Int} (T : PTx w K mg) (D : Def K mg "_law_tally" s_L_tally ["_law_scheme_here", "_law_tallies"]) (G : FnOk P w K mg base CX0 d D.f D.fd ["_law_scheme_here", "_law_tallies"] (spTally i M ce cw d)) :
    FnOk P w K mg base CX0 (d + 1) D.f D.fd ["_law_scheme_here", "_law_tallies"] (spTally i M ce cw (d + 1)) := by
  have mi : mg "int" = none := T.free "int" (by decide +kernel)
  have mli : mg "list" = none := T.free "list" (by decide +kernel)
  have nd := sc_L_tally.nd
  refine D.ok sc_L_tally (fun vs H Q E h => ?_) (fun cdv A outer s H vs Q E hr h => ?_)
  · obtain ⟨v, td, s, rfl, _⟩ := h
    rfl
  obtain ⟨v, td, sc, rfl, hs, ho, ht, q⟩ := h
  have hu := hu_of hr
  refine ⟨_, pss_cons (ps_if (pt_cmpR op_eq (pe_ix ix_tup (pv 0) pe_int (fun _ _ => rfl)) pe_str (nomark _)) (pss_one (ps_ret (pe_dget hu (pv 1) (pe_ix ix_tup (pv 0) pe_int (fun _ _ => rfl)) (fun _ _ => rfl)))) pss_nil)
    (pss_cons (ps_par (i := 2) (j := 3) (by rfl) nd rfl rfl (by decide) rfl rfl (pa_cons (pe_callTy call_int1 rfl mi (by decide +kernel) (pa_cons (pe_cmpR op_in_seq (pe_ix ix_tup (pv 0) pe_int (fun _ _ => rfl)) (pe_tup (pa_cons pe_str (pa_cons pe_str pa_nil))) (by rfl)) pa_nil))
      (pa_cons (pe_callTy call_int1 rfl mi (by decide +kernel) (pa_cons (pe_cmpR op_in_seq (pe_ix ix_tup (pv 0) pe_int (fun _ _ => rfl)) (pe_tup (pa_cons pe_str (pa_cons pe_str pa_nil))) (by rfl)) pa_nil)) pa_nil)) (by rfl))
    (pss_cons (ps_set (i := 4) nd rfl (Or.inl rfl) (pe_ifExp (pt_cmpR op_in_seq (pe_ix ix_tup (pv 0) pe_int (fun _ _ => rfl)) (pe_tup (pa_cons pe_str (pa_cons pe_str pa_nil))) (by rfl)) (pe_callTy call_list_of rfl mli (by decide +kernel) (pa_cons (pe_ix ix_tup (pv 0) pe_int (fun _ _ => rfl)) pa_nil))
      (pe_ifExp (pt_cmpR op_ne (pe_ix ix_tup (pv 0) pe_int (fun _ _ => rfl)) pe_str (nomark _)) (pe_lst (pa_cons (pe_ix ix_tup (pv 0) (pe_un un_neg pe_int) (fun _ _ => rfl)) pa_nil)) (pe_lst pa_nil))))
    (pss_cons (ps_for PassesOwn.never rfl (pi_list (pv 4)) (pg_name (i := 5) nd rfl (Or.inl rfl))
      (pss_cons (ps_set (i := 6) nd rfl (Or.inl rfl) (pcall D G hr (pa_cons (pv 5) (pa_cons (pv 1) pa_nil))))
      (pss_one (ps_par (i := 2) (j := 3) (by rfl) nd rfl rfl (by decide) rfl rfl (pa_cons (pe_op op_add (pv 2) (pe_ix ix_tup (pv 6) pe_int (fun _ _ => rfl))) (pa_cons (pe_op op_add (pv 3) (pe_ix ix_tup (pv 6) pe_int (fun _ _ => rfl))) pa_nil)) (by rfl)))))
    (pss_one (ps_ret (pe_tup (pa_cons (pv 2) (pa_cons (pv 3) pa_nil)))))))), ?_⟩
  obtain ⟨a, nm, rest, rfl, ea⟩ := hs.tag
  rcases own_tag hs ea with ⟨n, rfl, rfl, rfl⟩ | ⟨nu, hown⟩
  · refine seq_if (b := true) (fun Q q => ⟨_, rfl, a, _, 0, .str "use", rfl, rfl, SqT.of ea, at0, rfl, _, rfl, by rw [dec_str]; exact q⟩) (fun _ => ?_) (fun z => nomatch z)
    obtain ⟨kvs, ed, hq⟩ := ht
    obtain ⟨t, e1, e2⟩ := hq n ho.1 ho.2
    have g : DGet H td (.int ((n : Nat) : Int)) (valV kvs (.inl ((n : Nat) : Int))) := DGet.k (k := .inl ((n : Nat) : Int)) ed
    rw [e1] at g
    exact ⟨_, rfl, _, rfl, a, _, 1, .int ((n : Nat) : Int), rfl, rfl, SqT.of ea, at1, td, .ref t, rfl, g, q t H (Same.refl _) e2⟩
  refine seq_if (b := false) (fun Q q => ⟨_, rfl, a, _, 0, .str nm, rfl, rfl, SqT.of ea, at0, rfl, _, rfl, by rw [dec_str, nu]; exact q⟩) (fun z => nomatch z) (fun _ => ?_)
  refine ⟨_, rfl, a, _, 0, .str nm, rfl, rfl, SqT.of ea, at0, sz2, fun t1 h1 => ⟨t1, _, rfl, .inr (SqT.of upd_same), rfl, rfl, .inr ⟨_, rfl, ?_⟩⟩⟩
  have s1 : Same H (upd H t1 (.tup [.str "step", .str "end"])) := Same.new h1
  refine ⟨_, rfl, a, _, 0, .str nm, rfl, rfl, SqT.of (s1 _ _ ea), at0, sz2, fun t2 h2 => ⟨t2, _, rfl, .inr (SqT.of upd_same), rfl, rfl, .inr ⟨_, rfl, _, _, rfl, ?_⟩⟩⟩
  have s2 : Same H (upd (upd H t1 (.tup [.str "step", .str "end"])) t2 (.tup [.str "seen", .str "behind"])) := Same.trans s1 (Same.new h2)
  generalize upd (upd H t1 (.tup [.str "step", .str "end"])) t2 (.tup [.str "seen", .str "behind"]) = H2 at s2 ⊢
  dsimp only [gName]
  have oE : (if (if false = true then !inV (.str nm) [.str "step", .str "end"] else inV (.str nm) [.str "step", .str "end"]) = true then (1 : Int) else 0) = ownE ce sc := (hown true ce).symm
  have oW : (if (if false = true then !inV (.str nm) [.str "seen", .str "behind"] else inV (.str nm) [.str "seen", .str "behind"]) = true then (1 : Int) else 0) = ownW cw sc := (hown false cw).symm
  rw [oE, oW]
  refine kidsG_ev (K := K) (i0 := 0) rfl (s2 _ _ ea) (SAt.keep (Same.tupK s2) _ _ _ hs) (fun H3 b s3 hb1 hb2 Q2 q2 => ?_) (fun f kv H4 s4 hf ef pk => ?_)
  · refine ⟨_, rfl, a, _, 0, .str nm, rfl, rfl, SqT.of (s3 _ _ (s2 _ _ ea)), at0, rfl, _, rfl, ?_⟩
    cases b with
    | true =>
      obtain ⟨⟨_, _, n3⟩, _⟩ := hb1 rfl
      rw [show (!decide (V.str nm = V.str "step")) = true by rw [decide_eq_false (fun z => n3 (V.str.inj z))]; rfl]
      exact q2 _ (Same.refl _)
    | false =>
      obtain ⟨n3, _⟩ := hb2 rfl
      rcases n3 with rfl | rfl
      · rw [show (!decide (V.str "step" = V.str "step")) = false by rw [decide_eq_true rfl]; rfl]
        exact q2 _ (Same.refl _)
      · exact absurd nu (by decide +kernel)
  dsimp only [gName]
  have s24 := Same.trans s2 s4
  have lk := Paired.length pk
  refine ⟨_, rfl, f, rfl, ⟨_, SqL.of ef⟩, ?_⟩
  refine for_list (K := K) (a := f) (xs := kv) (fun j σ H' => ∃ v5 v6, σ = [some (.ref a), some (.ref td), some (.int (ownE ce sc + (((kidsOf sc).take j).map (er ce d)).sum)), some (.int (ownW cw sc + (((kidsOf sc).take j).map (wr cw d)).sum)), some (.ref f), v5, v6] ∧ Same H4 H')
      ⟨none, none, by simp [L2.start], Same.refl _⟩ (fun j σ H' _ ⟨_, _, _, s5⟩ => SqL.of (s5 _ _ ef)) ?_ ?_
  · rintro j y σ H5 hy ⟨v5, v6, rfl, s5⟩
    obtain ⟨k, ek, hk⟩ := paired_get' pk hy
    have hj := (List.getElem?_eq_some_iff.mp ek).1
    have htk : (kidsOf sc).take (j + 1) = (kidsOf sc).take j ++ [k] := by rw [List.take_succ, ek]; rfl
    dsimp only [gName]
    refine ⟨_, rfl, _, rfl, y, td, k, rfl, SAt.keep (Same.tupK s5) _ _ _ hk, ok_kids ho k (List.mem_of_getElem? ek), ht.keep (Same.trans s24 s5), fun t H6 s6 et => ?_⟩
    dsimp only [gName]
    refine ⟨_, rfl, _, rfl, t, _, 0, .int (er ce d k), rfl, rfl, SqT.of et, at0, _, _, rfl, rfl, _, rfl, _, rfl, t, _, 1, .int (wr cw d k), rfl, rfl, SqT.of et, at1, _, _, rfl, rfl, _, _, rfl, ?_⟩
    refine ⟨some y, some (.ref t), ?_, Same.trans s5 s6⟩
    rw [htk, List.map_append, List.sum_append, List.map_append, List.sum_append, List.map_singleton, List.sum_singleton, List.map_singleton, List.sum_singleton, ← Int.add_assoc, ← Int.add_assoc]
    rfl
  · rintro σ H5 ⟨v5, v6, rfl, s5⟩
    rw [← lk, List.take_length, ← er_kids, ← wr_kids]
    exact ⟨_, rfl, _, rfl, sz2, fun t ht' => q t _ (Same.trans (Same.trans s24 s5) (Same.new ht')) upd_same⟩
theorem ok_L_tally {i M : Nat} {ce cw : Nat → Int} (T : PTx w K mg) (D : Def K mg "_law_tally" s_L_tally ["_law_scheme_here", "_law_tallies"]) : ∀ d : Nat, FnOk P w K mg base CX0 d D.f D.fd ["_law_scheme_here", "_law_tallies"] (spTally i M ce cw d)
  | 0 => by
    have no : ∀ vs H Q E, ¬ spTally i M ce cw 0 vs H Q E := fun vs H Q E h => by
      obtain ⟨v, td, s, _, h, _⟩ := h
      cases h
    exact ⟨fun vs H Q E h => absurd h (no vs H Q E), fun A outer s H args us vs Q E _ _ _ _ h => absurd h (no vs H Q E)⟩
  | d + 1 => tally_turn T D (ok_L_tally T D d)
end
end MS
end
section
set_option maxRecDepth 100000
set_option maxHeartbeats 4000000
namespace MS
open PySem L2
open HeY XLs
/-! ### the law's first bad place -/
abbrev s_L_first_bad : Stmt := topS 51
abbrev nmFb : List Str := ["_law_paper_here", "_law_tallies", "_law_number_here", "_law_left", "_law_many", "_law_place", "_law_one", "_law_kids", "_law_bad", "_law_k"]
theorem sc_L_first_bad : FnScope nmFb ["_law_paper_here"] (defScope s_L_first_bad) := ⟨rfl, rfl, rfl, by decide +kernel, rfl, by decide +kernel, by decide +kernel⟩
/-- what the law asks of a scheme itself, in three parts -/
structure OwnB (i M : Nat) (sc : Sch) (nm : Str) (rest : List V) (b1 b2 b3 : Bool) : Prop where
  p1 : (inV (.str nm) [.str "all", .str "best"] = true ∧ nm ≠ "most" ∧ b1 = !decide (1 ≤ (kidsOf sc).length ∧ (kidsOf sc).length ≤ 4)) ∨ (inV (.str nm) [.str "all", .str "best"] = false ∧ ((nm = "most" ∧ ∃ n, atI (.str nm :: rest) 1 = some (.int n) ∧ b1 = decide (30 < n)) ∨ (nm ≠ "most" ∧ b1 = false)))
  p2 : (inV (.str nm) [.str "step", .str "end"] = true ∧ ∃ p, atI (.str nm :: rest) 2 = some (.int p) ∧ b2 = !decide (1 ≤ p ∧ p ≤ 9)) ∨ (inV (.str nm) [.str "step", .str "end"] = false ∧ b2 = false)
  p3 : (nm = "use" ∧ ∃ n : Nat, atI (.str nm :: rest) 1 = some (.int ((n : Nat) : Int)) ∧ b3 = !decide (i < n ∧ n < M)) ∨ (nm ≠ "use" ∧ b3 = false)
  sum : okOwn i M sc = !(b1 || b2 || b3)
theorem nn (b : Bool) : b = !(!b) := by cases b <;> rfl
theorem o1 (b : Bool) : b = !((!b || false) || false) := by cases b <;> rfl
theorem o2 (b : Bool) : b = !((false || !b) || false) := by cases b <;> rfl
theorem o3 (b : Bool) : b = !((false || false) || !b) := by cases b <;> rfl
theorem own_bad {H : Hp} {i M d : Nat} {sc : Sch} {a : Addr} {nm : Str} {rest : List V} (h : SAt H (d + 1) sc (.ref a)) (o : Frm (d + 1) sc) (ea : H a = some (.tup (.str nm :: rest))) : ∃ b1 b2 b3, OwnB i M sc nm rest b1 b2 b3 := by
  have inj : ∀ {a' : Addr} {nm' : Str} {rest' : List V}, (V.ref a = V.ref a') → H a' = some (.tup (.str nm' :: rest')) → nm' = nm ∧ rest' = rest := fun e h => by
    cases e
    rw [ea] at h
    cases h
    exact ⟨rfl, rfl⟩
  cases sc with
  | step x p =>
    obtain ⟨a', e, h⟩ := h
    obtain ⟨rfl, rfl⟩ := inj e h
    exact ⟨false, !decide (1 ≤ p ∧ p ≤ 9), false, .inr ⟨by decide +kernel, .inr ⟨by decide +kernel, rfl⟩⟩, .inl ⟨by decide +kernel, p, rfl, rfl⟩, .inr ⟨by decide +kernel, rfl⟩, o2 _⟩
  | all k =>
    obtain ⟨a', b, vs, e, h, eb, hk⟩ := h
    obtain ⟨rfl, rfl⟩ := inj e h
    exact ⟨!decide (1 ≤ k.length ∧ k.length ≤ 4), false, false, .inl ⟨by decide +kernel, by decide +kernel, rfl⟩, .inr ⟨by decide +kernel, rfl⟩, .inr ⟨by decide +kernel, rfl⟩, o1 _⟩
  | best k =>
    obtain ⟨a', b, vs, e, h, eb, hk⟩ := h
    obtain ⟨rfl, rfl⟩ := inj e h
    exact ⟨!decide (1 ≤ k.length ∧ k.length ≤ 4), false, false, .inl ⟨by decide +kernel, by decide +kernel, rfl⟩, .inr ⟨by decide +kernel, rfl⟩, .inr ⟨by decide +kernel, rfl⟩, o1 _⟩
  | most n s =>
    obtain ⟨a', u, e, h, hs⟩ := h
    obtain ⟨rfl, rfl⟩ := inj e h
    refine ⟨decide (30 < n), false, false, .inr ⟨by decide +kernel, .inl ⟨rfl, n, rfl, rfl⟩⟩, .inr ⟨by decide +kernel, rfl⟩, .inr ⟨by decide +kernel, rfl⟩, ?_⟩
    have h0 : 0 ≤ n := o.1.1
    show decide (0 ≤ n ∧ n ≤ 30) = !(decide (30 < n) || false || false)
    by_cases c : 30 < n
    · rw [decide_eq_true c, decide_eq_false (fun z => by omega)]
      rfl
    · rw [decide_eq_false c, decide_eq_true ⟨h0, by omega⟩]
      rfl
  | half s =>
    obtain ⟨a', u, e, h, hs⟩ := h
    obtain ⟨rfl, rfl⟩ := inj e h
    exact ⟨false, false, false, .inr ⟨by decide +kernel, .inr ⟨by decide +kernel, rfl⟩⟩, .inr ⟨by decide +kernel, rfl⟩, .inr ⟨by decide +kernel, rfl⟩, rfl⟩
  | seen x s =>
    obtain ⟨a', u, e, h, hs⟩ := h
    obtain ⟨rfl, rfl⟩ := inj e h
    exact ⟨false, false, false, .inr ⟨by decide +kernel, .inr ⟨by decide +kernel, rfl⟩⟩, .inr ⟨by decide +kernel, rfl⟩, .inr ⟨by decide +kernel, rfl⟩, rfl⟩
  | behind x s =>
    obtain ⟨a', u, e, h, hs⟩ := h
    obtain ⟨rfl, rfl⟩ := inj e h
    exact ⟨false, false, false, .inr ⟨by decide +kernel, .inr ⟨by decide +kernel, rfl⟩⟩, .inr ⟨by decide +kernel, rfl⟩, .inr ⟨by decide +kernel, rfl⟩, rfl⟩
  | carry s =>
    obtain ⟨a', u, e, h, hs⟩ := h
    obtain ⟨rfl, rfl⟩ := inj e h
    exact ⟨false, false, false, .inr ⟨by decide +kernel, .inr ⟨by decide +kernel, rfl⟩⟩, .inr ⟨by decide +kernel, rfl⟩, .inr ⟨by decide +kernel, rfl⟩, rfl⟩
  | fin x p s =>
    obtain ⟨a', u, e, h, hs⟩ := h
    obtain ⟨rfl, rfl⟩ := inj e h
    exact ⟨false, !decide (1 ≤ p ∧ p ≤ 9), false, .inr ⟨by decide +kernel, .inr ⟨by decide +kernel, rfl⟩⟩, .inl ⟨by decide +kernel, p, rfl, rfl⟩, .inr ⟨by decide +kernel, rfl⟩, o2 _⟩
  | use n =>
    obtain ⟨a', e, h⟩ := h
    obtain ⟨rfl, rfl⟩ := inj e h
    exact ⟨false, false, !decide (i < n ∧ n < M), .inr ⟨by decide +kernel, .inr ⟨by decide +kernel, rfl⟩⟩, .inr ⟨by decide +kernel, rfl⟩, .inl ⟨rfl, n, rfl, rfl⟩, o3 _⟩
theorem set_new {te : TE} {i : Nat} {r : TS} {D : Ends} {σ : St} {H : Hp} {v : V} (h : ∀ Q : VK, (∀ H', Same H H' → Q v H') → te σ H Q) (k : ∀ H', Same H H' → r D (σ.set i (some v)) H') : tSeq (tAsg te (gName i)) r D σ H := h _ fun H' s => k H' s
theorem or_ev {ta tb : TE} {σ : St} {H : Hp} {b c : Bool} (h1 : ∀ Q : VK, (∀ H', Same H H' → Q (.bl b) H') → ta σ H Q) (h2 : b = false → ∀ H', Same H H' → ∀ Q : VK, (∀ H'', Same H' H'' → Q (.bl c) H'') → tb σ H' Q) : ∀ Q : VK, (∀ H', Same H H' → Q (.bl (b || c)) H') → tOrV ta tb σ H Q := fun Q q => h1 _ fun H' s => ⟨b, rfl, by
  cases b with
  | true => exact iteT (q H' s)
  | false => exact iteF (h2 rfl H' s _ fun H'' s'' => q H'' (Same.trans s s''))⟩
theorem and_ev {ta tb : TE} {σ : St} {H : Hp} {b c : Bool} (h1 : ∀ Q : VK, (∀ H', Same H H' → Q (.bl b) H') → ta σ H Q) (h2 : b = true → ∀ H', Same H H' → ∀ Q : VK, (∀ H'', Same H' H'' → Q (.bl c) H'') → tb σ H' Q) : ∀ Q : VK, (∀ H', Same H H' → Q (.bl (b && c)) H') → tAndV ta tb σ H Q := fun Q q => h1 _ fun H' s => ⟨b, rfl, by
  cases b with
  | false => exact iteF (q H' s)
  | true => exact iteT (h2 rfl H' s _ fun H'' s'' => q H'' (Same.trans s s''))⟩
theorem not_ev {ta : TE} {σ : St} {H : Hp} {b : Bool} (h1 : ∀ Q : VK, (∀ H', Same H H' → Q (.bl b) H') → ta σ H Q) : ∀ Q : VK, (∀ H', Same H H' → Q (.bl (!b)) H') → tNotV ta σ H Q := fun Q q => h1 _ fun H' s => ⟨b, rfl, q H' s⟩
theorem in_ev {K : PySem.W.Frag} {σ : St} {H : Hp} {i0 : Nat} {a : Addr} {nm x y : Str} {rest : List V} {b : Bool} (s0 : σ[i0]? = some (some (.ref a))) (ea : H a = some (.tup (.str nm :: rest))) (hb : inV (.str nm) [.str x, .str y] = b) :
    ∀ Q : VK, (∀ H', Same H H' → Q (.bl b) H') → tOp (rIn K false) (tOp (rIxT K) (tVar i0) (tC (.int 0))) (tTup (tCons (tC (.str x)) (tCons (tC (.str y)) tNil))) σ H Q := fun Q q =>
  ⟨_, s0, a, _, 0, .str nm, rfl, rfl, SqT.of ea, at0, sz2, fun t ht => ⟨t, _, rfl, .inr (SqT.of upd_same), rfl, rfl, by
    show Q (.bl (inV (.str nm) [.str x, .str y])) _
    rw [hb]
    exact q _ (Same.new ht)⟩⟩
theorem eq_ev {K : PySem.W.Frag} {σ : St} {H : Hp} {i0 : Nat} {a : Addr} {nm x : Str} {rest : List V} {b : Bool} (s0 : σ[i0]? = some (some (.ref a))) (ea : H a = some (.tup (.str nm :: rest))) (hb : (nm == x) = b) :
    ∀ Q : VK, (∀ H', Same H H' → Q (.bl b) H') → tOp rEq (tOp (rIxT K) (tVar i0) (tC (.int 0))) (tC (.str x)) σ H Q := fun Q q =>
  ⟨_, s0, a, _, 0, .str nm, rfl, rfl, SqT.of ea, at0, rfl, by
    rw [dec_str, hb]
    exact q _ (Same.refl _)⟩
theorem chain_ev {f g : Int → Int → Bool} {ta tb tc : TE} {σ : St} {H : Hp} {x y z : Int} (h1 : ∀ Q : VK, Q (.int x) H → ta σ H Q) (h2 : ∀ Q : VK, Q (.int y) H → tb σ H Q) (h3 : ∀ Q : VK, Q (.int z) H → tc σ H Q) :
    ∀ Q : VK, (∀ H', Same H H' → Q (.bl (f x y && g y z)) H') → tChain (rI0 fun i j => .bl (f i j)) (rI0 fun i j => .bl (g i j)) ta tb tc σ H Q := fun Q q => h1 _ (h2 _ ⟨x, y, rfl, rfl, f x y, rfl, by
  cases e : f x y with
  | true =>
    have := q H (Same.refl _)
    rw [e, Bool.true_and] at this
    exact iteT (h3 _ ⟨y, z, rfl, rfl, this⟩)
  | false =>
    have := q H (Same.refl _)
    rw [e, Bool.false_and] at this
    exact iteF this⟩)
theorem dec2 {a b : Prop} [Decidable a] [Decidable b] : (decide a && decide b) = decide (a ∧ b) := by
  by_cases h : a
  · rw [decide_eq_true h, Bool.true_and, dec_and h]
  · rw [decide_eq_false h, Bool.false_and, dec_nand h]
theorem neq_b {x y : Str} (h : x ≠ y) : (x == y) = false := beq_eq_false_iff_ne.mpr h
theorem ba1 (b : Bool) : (true && b || false) = b := by cases b <;> rfl
theorem ba2 (b c : Bool) : (false && c || (true && b)) = b := by cases b <;> rfl
theorem ba3 (b c : Bool) : (false && c || (false && b)) = false := rfl
def FbIn (i M : Nat) (s : Sch) (pl td : Addr) (H0 : Hp) (m : Nat) (σ : St) (H' : Hp) : Prop :=
  ∃ (wl : Addr) (done : Nat) (L : List (List Nat × Sch)) (wv : List V) (v5 v6 v7 v8 : Option V), σ = [some (.ref pl), some (.ref td), some (.int ((i : Nat) : Int)), some (.ref wl), some (.int ((done : Nat) : Int)), v5, v6, v7, v8, none] ∧ H' wl = some (.lst wv) ∧ H0 wl = none ∧
    Paired (WaitX H') L wv ∧ fbW i M (12 - done) L = fbW i M 12 [([], s)] ∧ done ≤ 12 ∧ L.length ≤ 1 + 4 * done ∧ m = 12 - done ∧ Same H0 H'
def spFirstBad : Sp := fun vs H Q _ => ∃ (pl : Addr) (ps : List Sch) (pv : List V), vs = [.ref pl] ∧ H pl = some (.lst pv) ∧ Paired (FrmR H) ps pv ∧ 0 < ps.length ∧ ps.length ≤ 1800 ∧
  (∀ n wh, badP ps = some (n, wh) → ∀ (t q : Addr) (H' : Hp), Same H H' → H' t = some (.tup [.int ((n : Nat) : Int), .ref q]) → H' q = some (.tup (natV wh)) → Q (.ref t) H') ∧ (badP ps = none → ∀ H', Same H H' → Q .non H')
def spTallyA : Sp := fun vs H Q E => ∃ g : Gp, spTally g.i g.M g.ce g.cw 5 vs H Q E
section
variable {P : Program} {w : World} {K : PySem.W.Frag} {mg : Str → Option Value} {base : Heap}
theorem ok_first_bad (T : PTx w K mg) (D : Def K mg "_law_first_bad" s_L_first_bad ["_law_paper_here"]) (DT : Def K mg "_law_tally" s_L_tally ["_law_scheme_here", "_law_tallies"]) : FnOk P w K mg base CX0 6 D.f D.fd ["_law_paper_here"] spFirstBad := by
  have GT : FnOk P w K mg base CX0 5 DT.f DT.fd ["_law_scheme_here", "_law_tallies"] spTallyA := fn_any fun g : Gp => ok_L_tally T DT 5
  have mli : mg "list" = none := T.free "list" (by decide +kernel)
  have ml : mg "len" = none := T.free "len" (by decide +kernel)
  have mr : mg "range" = none := T.free "range" (by decide +kernel)
  have mis : mg "isinstance" = none := T.free "isinstance" (by decide +kernel)
  have mt : mg "tuple" = none := T.free "tuple" (by decide +kernel)
  have nd := sc_L_first_bad.nd
  refine D.ok sc_L_first_bad (fun vs H Q E h => ?_) (fun cdv A outer s H vs Q E hr h => ?_)
  · obtain ⟨pl, ps, pv, rfl, _⟩ := h
    rfl
  obtain ⟨pl, ps, pv0, rfl, epl, pp, hpos, hM9, q1, q2⟩ := h
  have hu := hu_of hr
  have hu0 : (A.deeper (PyProof.Rows.envOfC "_law_first_bad" (defScope s_L_first_bad) s.heap.objs.size D.f cdv)).units < cLine := by omega
  refine ⟨_, pss_cons (ps_set (i := 1) nd rfl (Or.inl rfl) pe_dnewK)
    (pss_cons (ps_for PassesOwn.never rfl (pi_range1 rfl mr (pa_cons (pe_callB call_len_seq rfl ml PySem.boot_len (pa_cons (pv 0) pa_nil)) pa_nil)) (pg_name (i := 2) nd rfl (Or.inl rfl))
      (pss_cons (ps_par (i := 3) (j := 4) (by rfl) nd rfl rfl (by decide) rfl rfl (pa_cons (pe_lst (pa_cons (pe_tup (pa_cons (pe_tup pa_nil) (pa_cons (pe_ix ix_list (pv 0) (pv 2) (fun _ _ => rfl)) pa_nil))) pa_nil)) (pa_cons pe_int pa_nil)) (by rfl))
      (pss_cons (ps_while PassesOwn.never (PW.pt (pw_and (pt_cmpR (op_neE hu0) (pv 3) (pe_lst pa_nil) (nomark _)) (pw_and1 (pt_cmpR op_lt (pv 2) pe_int (nomark _)))))
        (pss_cons (ps_asg (pe_bm PySem.F.plainAttrs_list PySem.F.slot_list_pop PySem.F.type_list_pop mt_popAt (pv 3) (pa_cons pe_int pa_nil)) (pg_tup (by rfl) (pgs_cons (pg_name (i := 5) nd rfl (Or.inr rfl)) (pgs_cons (pg_name (i := 6) nd rfl (Or.inl rfl)) pgs_nil))))
        (pss_cons (ps_set (i := 4) nd rfl (Or.inl rfl) (pe_op op_add (pv 4) pe_int))
        (pss_cons (ps_set (i := 7) nd rfl (Or.inr rfl) (pe_ifExp (pt_cmpR op_in_seq (pe_ix ix_tup (pv 6) pe_int (fun _ _ => rfl)) (pe_tup (pa_cons pe_str (pa_cons pe_str pa_nil))) (by rfl)) (pe_callTy call_list_of rfl mli (by decide +kernel) (pa_cons (pe_ix ix_tup (pv 6) pe_int (fun _ _ => rfl)) pa_nil))
          (pe_ifExp (pt_val (pe_callB call_isi rfl mis (by decide +kernel) (pa_cons (pe_ix ix_tup (pv 6) (pe_un un_neg pe_int) (fun _ _ => rfl)) (pa_cons (pe_bltn rfl mt (by decide +kernel) (v := .ty "tuple") rfl) pa_nil)))) (pe_lst (pa_cons (pe_ix ix_tup (pv 6) (pe_un un_neg pe_int) (fun _ _ => rfl)) pa_nil)) (pe_lst pa_nil))))
        (pss_cons (ps_set (i := 8) nd rfl (Or.inl rfl) (pe_or (pe_and (pe_cmpR op_in_seq (pe_ix ix_tup (pv 6) pe_int (fun _ _ => rfl)) (pe_tup (pa_cons pe_str (pa_cons pe_str pa_nil))) (by rfl)) (pe_one (pe_not (pe_chain op_le op_le pe_int (pe_callB call_len_seq rfl ml PySem.boot_len (pa_cons (pv 7) pa_nil)) pe_int))))
          (pe_one (pe_and (pe_cmpR op_eq (pe_ix ix_tup (pv 6) pe_int (fun _ _ => rfl)) pe_str (nomark _)) (pe_one (pe_cmpR op_gt (pe_ix ix_tup (pv 6) pe_int (fun _ _ => rfl)) pe_int (nomark _)))))))
        (pss_cons (ps_set (i := 8) nd rfl (Or.inl rfl) (pe_or (pv 8) (pe_one (pe_and (pe_cmpR op_in_seq (pe_ix ix_tup (pv 6) pe_int (fun _ _ => rfl)) (pe_tup (pa_cons pe_str (pa_cons pe_str pa_nil))) (by rfl)) (pe_one (pe_not (pe_chain op_le op_le pe_int (pe_ix ix_tup (pv 6) pe_int (fun _ _ => rfl)) pe_int)))))))
        (pss_cons (ps_set (i := 8) nd rfl (Or.inl rfl) (pe_or (pv 8) (pe_one (pe_and (pe_cmpR op_eq (pe_ix ix_tup (pv 6) pe_int (fun _ _ => rfl)) pe_str (nomark _)) (pe_one (pe_not (pe_chain op_lt op_lt (pv 2) (pe_ix ix_tup (pv 6) pe_int (fun _ _ => rfl)) (pe_callB call_len_seq rfl ml PySem.boot_len (pa_cons (pv 0) pa_nil)))))))))
        (pss_cons (ps_if (PW.pt (pw_or (pt_val (pv 8)) (pw_or (pt_cmpR op_gt (pv 4) pe_int (nomark _)) (pw_or1 (pt_cmpR op_gt (pe_callB call_len_seq rfl ml PySem.boot_len (pa_cons (pv 5) pa_nil)) pe_int (nomark _)))))) (pss_one (ps_ret (pe_tup (pa_cons (pv 2) (pa_cons (pv 5) pa_nil))))) pss_nil)
        (pss_one (ps_set (i := 3) nd rfl (Or.inl rfl) (pe_op op_cat (pe_lc (own := [("_law_k", 9)]) (g := gName 9) (tt := tYes) rfl nd (pi_range1 rfl mr (pa_cons (pe_callB call_len_seq rfl ml PySem.boot_len (pa_cons (pv 7) pa_nil)) pa_nil)) (blkOk_by (N := nmFb) (sc := defScope s_L_first_bad) (by decide +kernel)) (fun _ _ _ _ _ => pg_name (i := 9) nd rfl (Or.inl rfl)) (fun _ _ _ _ _ => pts_nil)
            (fun _ _ _ _ _ => pe_tup (pa_cons (pe_op (r := rCatA K) op_catA (pv 5) (pe_tup (pa_cons (pv 9) pa_nil))) (pa_cons (pe_ix (r := rIxL K) ix_list (pv 7) (pv 9) (fun _ _ => rfl)) pa_nil)))) (pv 3))))))))))))
      (pss_one (ps_if (pt_cmpR op_eq (pv 2) pe_int (nomark _)) (pss_one (ps_ret (pe_tup (pa_cons pe_int (pa_cons (pe_tup pa_nil) pa_nil))))) pss_nil)))))
    (pss_cons (ps_for PassesOwn.never rfl (pi_range3 rfl mr (pa_cons (pe_op op_sub (pe_callB call_len_seq rfl ml PySem.boot_len (pa_cons (pv 0) pa_nil)) pe_int) (pa_cons (pe_un un_neg pe_int) (pa_cons (pe_un un_neg pe_int) pa_nil)))) (pg_name (i := 2) nd rfl (Or.inl rfl))
      (pss_one (ps_dput hu (pv 1) (pv 2) (pcall DT GT hr (pa_cons (pe_ix ix_list (pv 0) (pv 2) (fun _ _ => rfl)) (pa_cons (pv 1) pa_nil))) rfl)))
    (pss_one (ps_ret (pe_ifExp (PW.pt (pw_or (pt_cmpR op_gt (pe_ix ix_tup (pe_dget hu (pv 1) pe_int (fun _ _ => rfl)) pe_int (fun _ _ => rfl)) pe_int (nomark _)) (pw_or1 (pt_cmpR op_gt (pe_ix ix_tup (pe_dget hu (pv 1) pe_int (fun _ _ => rfl)) pe_int (fun _ _ => rfl)) pe_int (nomark _)))))
      (pe_tup (pa_cons (pe_callB call_len_seq rfl ml PySem.boot_len (pa_cons (pv 0) pa_nil)) (pa_cons (pe_tup pa_nil) pa_nil))) pe_non))))), ?_⟩
  have hM := Paired.length pp
  have hfall := frm_all pp
  refine fun td htd => ?_
  have s0 : Same H (upd H td (.dK [])) := Same.new htd
  have e0 : upd H td (.dK []) td = some (.dK []) := upd_same
  dsimp only [gName]
  generalize upd H td (.dK []) = H0 at s0 e0 ⊢
  refine ⟨_, rfl, pl, _, rfl, .inl (SqL.of (s0 _ _ epl)), _, rfl, by omega, by omega, ?_⟩
  have hn : (((pv0.length : Nat) : Int)).toNat = ps.length := by omega
  refine for_range (lo := 0) (n := (((pv0.length : Nat) : Int)).toNat) (fun i σ H' => ∃ v2 v3 v4 v5 v6 v7 v8 : Option V, σ = [some (.ref pl), some (.ref td), v2, v3, v4, v5, v6, v7, v8, none] ∧ i ≤ 5 ∧ fbL ps.length i (ps.drop i) = fbL ps.length 0 ps ∧ Same H0 H')
    ⟨none, none, none, none, none, none, none, rfl, Nat.zero_le _, rfl, Same.refl _⟩ ?_ ?_
  · rintro i σ H1 hi ⟨v2, v3, v4, v5, v6, v7, v8, rfl, h5, hfb, s1⟩
    rw [hn] at hi
    have ez : (0 : Int) + ((i : Nat) : Int) = ((i : Nat) : Int) := by omega
    dsimp only [gName]
    rw [ez]
    have es : ps[i]? = some (ps[i]'hi) := List.getElem?_eq_getElem hi
    rw [List.drop_eq_getElem_cons hi, fbL_cons] at hfb
    generalize ps[i]'hi = sc at hfb es
    obtain ⟨vi, evi, hsi⟩ := paired_get2 pp es
    have s01 := Same.trans s0 s1
    refine ⟨Nat.zero_le _, fun t0 ht0 => ?_⟩
    have s2 := Same.trans s01 (Same.new (o := .tup []) ht0)
    refine ⟨_, rfl, _, rfl, pl, _, _, vi, rfl, rfl, SqL.of (s2 _ _ epl), atI_nat evi, sz2, fun t1 ht1 => ⟨szN (by show 1 ≤ 1000; decide), fun wl hwl => ⟨_, _, rfl, ?_⟩⟩⟩
    have c3 := Same.new (o := .lst [.ref t1]) hwl
    have c2 := Same.trans (Same.new (o := .tup [.ref t0, vi]) ht1) c3
    have c1 := Same.trans (Same.new (o := .tup []) ht0) c2
    have s4 := Same.trans s1 c1
    have hwl0 : H0 wl = none := (Same.trans (Same.trans s1 (Same.new ht0)) (Same.new ht1)).free hwl
    dsimp only
    refine ⟨fun m σ H' => FbIn i ps.length sc pl td H0 m σ H', ⟨12, wl, 0, [([], sc)], [.ref t1], v5, v6, v7, v8, rfl, upd_same, hwl0, .cons ⟨t1, t0, vi, rfl, c3 _ _ upd_same, c2 _ _ upd_same, by show 0 ≤ 5; decide, (fun _ h => nomatch h), hsi.keep (Same.tupK (Same.trans s0 s4))⟩ .nil, rfl, by decide, by show 1 ≤ 1; decide, rfl, s4⟩, ?_⟩
    clear c1 c2 c3 s4 hwl0 hwl ht1 ht0 s2 s01 s1 v2 v3 v4 v5 v6 v7 v8
    rintro m σ H2 ⟨wl2, done, L, wv, v5, v6, v7, v8, rfl, ewl, hwl0, pw, efb, h12, hL, em, s1⟩
    have s01 := Same.trans s0 s1
    have lwv := Paired.length pw
    -- the condition
    refine ev_and_new (b := !wv.isEmpty) (c := decide (i < 5)) (fun Q q => ⟨_, rfl, Nat.zero_le _, fun t ht => ⟨wl2, t, wv, rfl, rfl, SqL.of (Same.new ht _ _ ewl), SqL.of upd_same, _, rfl, q _ (Same.new ht)⟩⟩) (fun _ H3 s3 Q q => ⟨_, rfl, _, _, rfl, rfl, _, rfl, by
      rw [show decide (((i : Nat) : Int) < 5) = decide (i < 5) by rw [decide_eq_decide]; omega]
      exact q _ (Same.refl _)⟩) _ (fun H3 s3 => ?_)
    have s13 := Same.trans s1 s3
    have ewl3 := s3 _ _ ewl
    have pw3 := paired_imp pw fun _ _ h => WaitX.keep h (Same.tupK s3)
    clear pw
    by_cases hend : wv = [] ∨ ¬ i < 5
    · -- the walk is over
      have eb : ((!wv.isEmpty) && decide (i < 5)) = false := by
        rcases hend with rfl | h
        · rfl
        · rw [decide_eq_false h, Bool.and_false]
      rw [eb]
      refine iteF ?_
      dsimp only
      refine one_if (b := decide (i = 5)) (fun Q q => ⟨_, rfl, rfl, _, rfl, by
        rw [show decide (V.int ((i : Nat) : Int) = V.int 5) = decide (i = 5) by
          rw [decide_eq_decide]
          exact ⟨fun z => by have := V.int.inj z; omega, fun z => by rw [z]; rfl⟩]
        exact q⟩) (fun z => ?_) (fun z => ?_)
      · have z := of_decide_eq_true z
        rw [if_pos z] at hfb
        refine ⟨Nat.zero_le _, fun t ht => ⟨sz2, fun t2 ht2 => ?_⟩⟩
        have sA := Same.trans (Same.new (o := .tup []) ht) (Same.new (o := .tup [.int 5, .ref t]) ht2)
        exact q1 5 [] (badP_of hfb.symm) t2 t _ (Same.trans s0 (Same.trans s13 sA)) upd_same (Same.new ht2 _ _ upd_same)
      · have z := of_decide_eq_false z
        rw [if_neg z] at hfb
        have hw : wv = [] := by
          rcases hend with h | h
          · exact h
          · omega
        subst hw
        cases pw3
        rw [fbW_nil] at efb
        rw [← efb] at hfb
        exact ⟨_, _, _, v5, v6, v7, v8, rfl, by omega, hfb, s13⟩
    · have hne : wv ≠ [] := fun z => hend (.inl z)
      have hi5 : i < 5 := by
        by_cases c : i < 5
        · exact c
        · exact absurd (.inr c) hend
      rw [if_neg (show ¬ i = 5 by omega)] at hfb
      have eb : ((!wv.isEmpty) && decide (i < 5)) = true := by
        rw [decide_eq_true hi5, Bool.and_true]
        cases wv with
        | nil => exact absurd rfl hne
        | cons _ _ => rfl
      rw [eb]
      cases pw3 with
      | nil => exact absurd rfl hne
      | @cons x vb L' wr hx hrest =>
      obtain ⟨b, qa, u, rfl, ebx, eqa, hx5, hxn, hfx⟩ := hx
      obtain ⟨wh, s'⟩ := x
      have hx5 : wh.length ≤ 5 := hx5
      have hxn : ∀ n ∈ wh, n < 1000 := hxn
      obtain ⟨d0, hsx, hox⟩ : FrmR H3 s' u := hfx
      rw [List.length_cons] at hL lwv
      refine iteT ⟨fun σ' H' => ∃ m', m' < m ∧ FbIn i ps.length sc pl td H0 m' σ' H', fun _ _ z => z, ?_⟩
      have s4 : TupK H3 (upd H3 wl2 (.lst wr)) := TupK.put ewl3
      have sm4 : Same H0 (upd H3 wl2 (.lst wr)) := Same.newer s13 hwl0
      have ew4 : upd H3 wl2 (.lst wr) wl2 = some (.lst wr) := upd_same
      refine ⟨_, rfl, .inl ⟨rfl, _, SqL.of ewl3⟩, wl2, _, 0, 0, .ref b, rfl, rfl, ewl3, by decide, by decide, seq_of (by decide) (by show (0 : Int) < ((wr.length + 1 : Nat) : Int); omega), rfl, ?_⟩
      rw [show (V.ref b :: wr).eraseIdx 0 = wr from rfl]
      generalize upd H3 wl2 (.lst wr) = H4 at s4 sm4 ew4 ⊢
      refine ⟨b, _, rfl, SqT.of (s4 _ _ ebx), rfl, _, _, rfl, _, _, rfl, rfl, ?_⟩
      dsimp only [gName]
      have hs4 := SAt.keep s4 _ _ _ hsx
      have eqa4 := s4 _ _ eqa
      have hrest4 := paired_imp hrest fun _ _ h => WaitX.keep h s4
      obtain ⟨a, nm, rest, rfl, ea⟩ := hs4.tag
      obtain ⟨b1, b2, b3, O⟩ := own_bad (i := i) (M := ps.length) hs4 hox ea
      -- one more
      refine ⟨_, rfl, _, _, rfl, rfl, ?_⟩
      dsimp only [gName]
      -- the schemes within
      refine kidsG_ev (K := K) (i0 := 6) rfl ea hs4 (fun H5 bb s5 hb1 hb2 Q2 q2 => ?_) (fun kf kv H5 s5 hkf ekf pk => ?_)
      · cases bb with
        | true =>
          obtain ⟨_, c, xs, eu, ec⟩ := hb1 rfl
          exact ⟨_, rfl, 1, rfl, a, _, -1, .ref c, rfl, rfl, SqT.of (s5 _ _ ea), eu, _, .ty "tuple", .type "tuple", .type "tuple", true, rfl, .ty _, .base (.tup ec), kit_ty (by decide +kernel), _, rfl, q2 _ (Same.refl _)⟩
        | false =>
          obtain ⟨_, n, eu⟩ := hb2 rfl
          exact ⟨_, rfl, 1, rfl, a, _, -1, .int n, rfl, rfl, SqT.of (s5 _ _ ea), eu, _, .ty "tuple", .type "int", .type "tuple", false, rfl, .ty _, .base (.int _), kit_ty (by decide +kernel), _, rfl, q2 _ (Same.refl _)⟩
      dsimp only [gName]
      have lkv := Paired.length pk
      have ea5 := s5 _ _ ea
      -- what is bad, in three steps
      refine set_new (v := .bl b1) (fun Q3 q3 => ?_) (fun H6 s6 => ?_)
      · rcases O.p1 with ⟨hin, hm, hb⟩ | ⟨hin, ⟨hm, n, en, hb⟩ | ⟨hm, hb⟩⟩
        · refine or_ev (b := true && b1) (c := false && false) (and_ev (in_ev rfl ea5 hin) (fun _ H6 s6 => ?_)) (fun _ H6 s6 => and_ev (eq_ev rfl (s6 _ _ ea5) (neq_b hm)) (fun z => nomatch z)) Q3 (fun H' s' => by
            rw [show (true && b1 || false && false) = b1 from ba1 b1]
            exact q3 H' s')
          rw [hb]
          refine not_ev ?_
          rw [show decide (1 ≤ (kidsOf s').length ∧ (kidsOf s').length ≤ 4) = (decide ((1 : Int) ≤ ((kv.length : Nat) : Int)) && decide (((kv.length : Nat) : Int) ≤ 4)) by rw [dec2, decide_eq_decide]; omega]
          exact chain_ev (f := fun i j => decide (i ≤ j)) (g := fun i j => decide (i ≤ j)) (fun Q q => q) (fun Q q => ⟨_, rfl, kf, _, rfl, .inl (SqL.of (s6 _ _ ekf)), q⟩) (fun Q q => q)
        · refine or_ev (b := false && false) (c := true && b1) (and_ev (in_ev rfl ea5 hin) (fun z => nomatch z)) (fun _ H6 s6 => and_ev (eq_ev rfl (s6 _ _ ea5) (by rw [hm]; decide +kernel)) (fun _ H7 s7 Q q => ?_)) Q3 (fun H' s' => by
            rw [show (false && false || true && b1) = b1 from ba2 b1 false]
            exact q3 H' s')
          rw [hb] at q
          exact ⟨_, rfl, a, _, 1, .int n, rfl, rfl, SqT.of ((Same.trans s6 s7) _ _ ea5), en, n, 30, rfl, rfl, q _ (Same.refl _)⟩
        · refine or_ev (b := false && false) (c := false && false) (and_ev (in_ev rfl ea5 hin) (fun z => nomatch z)) (fun _ H6 s6 => and_ev (eq_ev rfl (s6 _ _ ea5) (neq_b hm)) (fun z => nomatch z)) Q3 (fun H' s' => by
            rw [hb] at q3
            exact q3 H' s')
      have ea6 := s6 _ _ ea5
      refine set_new (v := .bl (b1 || b2)) (fun Q3 q3 => ?_) (fun H7 s7 => ?_)
      · refine or_ev (b := b1) (c := b2) (fun Q q => ⟨_, rfl, q _ (Same.refl _)⟩) (fun _ H7 s7 => ?_) Q3 q3
        rcases O.p2 with ⟨hin, p, ep, hb⟩ | ⟨hin, hb⟩
        · rw [hb, show (!decide (1 ≤ p ∧ p ≤ 9)) = (true && !(decide (1 ≤ p) && decide (p ≤ 9))) by rw [dec2, Bool.true_and]]
          exact and_ev (in_ev rfl (s7 _ _ ea6) hin) (fun _ H8 s8 => not_ev (chain_ev (f := fun i j => decide (i ≤ j)) (g := fun i j => decide (i ≤ j)) (fun Q q => q) (fun Q q => ⟨_, rfl, a, _, 2, .int p, rfl, rfl, SqT.of ((Same.trans s7 s8) _ _ ea6), ep, q⟩) (fun Q q => q)))
        · rw [hb, show false = (false && false) from rfl]
          exact and_ev (in_ev rfl (s7 _ _ ea6) hin) (fun z => nomatch z)
      have ea7 := s7 _ _ ea6
      refine set_new (v := .bl (b1 || b2 || b3)) (fun Q3 q3 => ?_) (fun H8 s8 => ?_)
      · refine or_ev (b := b1 || b2) (c := b3) (fun Q q => ⟨_, rfl, q _ (Same.refl _)⟩) (fun _ H8 s8 => ?_) Q3 q3
        rcases O.p3 with ⟨hin, n, en, hb⟩ | ⟨hin, hb⟩
        · rw [hb, show (!decide (i < n ∧ n < ps.length)) = (true && !(decide (((i : Nat) : Int) < ((n : Nat) : Int)) && decide (((n : Nat) : Int) < ((pv0.length : Nat) : Int)))) by rw [dec2, Bool.true_and]; congr 1; rw [decide_eq_decide]; omega]
          exact and_ev (eq_ev rfl (s8 _ _ ea7) (by rw [hin]; decide +kernel)) (fun _ H9 s9 => not_ev (chain_ev (f := fun i j => decide (i < j)) (g := fun i j => decide (i < j)) (fun Q q => ⟨_, rfl, q⟩) (fun Q q => ⟨_, rfl, a, _, 1, .int ((n : Nat) : Int), rfl, rfl, SqT.of ((Same.trans s8 s9) _ _ ea7), en, q⟩)
            (fun Q q => ⟨_, rfl, pl, _, rfl, .inl (SqL.of ((Same.trans s0 (Same.trans sm4 (Same.trans (Same.trans (Same.trans (Same.trans s5 s6) s7) s8) s9))) _ _ epl)), q⟩)))
        · rw [hb, show false = (false && false) from rfl]
          exact and_ev (eq_ev rfl (s8 _ _ ea7) (neq_b hin)) (fun z => nomatch z)
      have s48 := Same.trans (Same.trans (Same.trans s5 s6) s7) s8
      have sm8 := Same.trans sm4 s48
      have eqa8 := s48 _ _ eqa4
      have bad : fbW i ps.length 12 [([], sc)] = some wh → ∀ Hx, Same H8 Hx → ∀ (t : Addr), Hx t = none → Q (.ref t) (upd Hx t (.tup [.int ((i : Nat) : Int), .ref qa])) := fun hb Hx sx t ht => by
        rw [hb] at hfb
        have sA := Same.trans sx (Same.new (o := .tup [.int ((i : Nat) : Int), .ref qa]) ht)
        exact q1 i wh (badP_of hfb.symm) t qa _ (Same.trans s0 (Same.trans sm8 sA)) upd_same (sA _ _ eqa8)
      have hsum := O.sum
      refine seq_if (b := (b1 || b2 || b3) || (decide (12 < done + 1) || decide (4 < wh.length))) (ev_or (b := b1 || b2 || b3) (c := decide (12 < done + 1) || decide (4 < wh.length)) (fun Q q => ⟨_, rfl, _, rfl, q⟩) (ev_or (b := decide (12 < done + 1)) (c := decide (4 < wh.length))
        (fun Q q => ⟨_, rfl, _, _, rfl, rfl, _, rfl, by
          rw [show decide (12 < ((done : Nat) : Int) + 1) = decide (12 < done + 1) by rw [decide_eq_decide]; omega]
          exact q⟩) (fun Q q => ⟨_, rfl, qa, _, rfl, .inr (SqT.of eqa8), _, _, rfl, rfl, _, rfl, by
          rw [show decide ((4 : Int) < (((natV wh).length : Nat) : Int)) = decide (4 < wh.length) by rw [decide_eq_decide, natV_len]; omega]
          exact q⟩))) (fun z => ?_) (fun z => ?_)
      · have hb : fbW i ps.length 12 [([], sc)] = some wh := by
          rw [← efb]
          by_cases c : done = 12
          · rw [c]
            rfl
          · obtain ⟨n, hn⟩ : ∃ n, 12 - done = n + 1 := ⟨11 - done, by omega⟩
            rw [hn, fbW_succ, if_neg]
            rintro ⟨y1, y2⟩
            have y1 : wh.length ≤ 4 := y1
            have y2 : okOwn i ps.length s' = true := y2
            rw [hsum] at y2
            have y3 : (b1 || b2 || b3) = false := by
              cases e : (b1 || b2 || b3) with
              | false => rfl
              | true => rw [e] at y2; cases y2
            rw [y3, Bool.false_or, decide_eq_false (show ¬ 12 < done + 1 by omega), Bool.false_or, decide_eq_false (show ¬ 4 < wh.length by omega)] at z
            cases z
        exact ⟨_, rfl, _, rfl, sz2, fun t ht => bad hb _ (Same.refl _) t ht⟩
      · obtain ⟨z1, z23⟩ := Bool.or_eq_false_iff.mp z
        obtain ⟨z2, z3⟩ := Bool.or_eq_false_iff.mp z23
        have z2 := of_decide_eq_false z2
        have z3 := of_decide_eq_false z3
        have hown : okOwn i ps.length s' = true := by rw [hsum, z1]; rfl
        obtain ⟨n, hn⟩ : ∃ n, 12 - done = n + 1 := ⟨11 - done, by omega⟩
        rw [hn, fbW_succ, if_pos ⟨show wh.length ≤ 4 by omega, hown⟩] at efb
        have lkf := own_few hown
        have s58 := Same.trans (Same.trans s6 s7) s8
        have ekf8 := s58 _ _ ekf
        have ewl8 := s48 _ _ ew4
        have pk8 := paired_imp pk fun _ _ h => SAt.keep (Same.tupK s58) _ _ _ h
        refine ⟨_, rfl, kf, _, rfl, .inl (SqL.of ekf8), _, rfl, by omega, by omega, fun Dd hD => ?_⟩
        have hkn : (((kv.length : Nat) : Int)).toNat = kv.length := by omega
        refine lc_range (lo := 0) (n := (((kv.length : Nat) : Int)).toNat) (fun j H'' => ∃ pv9, H'' Dd = some (.lst pv9) ∧ Paired (PlR H'') (placedL wh (kv.take j)) pv9 ∧ Same H8 H'') ⟨[], upd_same, .nil, Same.new hD⟩ ?_ ?_
        · rintro j H9 hj ⟨pv9, eD, pp9, s9⟩
          rw [hkn] at hj
          have ekv : kv[j]? = some (kv[j]'hj) := List.getElem?_eq_getElem hj
          have htk : kv.take (j + 1) = kv.take j ++ [kv[j]'hj] := List.take_succ_eq_append_getElem hj
          generalize kv[j]'hj = kvj at ekv htk
          refine ⟨rfl, ?_⟩
          refine cat_at (i := 5) (j := j) rfl (s9 _ _ eqa8) (by omega) (fun Q q => ⟨_, rfl, by
            rw [show (0 : Int) + ((j : Nat) : Int) = ((j : Nat) : Int) by omega]
            exact q⟩) (fun wr' H5' s5' ew => ?_)
          have s95 := Same.trans s9 s5'
          refine ⟨_, rfl, _, rfl, kf, _, _, kvj, rfl, rfl, SqL.of (s95 _ _ ekf8), by
            rw [show (0 : Int) + ((j : Nat) : Int) = ((j : Nat) : Int) by omega]
            exact atI_nat ekv, sz2, fun p hp => ?_⟩
          have s6' := Same.trans s5' (Same.new (o := .tup [.ref wr', kvj]) hp)
          have eD6 := s6' _ _ eD
          have lpv := Paired.length pp9
          have tk : TupK H9 (upd (upd H5' p (.tup [.ref wr', kvj])) Dd (.lst (pv9 ++ [.ref p]))) := (Same.tupK s6').trans (TupK.put eD6)
          have npD : p ≠ Dd := fun e => by rw [e] at eD6; rw [upd_same] at eD6; cases eD6
          refine ⟨_, eD6, ?_, _, upd_same, ?_, ?_⟩
          · have : (placedL wh (kv.take j)).length ≤ 100 := by
              unfold placedL
              rw [List.length_map, List.length_zipIdx, List.length_take]
              omega
            exact small1000 (by omega)
          · have e : placedL wh (kv.take (j + 1)) = placedL wh (kv.take j) ++ [(wh ++ [j], kvj)] := by
              rw [htk]
              unfold placedL
              simp [List.zipIdx_append, List.length_take, Nat.min_eq_left (Nat.le_of_lt hj)]
            rw [e]
            refine paired_app (paired_imp pp9 fun _ _ h => PlR.keep h tk) (.cons ⟨p, wr', rfl, by rw [upd_ne npD, upd_same], ?_⟩ .nil)
            exact TupK.put eD6 _ _ (Same.new hp _ _ ew)
          · intro b o e
            rw [upd_ne (ne_of_none e hD)]
            exact (Same.trans s9 s6') b o e
        · rintro H9 ⟨pv9, eD, pp9, s9⟩
          rw [hkn, List.take_length] at pp9
          have lpv := Paired.length pp9
          have lpl : (placedL wh kv).length = kv.length := by unfold placedL; rw [List.length_map, List.length_zipIdx]
          have lwr := Paired.length hrest4
          refine ⟨_, rfl, Dd, wl2, _, _, rfl, rfl, eD, s9 _ _ ewl8, szM (by omega), fun r hr => ?_⟩
          have sr := Same.new (o := .lst (pv9 ++ wr)) hr
          have s4r := Same.trans (Same.trans s48 s9) sr
          have smr := Same.trans sm4 s4r
          dsimp only [gName]
          refine ⟨12 - (done + 1), by omega, r, done + 1, waitsOf wh 0 (kidsOf s') ++ L', pv9 ++ wr, _, _, _, _, rfl, upd_same, (Same.trans sm4 (Same.trans s48 s9)).free hr, ?_, ?_, by omega, ?_, rfl, smr⟩
          · refine paired_app ?_ (paired_imp hrest4 fun _ _ h => WaitX.keep h (Same.tupK s4r))
            exact waits_atX (by omega) hxn 0 (by omega) (paired_imp pk8 fun _ _ h => SAt.keep (Same.tupK (Same.trans s9 sr)) _ _ _ h) (frm_kids hox) (paired_imp pp9 fun _ _ h => PlR.keep h (Same.tupK sr))
          · rw [show 12 - (done + 1) = n by omega]
            exact efb
          · rw [List.length_append, waits_len]
            omega
  · rintro σ H1 ⟨v2, v3, v4, v5, v6, v7, v8, rfl, h5, hfb, s1⟩
    rw [hn] at h5 hfb
    rw [List.drop_length, fbL_nil] at hfb
    have hbc := badP_cnt hfb.symm
    obtain ⟨_, hok⟩ := fbL_ok (Nat.zero_le _) hfall hfb.symm
    have hok1 : ∀ j s, ps[j]? = some s → OkS (0 + j) ps.length 5 s := fun j s es => (hok j s es).1
    have hcnt : ∀ E j s, ps[j]? = some s → cnts E 0 ps j = tot E (cnts E 0 ps) s := fun E j s es => by
      have := cnts_eq (E := E) (M := ps.length) hok1 es
      rw [Nat.zero_add] at this
      exact this
    have s01 := Same.trans s0 s1
    dsimp only
    refine ⟨_, rfl, pl, _, rfl, .inl (SqL.of (s01 _ _ epl)), _, _, rfl, rfl, _, rfl, _, rfl, _, _, _, _, rfl, RgC.neg (by omega) (by omega) (by decide) (by decide), ?_⟩
    have hn2 : ((((pv0.length : Nat) : Int) - 1) - -1).toNat = ps.length := by omega
    refine for_rangeC (lo := ((pv0.length : Nat) : Int) - 1) (c := -1) (n := ((((pv0.length : Nat) : Int) - 1) - -1).toNat) (fun j σ H' => ∃ (v2 v3 v4 v5 v6 v7 v8 : Option V) (kvs : List (Key × V)), σ = [some (.ref pl), some (.ref td), v2, v3, v4, v5, v6, v7, v8, none] ∧ H' td = some (.dK kvs) ∧ kvs.length ≤ j ∧
        (∀ n, ps.length - j ≤ n → n < ps.length → ∃ t, valV kvs (.inl ((n : Nat) : Int)) = some (.ref t) ∧ H' t = some (.tup [.int (cnts true 0 ps n), .int (cnts false 0 ps n)])) ∧ Same H H')
      ⟨v2, v3, v4, v5, v6, v7, v8, [], rfl, s1 _ _ e0, Nat.le_refl _, (fun n h1 h2 => by omega), s01⟩ ?_ ?_
    · rintro j σ H2 hj ⟨v2, v3, v4, v5, v6, v7, v8, kvs, rfl, etd, hkl, hent, s2⟩
      rw [hn2] at hj
      obtain ⟨k, hk⟩ : ∃ k : Nat, k = ps.length - 1 - j := ⟨_, rfl⟩
      have ez : ((pv0.length : Nat) : Int) - 1 + ((j : Nat) : Int) * -1 = ((k : Nat) : Int) := by omega
      dsimp only [gName]
      rw [ez]
      have hkM : k < ps.length := by omega
      have es : ps[k]? = some (ps[k]'hkM) := List.getElem?_eq_getElem hkM
      generalize ps[k]'hkM = sc at es
      obtain ⟨vk, evk, d0, hsk, hfk⟩ := paired_get2 pp es
      have ok5 := (hok k sc es).1
      rw [Nat.zero_add] at ok5
      have at5 := at_ok 5 _ _ _ ok5 (SAt.keep (Same.tupK s2) _ _ _ hsk)
      refine ⟨_, rfl, _, rfl, pl, _, _, vk, rfl, rfl, SqL.of (s2 _ _ epl), atI_nat evk, _, rfl, ⟨k, ps.length, cnts true 0 ps, cnts false 0 ps⟩, vk, td, sc, rfl, at5, ok5, ⟨kvs, etd, fun n h1 h2 => hent n (by have h1 : k < n := h1; omega) h2⟩, fun t H3 s3 et => ?_⟩
      have etd3 := s3 _ _ etd
      refine ⟨_, rfl, _, rfl, td, _, rfl, DPut.k (k := .inl ((k : Nat) : Int)) etd3 (small1000 (by omega)), ?_⟩
      have hput : (putK kvs (.inl ((k : Nat) : Int)) (.ref t)).length ≤ kvs.length + 1 := by
        unfold putK
        split
        · rw [List.length_map]; omega
        · rw [List.length_append]; exact Nat.le_refl _
      have ntd : ∀ (x : Addr) (xs : List V), H3 x = some (.tup xs) → x ≠ td := fun x xs e z => by rw [z, etd3] at e; cases e
      refine ⟨_, v3, v4, v5, v6, v7, v8, _, rfl, upd_same, by omega, fun n h1 h2 => ?_, Same.newer (Same.trans s2 s3) htd⟩
      rw [valV_put]
      by_cases e : n = k
      · subst e
        rw [if_pos rfl]
        refine ⟨t, rfl, ?_⟩
        rw [upd_ne (ntd t _ et), et, hcnt true n sc es, hcnt false n sc es]
        rfl
      · rw [if_neg (fun z => e (by have z2 := Sum.inl.inj z; omega))]
        obtain ⟨t', e1, e2⟩ := hent n (by omega) h2
        have e3 := s3 _ _ e2
        exact ⟨t', e1, by rw [upd_ne (ntd t' _ e3)]; exact e3⟩
    · rintro σ H2 ⟨v2, v3, v4, v5, v6, v7, v8, kvs, rfl, etd, hkl, hent, s2⟩
      rw [hn2] at hent
      obtain ⟨t, e1, et⟩ := hent 0 (by omega) hpos
      have g : DGet H2 td (.int 0) (valV kvs (.inl 0)) := DGet.k (k := .inl 0) etd
      have e1 : valV kvs (.inl 0) = some (.ref t) := e1
      rw [e1] at g
      dsimp only
      refine ev_or (b := decide (7 < cnts true 0 ps 0)) (c := decide (3 < cnts false 0 ps 0)) (fun Q q => ⟨_, rfl, td, .ref t, rfl, g, t, _, 0, .int (cnts true 0 ps 0), rfl, rfl, SqT.of et, at0, _, _, rfl, rfl, _, rfl, q⟩) (fun Q q => ⟨_, rfl, td, .ref t, rfl, g, t, _, 1, .int (cnts false 0 ps 0), rfl, rfl, SqT.of et, at1, _, _, rfl, rfl, _, rfl, q⟩) _ ?_
      by_cases c : 7 < cnts true 0 ps 0 ∨ 3 < cnts false 0 ps 0
      · have eb : (decide (7 < cnts true 0 ps 0) || decide (3 < cnts false 0 ps 0)) = true := by
          rcases c with c | c
          · rw [decide_eq_true c, Bool.true_or]
          · rw [decide_eq_true c, Bool.or_true]
        rw [if_pos c] at hbc
        rw [eb]
        refine iteT ⟨_, rfl, pl, _, rfl, .inl (SqL.of (s2 _ _ epl)), Nat.zero_le _, fun t1 ht1 => ⟨sz2, fun t2 ht2 => ?_⟩⟩
        rw [← hM]
        have sA := Same.trans (Same.new (o := .tup []) ht1) (Same.new (o := .tup [.int ((ps.length : Nat) : Int), .ref t1]) ht2)
        exact q1 ps.length [] hbc t2 t1 _ (Same.trans s2 sA) upd_same (Same.new ht2 _ _ upd_same)
      · have eb : (decide (7 < cnts true 0 ps 0) || decide (3 < cnts false 0 ps 0)) = false := by
          rw [decide_eq_false (fun z => c (.inl z)), decide_eq_false (fun z => c (.inr z))]
          rfl
        rw [if_neg c] at hbc
        rw [eb]
        exact iteF (q2 hbc H2 s2)
end
end MS
end
section
set_option maxRecDepth 100000
set_option maxHeartbeats 4000000
namespace MS
open PySem L2
open HeY
/-! ### what the law says is due -/
abbrev s_L_due : Stmt := topS 53
abbrev nmDu : List Str := ["_law_text_here", "_law_found", "_law_ahead", "_law_row", "_law_words", "_law_scheme_here", "_law_at", "_law_bad"]
theorem sc_L_due : FnScope nmDu ["_law_text_here"] (defScope s_L_due) := ⟨rfl, rfl, rfl, by decide +kernel, rfl, by decide +kernel, by decide +kernel⟩
def spDueX : Sp := fun vs H Q _ => ∃ x : Str, vs = [.str x] ∧ asc x ∧ x.length ≤ 1000 ∧ (∀ m, rdL 0 (rowsOf x) = .inl m → ∀ (t : Addr) (H' : Hp), Same H H' → H' t = some (.tup [.str "BadText", .int ((m : Nat) : Int)]) → Q (.ref t) H') ∧
  ∀ ps, rdL 0 (rowsOf x) = .inr ps → (∀ n wh, badP ps = some (n, wh) → ∀ (t q : Addr) (H' : Hp), Same H H' → H' t = some (.tup [.str "BadPaper", .int ((n : Nat) : Int), .ref q]) → H' q = some (.tup (natV wh)) → Q (.ref t) H') ∧
    (badP ps = none → ∀ (p : Addr) (pv : List V) (H' : Hp), Same H H' → H' p = some (.tup pv) → Paired (FrmR H') ps pv → Q (.ref p) H')
section
variable {P : Program} {w : World} {K : PySem.W.Frag} {mg : Str → Option Value} {base : Heap}
theorem ok_L_due (T : PTx w K mg) (mmin : mg "min" = none) (D : Def K mg "_law_due" s_L_due ["_law_text_here"]) (DG : Def K mg "_law_grown" s_L_grown ["_law_words", "_law_at"]) (DN : Def K mg "_law_number" s_L_number ["_law_word"]) (DB : Def K mg "_law_first_bad" s_L_first_bad ["_law_paper_here"]) (DT : Def K mg "_law_tally" s_L_tally ["_law_scheme_here", "_law_tallies"]) :
    FnOk P w K mg base CX0 204 D.f D.fd ["_law_text_here"] spDueX := by
  have GG : FnOk P w K mg base CX0 203 DG.f DG.fd ["_law_words", "_law_at"] (spGrown 201) := ok_L_grown T DG DN mmin 201
  have GB : FnOk P w K mg base CX0 6 DB.f DB.fd ["_law_paper_here"] spFirstBad := ok_first_bad T DB DT
  have ml : mg "len" = none := T.free "len" (by decide +kernel)
  have mt : mg "tuple" = none := T.free "tuple" (by decide +kernel)
  have nd := sc_L_due.nd
  refine D.ok sc_L_due (fun vs H Q E h => ?_) (fun cdv A outer s H vs Q E hr h => ?_)
  · obtain ⟨x, rfl, _⟩ := h
    rfl
  obtain ⟨x, rfl, hta, htl, q1, q2⟩ := h
  have r6 : Room 6 _ := hr.mono (by decide)
  refine ⟨_, pss_cons (ps_par (i := 1) (j := 2) (by rfl) nd rfl rfl (by decide) rfl rfl (pa_cons (pe_lst pa_nil) (pa_cons pe_int pa_nil)) (by rfl))
    (pss_cons (ps_for PassesOwn.never rfl (pi_list (pe_split (pv 0) pe_str)) (pg_name (i := 3) nd rfl (Or.inl rfl))
      (pss_cons (ps_set (i := 4) nd rfl (Or.inl rfl) (pe_split (pv 3) pe_str))
      (pss_cons (ps_asg (pcall DG GG hr (pa_cons (pv 4) (pa_cons pe_int pa_nil))) (pg_tup (by rfl) (pgs_cons (pg_name (i := 5) nd rfl (Or.inl rfl)) (pgs_cons (pg_name (i := 6) nd rfl (Or.inl rfl)) pgs_nil))))
      (pss_cons (ps_if (PW.pt (pw_or (pt_cmpR op_isN (pv 5) pe_non (nomark _)) (pw_or1 (pt_cmpR op_lt (pv 6) (pe_callB call_len_seq rfl ml PySem.boot_len (pa_cons (pv 4) pa_nil)) (nomark _))))) (pss_one (ps_ret (pe_tup (pa_cons pe_str (pa_cons (pe_op op_add (pv 2) (pv 6)) pa_nil))))) pss_nil)
      (pss_cons (ps_expr (pe_bm PySem.F.plainAttrs_list PySem.F.slot_list_append PySem.F.type_list_append mt_append (pv 1) (pa_cons (pv 5) pa_nil)))
      (pss_one (ps_set (i := 2) nd rfl (Or.inl rfl) (pe_op op_add (pv 2) (pe_callB call_len_seq rfl ml PySem.boot_len (pa_cons (pv 4) pa_nil))))))))))
    (pss_cons (ps_set (i := 7) nd rfl (Or.inl rfl) (pcall DB GB r6 (pa_cons (pv 1) pa_nil)))
    (pss_one (ps_ret (pe_ifExp (pt_cmpR op_isN (pv 7) pe_non (nomark _)) (pe_callTy call_tuple_of rfl mt (by decide +kernel) (pa_cons (pv 1) pa_nil)) (pe_tup (pa_cons pe_str (pa_cons (pe_ix ix_tup (pv 7) pe_int (fun _ _ => rfl)) (pa_cons (pe_ix ix_tup (pv 7) pe_int (fun _ _ => rfl)) pa_nil))))))))), ?_⟩
  refine ⟨Nat.zero_le _, fun sl hsl => ⟨_, _, rfl, ?_⟩⟩
  have s1 : Same H (upd H sl (.lst [])) := Same.new hsl
  have e1 : upd H sl (.lst []) sl = some (.lst []) := upd_same
  dsimp only
  generalize upd H sl (.lst []) = H1 at s1 e1 ⊢
  refine ⟨_, rfl, ⟨_, rfl⟩, _, "\n", rfl, rfl, by decide, by rw [sizeLine_eq]; omega, fun rl hrl => ?_⟩
  have s2 := s1.trans (Same.new (o := .lst ((Txt.split x "\n").map V.str)) hrl)
  have nrs : rl ≠ sl := fun e => by rw [e, e1] at hrl; cases hrl
  refine ⟨rl, rfl, ⟨_, SqL.of upd_same⟩, ?_⟩
  have hsum := rows_sum htl
  have hRl := rows_len htl
  have hRp := rows_pos x
  have lrows : ((Txt.split x "\n").map V.str).length = (rowsOf x).length := by unfold rowsOf; rw [List.length_map, List.length_map]
  have hasc := rows_asc hta
  have hrowat : ∀ j, (rowsOf x)[j]? = ((Txt.split x "\n")[j]?).map fun r => Txt.split r " " := fun j => by unfold rowsOf; rw [List.getElem?_map]
  have hparts : ∀ r ∈ Txt.split x "\n", r.length ≤ 1000 := fun r hr => Nat.le_trans (PyProof.Rows.part_short hr) htl
  generalize Txt.split x "\n" = L at s2 hrl hrowat hparts lrows
  generalize rowsOf x = R at q1 q2 hsum hRl hasc hrowat lrows hRp
  refine for_list (K := K) (a := rl) (xs := L.map V.str) (fun j σ H' => ∃ (v3 v4 v5 v6 : Option V) (us : List V) (done : List Sch), σ = [some (.str x), some (.ref sl), some (.int ((ahead R j : Nat) : Int)), v3, v4, v5, v6, none] ∧ H' sl = some (.lst us) ∧ Paired (FrmR H') done us ∧ done.length = j ∧ rdL 0 R = rdB done (rdL (ahead R j) (R.drop j)) ∧ H' rl = some (.lst (L.map V.str)) ∧ Same H H')
    ⟨none, none, none, none, [], [], rfl, by rw [upd_ne nrs.symm]; exact e1, .nil, rfl, (rdB_nil _).symm, upd_same, s2⟩ (fun j σ H' _ ⟨_, _, _, _, _, _, _, _, _, _, _, e, _⟩ => SqL.of e) ?_ ?_
  · rintro j y σ H3 hy ⟨v3, v4, v5, v6, us, done, rfl, esl, hus, hdn, hrd, erl, sm⟩
    have hj : j < L.length := by
      have := (List.getElem?_eq_some_iff.mp hy).1
      rw [List.length_map] at this
      exact this
    have ej : L[j]? = some (L[j]'hj) := List.getElem?_eq_getElem hj
    obtain rfl : V.str (L[j]'hj) = y := by
      rw [List.getElem?_map, ej] at hy
      exact Option.some.inj hy
    have hrl1 := hparts _ (List.getElem_mem hj)
    have eR := hrowat j
    rw [ej] at eR
    generalize L[j]'hj = row at hrl1 eR hy
    have eR : R[j]? = some (Txt.split row " ") := eR
    have hRj : j < R.length := (List.getElem?_eq_some_iff.mp eR).1
    have edrop : R.drop j = Txt.split row " " :: R.drop (j + 1) := by
      rw [List.drop_eq_getElem_cons hRj]
      congr 1
      exact Option.some.inj ((List.getElem?_eq_getElem hRj).symm.trans eR)
    rw [edrop] at hrd
    have hws := hasc _ (List.mem_of_getElem? eR)
    have hcw := wsum_at eR
    have hsc := ahead_succ eR
    dsimp only [gName]
    refine ⟨_, rfl, ⟨_, rfl⟩, _, " ", rfl, rfl, by decide, by rw [sizeLine_eq]; omega, fun wl hwl => ?_⟩
    have hlw := len_cw (Txt.split row " ")
    have hmw : ∀ x ∈ Txt.split row " ", asc x ∧ x.length ≤ 1000 := fun x hx => ⟨hws x hx, by have := mem_cw hx; omega⟩
    generalize Txt.split row " " = ws at hrd hws hcw hsc hlw hmw eR
    have s4 : Same H3 (upd H3 wl (.lst (ws.map V.str))) := Same.new hwl
    have ew4 : upd H3 wl (.lst (ws.map V.str)) wl = some (.lst (ws.map V.str)) := upd_same
    have nws : wl ≠ sl := fun e => by rw [e, esl] at hwl; cases hwl
    generalize upd H3 wl (.lst (ws.map V.str)) = H4 at s4 ew4 ⊢
    dsimp only [gName]
    -- a bad word: told at once
    have bad : ∀ (e : Nat) (v : V) (H5 : Hp), rdW ws = some e → Same H4 H5 → ∀ t : Addr, H5 t = none → Q (.ref t) (upd H5 t (.tup [.str "BadText", .int (((ahead R j : Nat) : Int) + ((e : Nat) : Int))])) := fun e v H5 hw s5 t ht => by
      have h1 : rdL 0 R = .inl (ahead R j + e) := by
        rw [hrd, rd_bad hw]
        rfl
      refine q1 _ h1 t _ (Same.trans (Same.trans sm s4) (Same.trans s5 (Same.new ht))) ?_
      rw [upd_same]
      rfl
    refine ⟨_, rfl, wl, ws, 0, rfl, ew4, hmw, Nat.zero_le _, by omega, by show cw ws < 5 * 201; omega, fun e hk t H5 s5 ht et => ?_, fun ks r' n' tv hk hB t v H5 s5 ht et hv => ?_⟩
    · have hk : kp ws ["scheme"] 0 = .inl e := hk
      have hw : rdW ws = some e := by unfold rdW; rw [hk]
      refine ⟨t, _, rfl, SqT.of et, rfl, _, _, rfl, _, _, rfl, rfl, ?_⟩
      dsimp only [gName]
      refine seq_if (b := true || decide (((e : Nat) : Int) < (((ws.map V.str).length : Nat) : Int))) (ev_or (b := true) (c := decide (((e : Nat) : Int) < (((ws.map V.str).length : Nat) : Int))) (fun Q q => ⟨_, rfl, rfl, _, rfl, by rw [decide_eq_true rfl]; exact q⟩) (fun Q q => ⟨_, rfl, _, rfl, wl, _, rfl, .inl (SqL.of (s5 _ _ ew4)), _, _, rfl, rfl, _, rfl, q⟩)) (fun _ => ?_) (fun z => nomatch z)
      exact ⟨_, rfl, _, rfl, _, _, rfl, rfl, sz2, fun t2 ht2 => bad e .non H5 hw s5 t2 ht2⟩
    · have hk : kp ws ["scheme"] 0 = .inr (ks, r', n') := hk
      obtain ⟨l1, l2, l3⟩ := kp_left hk
      obtain ⟨hf, hB2⟩ := sch_ok hws hk
      have etv : tv = ofD ws.length (schOf ws) := by
        have z1 := hB []
        have z2 := hB2 []
        have z1 : bldF (ws.zip ks) [] = [tv] ++ [] := z1
        rw [z2] at z1
        exact (List.cons.inj z1).1.symm
      have hvs := hv.some
      refine ⟨t, _, rfl, SqT.of et, rfl, _, _, rfl, _, _, rfl, rfl, ?_⟩
      dsimp only [gName]
      refine seq_if (b := false || decide (n' < ws.length)) (ev_or (b := false) (c := decide (n' < ws.length)) (fun Q q => ⟨_, rfl, rfl, _, rfl, by rw [decide_eq_false hvs]; exact q⟩) (fun Q q => ⟨_, rfl, _, rfl, wl, _, rfl, .inl (SqL.of (s5 _ _ ew4)), _, _, rfl, rfl, _, rfl, by
        rw [show decide (((n' : Nat) : Int) < (((ws.map V.str).length : Nat) : Int)) = decide (n' < ws.length) by rw [decide_eq_decide, List.length_map]; omega]
        exact q⟩)) (fun z => ?_) (fun z => ?_)
      · rw [Bool.false_or] at z
        have z := of_decide_eq_true z
        have hw : rdW ws = some n' := by
          unfold rdW
          rw [hk]
          cases r' with
          | cons y r' => rfl
          | nil =>
            have := congrArg List.length l1
            rw [List.length_drop, List.length_nil] at this
            omega
        exact ⟨_, rfl, _, rfl, _, _, rfl, rfl, sz2, fun t2 ht2 => bad n' .non H5 hw s5 t2 ht2⟩
      · rw [Bool.false_or] at z
        have z := of_decide_eq_false z
        have hr0 : r' = [] := by rw [l1, List.drop_eq_nil_iff]; omega
        have hw : rdW ws = none := by
          unfold rdW
          rw [hk, hr0]
        have s35 := Same.trans s4 s5
        have esl5 := s35 _ _ esl
        have lus := Paired.length hus
        refine ⟨_, rfl, .inl ⟨rfl, _, SqL.of esl5⟩, _, rfl, sl, _, _, rfl, rfl, esl5, small4000 (by omega), ?_⟩
        have t8 : TupK H5 (upd H5 sl (.lst (us ++ [v]))) := TupK.put esl5
        dsimp only
        refine ⟨_, rfl, _, rfl, wl, _, rfl, .inl (SqL.of (by rw [upd_ne nws]; exact s5 _ _ ew4)), _, _, rfl, rfl, ?_⟩
        refine ⟨some (.str row), some (.ref wl), some v, some (.int ((n' : Nat) : Int)), us ++ [v], done ++ [schOf ws], ?_, upd_same, ?_, by rw [List.length_append, hdn]; rfl, ?_, ?_, Same.newer (Same.trans sm s35) hsl⟩
        · rw [hsc, List.length_map]
          rfl
        · refine paired_app (paired_imp hus fun a b hab => FrmR.keep hab (fun c xs e => t8 _ _ (s35 _ _ e))) (.cons ((frm_at hf ?_).keep t8) .nil)
          rw [← etv]
          exact hv
        · rw [hrd, rd_good hw, hsc]
        · rw [upd_ne nrs]
          exact s35 _ _ erl
  · rintro σ H3 ⟨v3, v4, v5, v6, us, done, rfl, esl, hus, hdn, hrd, erl, sm⟩
    rw [lrows] at hdn hrd
    rw [List.drop_length, rd_nil] at hrd
    have hrd : rdL 0 R = .inr done := by rw [hrd]; show (Sum.inr (done ++ []) : Nat ⊕ List Sch) = _; rw [List.append_nil]
    obtain ⟨q3, q4⟩ := q2 done hrd
    dsimp only
    refine ⟨_, rfl, sl, done, us, rfl, esl, hus, by omega, by omega, fun n wh hb t q H4 s4 et eq => ?_, fun hb H4 s4 => ?_⟩
    · dsimp only [gName]
      refine ⟨_, rfl, rfl, _, rfl, ?_⟩
      rw [decide_eq_false (fun z => nomatch z)]
      refine iteF ⟨_, rfl, t, _, 0, .int ((n : Nat) : Int), rfl, rfl, SqT.of et, at0, _, rfl, t, _, 1, .ref q, rfl, rfl, SqT.of et, at1, szN (by show 3 ≤ 1000; decide), fun t2 ht2 => ?_⟩
      exact q3 n wh hb t2 q _ (Same.trans sm (Same.trans s4 (Same.new ht2))) upd_same (Same.new ht2 _ _ eq)
    · dsimp only [gName]
      refine ⟨_, rfl, rfl, _, rfl, ?_⟩
      rw [decide_eq_true rfl]
      refine iteT ⟨_, rfl, sl, us, rfl, .inl ⟨SqL.of (s4 _ _ esl), fun p hp => ?_⟩⟩
      have s5 := Same.trans s4 (Same.new (o := .tup us) hp)
      exact q4 hb p us _ (Same.trans sm s5) upd_same (paired_imp hus fun a b hab => FrmR.keep hab (Same.tupK s5))
end
end MS
end
section
set_option maxRecDepth 100000
set_option maxHeartbeats 4000000
namespace MS
open PySem L2
open HeY
/-! ### a text spoilt -/
abbrev s_L_spoilt : Stmt := topS 48
abbrev nmSp : List Str := ["_law_box", "_law_text_here", "_law_odd", "_law_rows", "_law_number_here", "_law_row", "_law_deed", "_law_place", "_law_word", "_law_some"]
theorem sc_L_spoilt : FnScope nmSp ["_law_box", "_law_text_here"] (defScope s_L_spoilt) := ⟨rfl, rfl, rfl, by decide +kernel, rfl, by decide +kernel, by decide +kernel⟩
def oddL : List Str := ["step", "all", "best", "most", "half", "seen", "behind", "carry", "end", "use", "a", "h", "i", "", "0", "1", "2", "5", "10", "30", "31", "99", "100", "01", "00", "-1", "ab", "Step", "a\nstep", "x"]
theorem odd_ok : ∀ w ∈ oddL, asc w ∧ w.length ≤ 6 := by
  have key : ∀ w ∈ oddL, (∀ c ∈ w.cps.toList, c < 128) ∧ w.length ≤ 6 := by decide +kernel
  exact key
theorem cw_app : ∀ (a b : List Str), cw (a ++ b) = cw a + cw b
  | [], b => by show cw b = 0 + cw b; omega
  | x :: a, b => by
    show x.length + 1 + cw (a ++ b) = x.length + 1 + cw a + cw b
    rw [cw_app a b]
    omega
theorem cw_parts (l : List Str) {p q : Nat} (h : p ≤ q) : cw (l.take p) + cw (l.drop q) ≤ cw l := by
  have e := congrArg cw (List.take_append_drop p l)
  rw [cw_app] at e
  have := cw_le (l := l) h
  omega
theorem cw_take (l : List Str) (p : Nat) : cw (l.take p) ≤ cw l := by
  have := cw_parts l (Nat.le_refl p)
  omega
theorem wsum_app : ∀ (a b : List (List Str)), wsum (a ++ b) = wsum a + wsum b
  | [], b => by show wsum b = 0 + wsum b; omega
  | x :: a, b => by
    show cw x + wsum (a ++ b) = cw x + wsum a + wsum b
    rw [wsum_app a b]
    omega
theorem wsum_drop : ∀ (l : List (List Str)) (q : Nat), wsum (l.drop q) ≤ wsum l
  | [], q => by rw [List.drop_nil]; exact Nat.le_refl _
  | x :: l, 0 => Nat.le_refl _
  | x :: l, q + 1 => by
    have := wsum_drop l q
    rw [List.drop_succ_cons]
    show _ ≤ cw x + wsum l
    omega
theorem wsum_parts (l : List (List Str)) {p q : Nat} (h : p ≤ q) : wsum (l.take p) + wsum (l.drop q) ≤ wsum l := by
  have e := congrArg wsum (List.take_append_drop p l)
  rw [wsum_app] at e
  have e2 : l.drop q = (l.drop p).drop (q - p) := by rw [List.drop_drop, show p + (q - p) = q by omega]
  have := wsum_drop (l.drop p) (q - p)
  rw [← e2] at this
  omega
theorem wsum_set : ∀ (l : List (List Str)) (n : Nat) (ws : List Str), wsum (l.set n ws) ≤ wsum l + cw ws
  | [], _, _ => by rw [List.set_nil]; exact Nat.le_add_right _ _
  | x :: l, 0, ws => by
    show cw ws + wsum l ≤ cw x + wsum l + cw ws
    omega
  | x :: l, n + 1, ws => by
    have := wsum_set l n ws
    show cw x + wsum (l.set n ws) ≤ cw x + wsum l + cw ws
    omega
/-- what is told of a text's rows, as they stand in the heap -/
def RowW (H : Hp) (S : List Addr) (ws : List Str) (v : V) : Prop := ∃ a, v = .ref a ∧ a ∉ S ∧ H a = some (.lst (ws.map V.str))
theorem RowW.keep {H H' : Hp} {S : List Addr} {ws : List Str} {v : V} (h : RowW H S ws v) (k : Keep S H H') : RowW H' S ws v := by
  obtain ⟨a, e, n, e1⟩ := h
  exact ⟨a, e, n, k _ _ e1 n⟩
theorem RowW.less {H : Hp} {S T : List Addr} {ws : List Str} {v : V} (h : RowW H S ws v) (k : ∀ x ∈ T, x ∈ S) : RowW H T ws v := by
  obtain ⟨a, e, n, e1⟩ := h
  exact ⟨a, e, fun z => n (k _ z), e1⟩
theorem paired_set {α β : Type} {R : α → β → Prop} {x : α} {y : β} (h : R x y) : ∀ {xs : List α} {ys : List β}, Paired R xs ys → ∀ n, Paired R (xs.set n x) (ys.set n y)
  | _, _, .nil, n => by rw [List.set_nil, List.set_nil]; exact .nil
  | _, _, .cons _ t, 0 => .cons h t
  | _, _, .cons r t, n + 1 => .cons r (paired_set h t n)
theorem cut_toS (ws : List Str) (k : Nat) : cutV (ws.map V.str) none (some ((k : Nat) : Int)) = (ws.take k).map V.str := by rw [cut_to, List.map_take]
theorem cut_fromS (ws : List Str) (k : Nat) : cutV (ws.map V.str) (some ((k : Nat) : Int)) none = (ws.drop k).map V.str := by rw [cut_from, List.map_drop]
def lenOf (R : List (List Str)) : Nat := wsum R + R.length
def SpRR (b l : Addr) (x : Str) (H : Hp) (σ : St) (H' : Hp) : Prop := ∃ (rl : Addr) (R : List (List Str)) (vs : List V) (v2 v4 v5 v6 v7 v8 : Option V), σ = [some (.ref b), some (.str x), v2, some (.ref rl), v4, v5, v6, v7, v8, none] ∧ H' rl = some (.lst vs) ∧ Paired (RowW H' [b, l]) R vs ∧ (∀ ws ∈ R, OkW ws) ∧ lenOf R ≤ 4 * x.length + 20 ∧ Box H' b l ∧ Keep [b, l] H H'
theorem join_cw (z : Str) (hz : z.length ≤ 1) : ∀ l : List Str, (Str.join z l).length ≤ cw l
  | [] => Nat.zero_le _
  | [x] => by
    show x.length ≤ x.length + 1 + 0
    omega
  | x :: y :: r => by
    have ih := join_cw z hz (y :: r)
    show (x ++ z ++ Str.join z (y :: r)).length ≤ x.length + 1 + cw (y :: r)
    rw [Str.length_append, Str.length_append]
    omega
theorem join_asc {z : Str} (hz : asc z) : ∀ {l : List Str}, (∀ x ∈ l, asc x) → asc (Str.join z l)
  | [], _ => fun c hc => by cases hc
  | [x], h => h x List.mem_cons_self
  | x :: y :: r, h => fun c hc => by
    have hc : c ∈ TL.tl (x ++ z ++ Str.join z (y :: r)) := hc
    rw [TL.tl_append, TL.tl_append] at hc
    rcases List.mem_append.mp hc with hc | hc
    · rcases List.mem_append.mp hc with hc | hc
      · exact h x List.mem_cons_self c hc
      · exact hz c hc
    · exact join_asc hz (fun w hw => h w (List.mem_cons_of_mem _ hw)) c hc
theorem cw_rows : ∀ R : List (List Str), cw (R.map (Str.join " ")) ≤ lenOf R
  | [] => Nat.le_refl _
  | ws :: R => by
    have h1 := cw_rows R
    have h2 := join_cw " " (by decide +kernel) ws
    unfold lenOf at h1 ⊢
    show (Str.join " " ws).length + 1 + cw (R.map (Str.join " ")) ≤ cw ws + wsum R + (R.length + 1)
    omega
def tellR (R : List (List Str)) : Str := Str.join "\n" (R.map (Str.join " "))
theorem tell_len (R : List (List Str)) : (tellR R).length ≤ lenOf R := Nat.le_trans (join_cw "\n" (by decide +kernel) _) (cw_rows R)
theorem sp_asc : asc " " := by unfold asc; decide +kernel
theorem nl_asc : asc "\n" := by unfold asc; decide +kernel
theorem tell_asc {R : List (List Str)} (h : ∀ ws ∈ R, OkW ws) : asc (tellR R) := join_asc nl_asc fun x hx => by
  obtain ⟨ws, hw, rfl⟩ := List.mem_map.mp hx
  exact join_asc sp_asc (h ws hw)
theorem rows_lenOf (x : Str) : wsum (rowsOf x) ≤ x.length + 1 ∧ (rowsOf x).length ≤ x.length + 1 := by
  have h1 := wsum_map (Txt.split x "\n")
  have h2 := split_cw x "\n" (by decide +kernel)
  have h3 := len_cw (Txt.split x "\n")
  refine ⟨Nat.le_trans h1 h2, ?_⟩
  unfold rowsOf
  rw [List.length_map]
  omega
def spSpoilt : Sp := fun vs H Q _ => ∃ (b l : Addr) (x : Str), vs = [.ref b, .str x] ∧ Box H b l ∧ asc x ∧ x.length ≤ 4000000 ∧ ∀ (y : Str) (H' : Hp), asc y → y.length ≤ 4 * x.length + 20 → Box H' b l → Keep [b, l] H H' → Q (.str y) H'
theorem seq_ifs {tc : TT} {t e r : TS} {D : Ends} {σ : St} {H : Hp} {b : Bool} (RR : St → Hp → Prop) (h : ∀ Q : Bool → Hp → Prop, Q b H → tc σ H Q) (rest : ∀ σ' H', RR σ' H' → r D σ' H') (k1 : b = true → ∀ D' : Ends, (∀ σ' H', RR σ' H' → D'.nx σ' H') → t D' σ H) (k2 : b = false → ∀ D' : Ends, (∀ σ' H', RR σ' H' → D'.nx σ' H') → e D' σ H) :
    tSeq (tIfS tc t e) r D σ H := h _ (by
  cases b with
  | true => exact iteT (k1 rfl _ rest)
  | false => exact iteF (k2 rfl _ rest))
theorem one_ifs {tc : TT} {t e : TS} {D : Ends} {σ : St} {H : Hp} {b : Bool} (h : ∀ Q : Bool → Hp → Prop, Q b H → tc σ H Q) (k1 : b = true → t D σ H) (k2 : b = false → e D σ H) : tIfS tc t e D σ H := h _ (by
  cases b with
  | true => exact iteT (k1 rfl)
  | false => exact iteF (k2 rfl))
section
variable {P : Program} {w : World} {K : PySem.W.Frag} {mg : Str → Option Value} {base : Heap}
theorem ok_spoilt (T : PTx w K mg) (D : Def K mg "_law_spoilt" s_L_spoilt ["_law_box", "_law_text_here"]) (DT : Def K mg "_law_take" s_L_take ["_law_box", "_law_many"]) : FnOk P w K mg base CX0 2 D.f D.fd ["_law_box", "_law_text_here"] spSpoilt := by
  have GT : FnOk P w K mg base CX0 1 DT.f DT.fd ["_law_box", "_law_many"] spTake := ok_take DT
  have ml : mg "len" = none := T.free "len" (by decide +kernel)
  have mmax : mg "max" = none := T.free "max" (by decide +kernel)
  have nd := sc_L_spoilt.nd
  refine D.ok sc_L_spoilt (fun vs H Q E h => ?_) (fun cdv A outer s H vs Q E hr h => ?_)
  · obtain ⟨b, l, x, rfl, _⟩ := h
    rfl
  obtain ⟨b, l, x, rfl, B, hxa, hxl, q⟩ := h
  refine ⟨_, pss_cons (ps_set (i := 2) nd rfl (Or.inl rfl) (pe_lst (pa_cons pe_str (pa_cons pe_str (pa_cons pe_str (pa_cons pe_str (pa_cons pe_str (pa_cons pe_str (pa_cons pe_str (pa_cons pe_str (pa_cons pe_str (pa_cons pe_str (pa_cons pe_str (pa_cons pe_str (pa_cons pe_str (pa_cons pe_str (pa_cons pe_str pa_nil)))))))))))))))))
    (pss_cons (ps_set (i := 2) nd rfl (Or.inl rfl) (pe_op op_cat (pv 2) (pe_lst (pa_cons pe_str (pa_cons pe_str (pa_cons pe_str (pa_cons pe_str (pa_cons pe_str (pa_cons pe_str (pa_cons pe_str (pa_cons pe_str (pa_cons pe_str (pa_cons pe_str (pa_cons pe_str (pa_cons pe_str (pa_cons pe_str (pa_cons pe_str (pa_cons pe_str pa_nil))))))))))))))))))
    (pss_cons (ps_setLc (i := 3) (own := [("_law_row", 5)]) (g := gName 5) (tt := tYes) rfl nd rfl rfl (sw_true rfl rfl rfl (by decide +kernel)) (pi_list (pe_split (pv 1) pe_str)) (blkOk_by (N := nmSp) (sc := defScope s_L_spoilt) (by decide +kernel)) (fun _ _ _ _ _ => pg_name (i := 5) nd rfl (Or.inl rfl)) (fun _ _ _ _ _ => pts_nil) (fun _ _ _ _ _ => pe_split (pv 5) pe_str))
    (pss_cons (ps_set (i := 4) nd rfl (Or.inl rfl) (pcall DT GT hr (pa_cons (pv 0) (pa_cons (pe_callB call_len_seq rfl ml PySem.boot_len (pa_cons (pv 3) pa_nil)) pa_nil))))
    (pss_cons (ps_set (i := 5) nd rfl (Or.inl rfl) (pe_ix ix_list (pv 3) (pv 4) (fun _ _ => rfl)))
    (pss_cons (ps_par (i := 6) (j := 7) (by rfl) nd rfl rfl (by decide) rfl rfl (pa_cons (pcall DT GT hr (pa_cons (pv 0) (pa_cons pe_int pa_nil))) (pa_cons (pcall DT GT hr (pa_cons (pv 0) (pa_cons (pe_op op_add (pe_callB call_len_seq rfl ml PySem.boot_len (pa_cons (pv 5) pa_nil)) pe_int) pa_nil))) pa_nil)) (by rfl))
    (pss_cons (ps_set (i := 8) nd rfl (Or.inl rfl) (pe_ix ix_list (pv 2) (pcall DT GT hr (pa_cons (pv 0) (pa_cons pe_int pa_nil))) (fun _ _ => rfl)))
    (pss_cons (ps_if (pt_cmpR op_lt (pv 6) pe_int (nomark _))
        (pss_one (ps_asg (pe_op op_cat (pe_op op_cat (pe_slice sl_list (pv 5) po_none (po_some (pv 7))) (pe_lst (pa_cons (pv 8) pa_nil))) (pe_slice sl_list (pv 5) (po_some (pe_op op_add (pv 7) (pe_op op_fdiv (pv 6) pe_int))) po_none)) (pg_sub (pv 3) (pv 4) set_list)))
      (pss_one (ps_if (pt_cmpR op_eq (pv 6) pe_int (nomark _))
        (pss_one (ps_asg (pe_op op_cat (pe_slice sl_list (pv 5) po_none (po_some (pv 7))) (pe_slice sl_list (pv 5) (po_some (pe_op op_add (pv 7) pe_int)) po_none)) (pg_sub (pv 3) (pv 4) set_list)))
      (pss_one (ps_if (pt_cmpR op_eq (pv 6) pe_int (nomark _))
        (pss_one (ps_asg (pe_op op_cat (pe_slice sl_list (pv 5) po_none (po_some (pv 7))) (pe_slice sl_list (pv 5) (po_some (pe_callB (call_max2 rfl) rfl mmax (by decide +kernel) (pa_cons pe_int (pa_cons (pe_op op_sub (pv 7) pe_int) pa_nil)))) po_none)) (pg_sub (pv 3) (pv 4) set_list)))
      (pss_one (ps_if (pt_cmpR op_eq (pv 6) pe_int (nomark _))
        (pss_one (ps_set (i := 3) nd rfl (Or.inl rfl) (pe_op op_cat (pe_op op_cat (pe_slice sl_list (pv 3) po_none (po_some (pv 4))) (pe_lst (pa_cons (pe_slice sl_list (pv 5) po_none (po_some (pv 7))) (pa_cons (pe_slice sl_list (pv 5) (po_some (pv 7)) po_none) pa_nil)))) (pe_slice sl_list (pv 3) (po_some (pe_op op_add (pv 4) pe_int)) po_none))))
        (pss_one (ps_set (i := 3) nd rfl (Or.inl rfl) (pe_ifExp (pt_cmpR op_gt (pe_callB call_len_seq rfl ml PySem.boot_len (pa_cons (pv 3) pa_nil)) pe_int (nomark _)) (pe_op op_cat (pe_slice sl_list (pv 3) po_none (po_some (pv 4))) (pe_slice sl_list (pv 3) (po_some (pe_op op_add (pv 4) pe_int)) po_none)) (pe_op op_cat (pv 3) (pe_lst (pa_cons (pv 5) pa_nil)))))))))))))
    (pss_one (ps_ret (pe_join pe_str (pe_lc (own := [("_law_some", 9)]) (g := gName 9) (tt := tYes) (te := tM1 (fun x xs H Q => ∃ a p, ∃ ys : List Str, x = .str a ∧ xs = [.ref p] ∧ (SqL K H p (ys.map V.str) ∨ SqT K H p (ys.map V.str)) ∧ (ys.map (·.length)).sum + ys.length * a.length ≤ 16777216 ∧ Q (.str (Txt.join a ys)) H) (tC (.str " ")) (tVar 9)) rfl nd (pi_list (pv 3)) (blkOk_by (N := nmSp) (sc := defScope s_L_spoilt) (by decide +kernel)) (fun _ _ _ _ _ => pg_name (i := 9) nd rfl (Or.inl rfl)) (fun _ _ _ _ _ => pts_nil)
      (fun _ _ _ _ _ => pe_join pe_str (pv 9))))))))))))), ?_⟩
  have big : ∀ {n : Nat}, n ≤ 4000010 → n < sizeLine := fun h => by rw [sizeLine_eq]; omega
  refine ⟨szN (by show 15 ≤ 1000; decide), fun p1 hp1 => ?_⟩
  dsimp only [gName]
  refine ⟨_, rfl, szN (by show 15 ≤ 1000; decide), fun p2 hp2 => ⟨p1, p2, _, _, rfl, rfl, Same.new hp2 _ _ upd_same, upd_same, szN (by show 30 ≤ 1000; decide), fun od hod => ?_⟩⟩
  have s3 := Same.trans (Same.trans (Same.new (o := .lst [V.str "step", V.str "all", V.str "best", V.str "most", V.str "half", V.str "seen", V.str "behind", V.str "carry", V.str "end", V.str "use", V.str "a", V.str "h", V.str "i", V.str "", V.str "0"]) hp1) (Same.new (o := .lst [V.str "1", V.str "2", V.str "5", V.str "10", V.str "30", V.str "31", V.str "99", V.str "100", V.str "01", V.str "00", V.str "-1", V.str "ab", V.str "Step", V.str "a\nstep", V.str "x"]) hp2)) (Same.new (o := .lst ([V.str "step", V.str "all", V.str "best", V.str "most", V.str "half", V.str "seen", V.str "behind", V.str "carry", V.str "end", V.str "use", V.str "a", V.str "h", V.str "i", V.str "", V.str "0"] ++ [V.str "1", V.str "2", V.str "5", V.str "10", V.str "30", V.str "31", V.str "99", V.str "100", V.str "01", V.str "00", V.str "-1", V.str "ab", V.str "Step", V.str "a\nstep", V.str "x"])) hod)
  have eod : upd (upd (upd H p1 (.lst [V.str "step", V.str "all", V.str "best", V.str "most", V.str "half", V.str "seen", V.str "behind", V.str "carry", V.str "end", V.str "use", V.str "a", V.str "h", V.str "i", V.str "", V.str "0"])) p2 (.lst [V.str "1", V.str "2", V.str "5", V.str "10", V.str "30", V.str "31", V.str "99", V.str "100", V.str "01", V.str "00", V.str "-1", V.str "ab", V.str "Step", V.str "a\nstep", V.str "x"])) od (.lst ([V.str "step", V.str "all", V.str "best", V.str "most", V.str "half", V.str "seen", V.str "behind", V.str "carry", V.str "end", V.str "use", V.str "a", V.str "h", V.str "i", V.str "", V.str "0"] ++ [V.str "1", V.str "2", V.str "5", V.str "10", V.str "30", V.str "31", V.str "99", V.str "100", V.str "01", V.str "00", V.str "-1", V.str "ab", V.str "Step", V.str "a\nstep", V.str "x"])) od = some (.lst (oddL.map V.str)) := upd_same
  dsimp only [gName]
  generalize upd (upd (upd H p1 (.lst [V.str "step", V.str "all", V.str "best", V.str "most", V.str "half", V.str "seen", V.str "behind", V.str "carry", V.str "end", V.str "use", V.str "a", V.str "h", V.str "i", V.str "", V.str "0"])) p2 (.lst [V.str "1", V.str "2", V.str "5", V.str "10", V.str "30", V.str "31", V.str "99", V.str "100", V.str "01", V.str "00", V.str "-1", V.str "ab", V.str "Step", V.str "a\nstep", V.str "x"])) od (.lst ([V.str "step", V.str "all", V.str "best", V.str "most", V.str "half", V.str "seen", V.str "behind", V.str "carry", V.str "end", V.str "use", V.str "a", V.str "h", V.str "i", V.str "", V.str "0"] ++ [V.str "1", V.str "2", V.str "5", V.str "10", V.str "30", V.str "31", V.str "99", V.str "100", V.str "01", V.str "00", V.str "-1", V.str "ab", V.str "Step", V.str "a\nstep", V.str "x"])) = H3 at s3 eod ⊢
  refine ⟨_, rfl, ⟨_, rfl⟩, _, "\n", rfl, rfl, by decide, by rw [sizeLine_eq]; omega, fun rl0 hrl0 => ⟨rl0, rfl, ⟨_, SqL.of upd_same⟩, fun rl hrl => ?_⟩⟩
  obtain ⟨hR1, hR2⟩ := rows_lenOf x
  have hRp := rows_pos x
  have hasc := rows_asc hxa
  have hparts : ∀ r ∈ Txt.split x "\n", r.length ≤ x.length := fun r hr => PyProof.Rows.part_short hr
  have lrows : (rowsOf x).length = (Txt.split x "\n").length := by unfold rowsOf; rw [List.length_map]
  have eRows : rowsOf x = (Txt.split x "\n").map fun r => Txt.split r " " := rfl
  generalize Txt.split x "\n" = L at hparts lrows eRows hrl0 hrl ⊢
  have s4 := Same.trans s3 (Same.new (o := .lst (L.map V.str)) hrl0)
  have e4 : upd H3 rl0 (.lst (L.map V.str)) rl0 = some (.lst (L.map V.str)) := upd_same
  have eod4 := Same.new (o := .lst (L.map V.str)) hrl0 _ _ eod
  generalize upd H3 rl0 (.lst (L.map V.str)) = H4 at s4 e4 eod4 hrl ⊢
  have B4 : Box H4 b l := B.keep (S := []) (fun a o e _ => s4 _ _ e) (by simp) (by simp)
  refine lc_list (K := K) (a := rl0) (xs := L.map V.str) (fun k H'' => ∃ vs, H'' rl = some (.lst vs) ∧ Paired (RowW H'' [b, l, rl]) ((L.take k).map fun r => Txt.split r " ") vs ∧ Same H4 H'') ⟨[], upd_same, .nil, Same.new hrl⟩ (fun k H'' _ ⟨_, _, _, s5⟩ => SqL.of (s5 _ _ e4)) ?_ ?_
  · rintro k y H'' hk ⟨vs, eD, pv, s5⟩
    have hkl : k < L.length := by
      have := (List.getElem?_eq_some_iff.mp hk).1
      rw [List.length_map] at this
      exact this
    have htk : L.take (k + 1) = L.take k ++ [L[k]'hkl] := List.take_succ_eq_append_getElem hkl
    obtain rfl : V.str (L[k]'hkl) = y := by
      rw [List.getElem?_map, List.getElem?_eq_getElem hkl] at hk
      exact Option.some.inj hk
    have hrow := hparts _ (List.getElem_mem hkl)
    generalize L[k]'hkl = row at hrow htk hk
    have lvs := Paired.length pv
    rw [List.length_map, List.length_take] at lvs
    refine ⟨rfl, _, rfl, ⟨_, rfl⟩, _, " ", rfl, rfl, by decide, by rw [sizeLine_eq]; omega, fun wl hwl => ?_⟩
    have nDw : rl ≠ wl := ne_of_none eD hwl
    have hwb := (B4.keep (S := []) (fun a o e _ => s5 _ _ e) (by simp) (by simp)).ne_new hwl
    refine ⟨vs, by rw [upd_ne nDw]; exact eD, big (by omega), vs ++ [.ref wl], upd_same, ?_, ?_⟩
    · rw [htk, List.map_append]
      refine paired_app (paired_imp pv fun _ _ h => RowW.keep h (Keep.trans (Keep.new hwl) (Keep.put (by simp)))) (.cons ⟨wl, rfl, ?_, ?_⟩ .nil)
      · simp [hwb.1, hwb.2, nDw.symm]
      · rw [upd_ne nDw.symm]
        exact upd_same
    · intro c o e
      rw [upd_ne (ne_of_none e hrl)]
      exact Same.new hwl _ _ (s5 _ _ e)
  · rintro H5 ⟨vs, erl, pv, s5⟩
    rw [List.length_map, List.take_length, ← eRows] at pv
    have s45 := Same.trans s4 s5
    have eod5 := s5 _ _ eod4
    have B5 : Box H5 b l := B4.keep (S := []) (fun a o e _ => s5 _ _ e) (by simp) (by simp)
    have hrlH : H rl = none := s4.free hrl
    have nrb := B4.ne_new hrl
    have nodb : od ∉ [b, l] := B.nin ((Same.trans (Same.trans (Same.refl H) (Same.new hp1)) (Same.new hp2)).free hod)
    clear s5 B4 e4 eod4 hrl s4 s3 eod
    generalize rowsOf x = R at pv hR1 hR2 hRp hasc lrows eRows
    dsimp only [gName]
    have lvs := Paired.length pv
    have mono3 : ∀ {H1 H2 : Hp}, Keep [b, l] H1 H2 → Keep [b, l, rl] H1 H2 := fun k => k.mono fun c hc => by
      simp only [List.mem_cons, List.not_mem_nil, or_false] at hc ⊢
      rcases hc with hc | hc
      · exact .inl hc
      · exact .inr (.inl hc)
    have nrin : rl ∉ [b, l] := by simp [nrb.1, nrb.2]
    -- which row
    refine ⟨_, rfl, _, rfl, rl, _, rfl, .inl (SqL.of erl), b, l, _, rfl, by omega, by omega, B5, fun r0 H6 a0 a1 B6 k6 => ?_⟩
    obtain ⟨n, rfl⟩ : ∃ n : Nat, r0 = (n : Int) := ⟨r0.toNat, by omega⟩
    have hn : n < R.length := by omega
    have eRn : R[n]? = some (R[n]'hn) := List.getElem?_eq_getElem hn
    obtain ⟨vn, evn, hvn⟩ := paired_get2 pv eRn
    have hwsR : R[n]'hn ∈ R := List.getElem_mem hn
    generalize R[n]'hn = ws at eRn hvn hwsR
    obtain ⟨ra, rfl, nra, era⟩ := hvn
    have hws := hasc ws hwsR
    have hcw := row_cw eRn
    have hlw := len_cw ws
    have nra2 : ra ∉ [b, l] := fun z => nra (by
      simp only [List.mem_cons, List.not_mem_nil, or_false] at z ⊢
      rcases z with z | z
      · exact .inl z
      · exact .inr (.inl z))
    have nrar : ra ≠ rl := fun z => nra (by simp [z])
    dsimp only [gName]
    refine ⟨_, rfl, _, rfl, rl, _, _, .ref ra, rfl, rfl, SqL.of (k6 _ _ erl nrin), atI_nat evn, ?_⟩
    dsimp only [gName]
    -- what, and where
    refine ⟨_, rfl, b, l, 7, rfl, by decide, by decide, B6, fun r1 H7 b0 b1 B7 k7 => ?_⟩
    have k67 := Keep.trans k6 k7
    refine ⟨_, rfl, _, rfl, ra, _, rfl, .inl (SqL.of (k67 _ _ era nra2)), _, _, rfl, rfl, b, l, _, rfl, by omega, by rw [List.length_map]; omega, B7, fun r2 H8 c0 c1 B8 k8 => ⟨_, _, rfl, ?_⟩⟩
    obtain ⟨dd, rfl⟩ : ∃ dd : Nat, r1 = (dd : Int) := ⟨r1.toNat, by omega⟩
    obtain ⟨pp, rfl⟩ : ∃ pp : Nat, r2 = (pp : Int) := ⟨r2.toNat, by omega⟩
    dsimp only
    refine ⟨_, rfl, _, rfl, b, l, 30, rfl, by decide, by decide, B8, fun r3 H9 d0 d1 B9 k9 => ?_⟩
    obtain ⟨wd, rfl⟩ : ∃ wd : Nat, r3 = (wd : Int) := ⟨r3.toNat, by omega⟩
    have hwd : wd < oddL.length := by show wd < 30; omega
    have k59 : Keep [b, l] H5 H9 := Keep.trans k67 (Keep.trans k8 k9)
    refine ⟨od, _, _, .str (oddL[wd]'hwd), rfl, rfl, SqL.of (k59 _ _ eod5 nodb), atI_nat (get_map V.str oddL hwd), ?_⟩
    obtain ⟨hwa, hwl6⟩ := odd_ok _ (List.getElem_mem hwd)
    generalize oddL[wd]'hwd = word at hwa hwl6
    dsimp only [gName]
    have erl9 := k59 _ _ erl nrin
    have era9 := k59 _ _ era nra2
    have pv9 := paired_imp pv fun _ _ h => RowW.keep h (mono3 k59)
    have kH9 : Keep [b, l] H H9 := Keep.trans (fun c o e _ => s45 _ _ e) k59
    have hrl9 : ∀ {H10 : Hp}, Same H9 H10 → H10 rl = some (.lst vs) := fun s => s _ _ erl9
    -- a row put in its place
    have fin : ∀ (p' : Addr) (ws' : List Str) (H10 : Hp) (v2 v4 v5 v6 v7 v8 : Option V), Same H9 H10 → H9 p' = none → H10 p' = some (.lst (ws'.map V.str)) → OkW ws' → cw ws' ≤ 2 * cw ws + 7 →
        SpRR b l x H [some (.ref b), some (.str x), v2, some (.ref rl), v4, v5, v6, v7, v8, none] (upd H10 rl (.lst (vs.set n (.ref p')))) := fun p' ws' H10 v2 v4 v5 v6 v7 v8 s10 hp' ep' ha' hc' => by
      have hpb := B9.ne_new hp'
      have npr : p' ≠ rl := fun z => by rw [z, erl9] at hp'; cases hp'
      have kr : Keep [b, l, rl] H10 (upd H10 rl (.lst (vs.set n (.ref p')))) := Keep.put (by simp)
      have hput : RowW (upd H10 rl (.lst (vs.set n (.ref p')))) [b, l, rl] ws' (.ref p') := ⟨p', rfl, by simp [hpb.1, hpb.2, npr], by rw [upd_ne npr]; exact ep'⟩
      have p10 := paired_imp pv9 fun _ _ h => RowW.keep (RowW.keep h (fun c o e _ => s10 _ _ e)) kr
      refine ⟨rl, R.set n ws', vs.set n (.ref p'), v2, v4, v5, v6, v7, v8, rfl, upd_same, paired_imp (paired_set hput p10 n) fun _ _ h => RowW.less h (fun c hc => by
        simp only [List.mem_cons, List.not_mem_nil, or_false] at hc ⊢
        rcases hc with hc | hc
        · exact .inl hc
        · exact .inr (.inl hc)), fun y hy => ?_, ?_, (B9.keep (S := []) (fun c o e _ => s10 _ _ e) (by simp) (by simp)).put nrb.1.symm.symm nrb.2, ?_⟩
      · rcases List.mem_or_eq_of_mem_set hy with h | h
        · exact hasc y h
        · rw [h]; exact ha'
      · have := wsum_set R n ws'
        unfold lenOf
        rw [List.length_set]
        omega
      · exact Keep.newer (Keep.trans kH9 (fun c o e _ => s10 _ _ e)) hrlH
    have okt : ∀ k, OkW (ws.take k) := fun k y hy => hws y (List.mem_of_mem_take hy)
    have okd : ∀ k, OkW (ws.drop k) := fun k y hy => hws y (List.mem_of_mem_drop hy)
    have oka : ∀ {a c : List Str}, OkW a → OkW c → OkW (a ++ c) := fun h1 h2 y hy => (List.mem_append.mp hy).elim (h1 y) (h2 y)
    have lenb : ∀ {m : Nat}, m ≤ 2 * cw ws + 7 → m ≤ sizeLine := fun h => Nat.le_of_lt (by rw [sizeLine_eq]; omega)
    have cwT := cw_take ws pp
    have lmap : ∀ u : List Str, (u.map V.str).length = u.length := fun u => List.length_map _
    have hit : (ixN vs.length ((n : Nat) : Int)) = some n := ix_nat (by omega)
    -- the rows told anew
    have fin2 : ∀ (rl' : Addr) (R' : List (List Str)) (vs' : List V) (H10 : Hp) (v2 v4 v5 v6 v7 v8 : Option V), Same H9 H10 → H10 rl' = some (.lst vs') → Paired (RowW H10 [b, l]) R' vs' → (∀ y ∈ R', OkW y) → lenOf R' ≤ 4 * x.length + 20 →
        SpRR b l x H [some (.ref b), some (.str x), v2, some (.ref rl'), v4, v5, v6, v7, v8, none] H10 := fun rl' R' vs' H10 v2 v4 v5 v6 v7 v8 s10 e10 p10 h1 h2 =>
      ⟨rl', R', vs', v2, v4, v5, v6, v7, v8, rfl, e10, p10, h1, h2, B9.keep (S := []) (fun c o e _ => s10 _ _ e) (by simp) (by simp), Keep.trans kH9 (fun c o e _ => s10 _ _ e)⟩
    refine seq_ifs (b := decide (((dd : Nat) : Int) < 3)) (SpRR b l x H) (fun Q q => ⟨_, rfl, _, _, rfl, rfl, _, rfl, q⟩) (fun σ' H' hRR => ?_) (fun z D' hD => ?_) (fun z D' hD => ?_)
    · -- the rows joined
      obtain ⟨rl', R', vs', w2, w4, w5, w6, w7, w8, rfl, e', pv', ha', hl', B', k'⟩ := hRR
      unfold lenOf at hl'
      refine ⟨⟨_, rfl⟩, _, rfl, rl', rfl, ⟨_, SqL.of e'⟩, fun Dd hD => ?_⟩
      have lR' := Paired.length pv'
      refine lc_list (K := K) (a := rl') (xs := vs') (fun k H'' => H'' Dd = some (.lst ((R'.take k).map fun ws => V.str (Str.join " " ws))) ∧ Same H' H'') ⟨upd_same, Same.new hD⟩ (fun k H'' _ ⟨_, s6⟩ => SqL.of (s6 _ _ e')) ?_ ?_
      · rintro k y H'' hk ⟨eD, s6⟩
        obtain ⟨wk, ek, ak, rfl, _, eak⟩ := paired_get' pv' hk
        have hkl := (List.getElem?_eq_some_iff.mp ek).1
        have htk : R'.take (k + 1) = R'.take k ++ [wk] := by rw [List.take_succ, ek]; rfl
        have hck := row_cw ek
        have hsum := cw_sum wk
        refine ⟨rfl, ⟨_, rfl⟩, _, rfl, " ", ak, wk, rfl, rfl, .inl (SqL.of (s6 _ _ eak)), by show (wk.map (·.length)).sum + wk.length * 1 ≤ 16777216; omega, ?_⟩
        refine ⟨_, eD, ?_, ?_, Same.newer s6 hD⟩
        · rw [List.length_map, List.length_take, sizeLine_eq]
          omega
        · rw [upd_same, htk, List.map_append, TL.join_eq]
          rfl
      · rintro H'' ⟨eD, s6⟩
        rw [← lR', List.take_length] at eD
        have hsum := cw_sum (R'.map (Str.join " "))
        have hcr := cw_rows R'
        unfold lenOf at hcr
        refine ⟨"\n", Dd, R'.map (Str.join " "), rfl, rfl, .inl (SqL.of (by rw [eD, List.map_map]; rfl)), by show ((R'.map (Str.join " ")).map (·.length)).sum + (R'.map (Str.join " ")).length * 1 ≤ 16777216; omega, ?_⟩
        rw [TL.join_eq]
        have htl := tell_len R'
        unfold lenOf at htl
        exact q _ _ (tell_asc ha') (by unfold tellR at htl; omega) (B'.keep (S := []) (fun c o e _ => s6 _ _ e) (by simp) (by simp)) (Keep.trans k' (fun c o e _ => s6 _ _ e))
    · -- a word put in
      have z := of_decide_eq_true z
      have ed : ((pp : Nat) : Int) + ((dd : Nat) : Int) / 2 = ((pp + dd / 2 : Nat) : Int) := by omega
      have hpt := cw_parts ws (Nat.le_add_right pp (dd / 2))
      refine ⟨_, rfl, _, rfl, _, rfl, ra, _, rfl, SqL.of era9, fun q1 hq1 => ⟨_, rfl, (by show 1 ≤ sizeLine; decide), fun q2 hq2 => ?_⟩⟩
      rw [cut_toS] at hq2 ⊢
      have t2 := Same.trans (Same.new (o := .lst ((ws.take pp).map V.str)) hq1) (Same.new (o := .lst [.str word]) hq2)
      refine ⟨q1, q2, _, _, rfl, rfl, Same.new hq2 _ _ upd_same, upd_same, lenb (by rw [lmap]; have := len_cw (ws.take pp); show _ + 1 ≤ _; omega), fun q3 hq3 => ?_⟩
      have t3 := Same.trans t2 (Same.new (o := .lst ((ws.take pp).map V.str ++ [.str word])) hq3)
      have e3 : ∀ {Hx : Hp}, upd Hx q3 (.lst ((ws.take pp).map V.str ++ [.str word])) q3 = some (.lst ((ws.take pp).map V.str ++ [.str word])) := upd_same
      refine ⟨_, rfl, _, rfl, _, rfl, _, _, rfl, rfl, ⟨by decide, by decide⟩, _, _, rfl, rfl, _, rfl, ra, _, rfl, SqL.of (t3 _ _ era9), fun q4 hq4 => ?_⟩
      rw [ed, cut_fromS]
      have t4 := Same.trans t3 (Same.new (o := .lst ((ws.drop (pp + dd / 2)).map V.str)) hq4)
      have hl1 := len_cw (ws.take pp)
      have hl2 := len_cw (ws.drop (pp + dd / 2))
      refine ⟨q3, q4, _, _, rfl, rfl, Same.new hq4 _ _ e3, upd_same, lenb (by rw [List.length_append, lmap, lmap]; show _ + 1 + _ ≤ _; omega), fun q5 hq5 => ?_⟩
      have t5 := Same.trans t4 (Same.new (o := .lst ((ws.take pp).map V.str ++ [.str word] ++ (ws.drop (pp + dd / 2)).map V.str)) hq5)
      refine ⟨_, rfl, _, rfl, rl, _, _, n, rfl, rfl, hrl9 t5, hit, hD _ _ (fin q5 (ws.take pp ++ [word] ++ ws.drop (pp + dd / 2)) _ _ _ _ _ _ _ t5 (t4.free hq5) (by rw [upd_same, List.map_append, List.map_append]; rfl) (oka (oka (okt _) (fun y hy => by rw [List.mem_singleton.mp hy]; exact hwa)) (okd _)) ?_)⟩
      rw [cw_app, cw_app]
      show cw (ws.take pp) + (word.length + 1 + 0) + cw (ws.drop (pp + dd / 2)) ≤ _
      omega
    have z3 := of_decide_eq_false z
    have oneq : ∀ (m : Nat) (Q : Bool → Hp → Prop), Q (decide (dd = m)) H9 → Q (decide (V.int ((dd : Nat) : Int) = V.int ((m : Nat) : Int))) H9 := fun m Q q => by
      rw [show decide (V.int ((dd : Nat) : Int) = V.int ((m : Nat) : Int)) = decide (dd = m) by
        rw [decide_eq_decide]
        exact ⟨fun z => by have := V.int.inj z; omega, fun z => by rw [z]⟩]
      exact q
    refine one_ifs (b := decide (dd = 3)) (fun Q q => ⟨_, rfl, rfl, _, rfl, oneq 3 Q q⟩) (fun z4 => ?_) (fun z4 => ?_)
    · -- a word taken out
      have ed : ((pp : Nat) : Int) + 1 = ((pp + 1 : Nat) : Int) := by omega
      have hpt := cw_parts ws (Nat.le_add_right pp 1)
      refine ⟨_, rfl, _, rfl, _, rfl, ra, _, rfl, SqL.of era9, fun q1 hq1 => ?_⟩
      rw [cut_toS]
      have t1 := Same.new (o := .lst ((ws.take pp).map V.str)) hq1
      refine ⟨_, rfl, _, rfl, _, _, rfl, rfl, _, rfl, ra, _, rfl, SqL.of (t1 _ _ era9), fun q2 hq2 => ?_⟩
      rw [ed, cut_fromS]
      have t2 := Same.trans t1 (Same.new (o := .lst ((ws.drop (pp + 1)).map V.str)) hq2)
      have hl1 := len_cw (ws.take pp)
      have hl2 := len_cw (ws.drop (pp + 1))
      refine ⟨q1, q2, _, _, rfl, rfl, Same.new hq2 _ _ upd_same, upd_same, lenb (by rw [lmap, lmap]; omega), fun q3 hq3 => ?_⟩
      have t3 := Same.trans t2 (Same.new (o := .lst ((ws.take pp).map V.str ++ (ws.drop (pp + 1)).map V.str)) hq3)
      refine ⟨_, rfl, _, rfl, rl, _, _, n, rfl, rfl, hrl9 t3, hit, hD _ _ (fin q3 (ws.take pp ++ ws.drop (pp + 1)) _ _ _ _ _ _ _ t3 (t2.free hq3) (by rw [upd_same, List.map_append]) (oka (okt _) (okd _)) ?_)⟩
      rw [cw_app]
      omega
    refine one_ifs (b := decide (dd = 4)) (fun Q q => ⟨_, rfl, rfl, _, rfl, oneq 4 Q q⟩) (fun z5 => ?_) (fun z5 => ?_)
    · -- a word told twice
      have hpt := cw_drop ws (pp - 1)
      refine ⟨_, rfl, _, rfl, _, rfl, ra, _, rfl, SqL.of era9, fun q1 hq1 => ?_⟩
      rw [cut_toS]
      have t1 := Same.new (o := .lst ((ws.take pp).map V.str)) hq1
      refine ⟨_, rfl, _, rfl, _, _, rfl, rfl, _, _, rfl, _, rfl, ra, _, rfl, SqL.of (t1 _ _ era9), fun q2 hq2 => ?_⟩
      rw [show (if ((pp : Nat) : Int) - 1 > 0 then ((pp : Nat) : Int) - 1 else 0) = ((pp - 1 : Nat) : Int) by split <;> omega, cut_fromS]
      have t2 := Same.trans t1 (Same.new (o := .lst ((ws.drop (pp - 1)).map V.str)) hq2)
      have hl1 := len_cw (ws.take pp)
      have hl2 := len_cw (ws.drop (pp - 1))
      refine ⟨q1, q2, _, _, rfl, rfl, Same.new hq2 _ _ upd_same, upd_same, lenb (by rw [lmap, lmap]; omega), fun q3 hq3 => ?_⟩
      have t3 := Same.trans t2 (Same.new (o := .lst ((ws.take pp).map V.str ++ (ws.drop (pp - 1)).map V.str)) hq3)
      refine ⟨_, rfl, _, rfl, rl, _, _, n, rfl, rfl, hrl9 t3, hit, hD _ _ (fin q3 (ws.take pp ++ ws.drop (pp - 1)) _ _ _ _ _ _ _ t3 (t2.free hq3) (by rw [upd_same, List.map_append]) (oka (okt _) (okd _)) ?_)⟩
      rw [cw_app]
      omega
    have ed : ((n : Nat) : Int) + 1 = ((n + 1 : Nat) : Int) := by omega
    have hwp := wsum_parts R (Nat.le_add_right n 1)
    have kr : ∀ {H1 : Hp}, Same H9 H1 → ∀ (R1 : List (List Str)) (v1 : List V), Paired (RowW H9 [b, l, rl]) R1 v1 → Paired (RowW H1 [b, l]) R1 v1 := fun s R1 v1 h => paired_imp h fun _ _ z => RowW.less (RowW.keep z (fun c o e _ => s _ _ e)) (fun c hc => by
      simp only [List.mem_cons, List.not_mem_nil, or_false] at hc ⊢
      rcases hc with hc | hc
      · exact .inl hc
      · exact .inr (.inl hc))
    have lt : ∀ k, (vs.take k).length ≤ vs.length := fun k => by rw [List.length_take]; omega
    have ld : ∀ k, (vs.drop k).length ≤ vs.length := fun k => by rw [List.length_drop]; omega
    have szb : ∀ {m : Nat}, m ≤ 2 * vs.length + 2 → m ≤ sizeLine := fun h => Nat.le_of_lt (by rw [sizeLine_eq]; omega)
    refine one_ifs (b := decide (dd = 5)) (fun Q q => ⟨_, rfl, rfl, _, rfl, oneq 5 Q q⟩) (fun z6 => ?_) (fun z6 => ?_)
    · -- a row parted
      have hpt := cw_parts ws (Nat.le_refl pp)
      refine ⟨_, rfl, _, rfl, _, rfl, rl, _, rfl, SqL.of erl9, fun q1 hq1 => ?_⟩
      rw [cut_to]
      have t1 := Same.new (o := .lst (vs.take n)) hq1
      refine ⟨_, rfl, _, rfl, _, rfl, ra, _, rfl, SqL.of (t1 _ _ era9), fun q2 hq2 => ?_⟩
      rw [cut_toS]
      have t2 := Same.trans t1 (Same.new (o := .lst ((ws.take pp).map V.str)) hq2)
      have e2 : upd (upd H9 q1 (.lst (vs.take n))) q2 (.lst ((ws.take pp).map V.str)) q2 = some (.lst ((ws.take pp).map V.str)) := upd_same
      have f2 := t1.free hq2
      refine ⟨_, rfl, _, rfl, _, rfl, ra, _, rfl, SqL.of (t2 _ _ era9), fun q3 hq3 => ?_⟩
      rw [cut_fromS]
      have t3 := Same.trans t2 (Same.new (o := .lst ((ws.drop pp).map V.str)) hq3)
      have f3 := t2.free hq3
      refine ⟨sz2, fun q4 hq4 => ?_⟩
      have c23 := Same.new (o := .lst ((ws.drop pp).map V.str)) hq3
      have c34 := Same.new (o := .lst [.ref q2, .ref q3]) hq4
      have t4 := Same.trans t3 c34
      have e1 := c34 _ _ (c23 _ _ (Same.new (o := .lst ((ws.take pp).map V.str)) hq2 _ _ (upd_same (a := q1) (o := .lst (vs.take n)))))
      refine ⟨q1, q4, _, _, rfl, rfl, e1, upd_same, szb (by have := lt n; show _ + 2 ≤ _; omega), fun q5 hq5 => ?_⟩
      have c45 := Same.new (o := .lst (vs.take n ++ [.ref q2, .ref q3])) hq5
      have t5 := Same.trans t4 c45
      refine ⟨_, rfl, _, rfl, _, _, rfl, rfl, _, rfl, rl, _, rfl, SqL.of (hrl9 t5), fun q6 hq6 => ?_⟩
      rw [ed, cut_from]
      have c56 := Same.new (o := .lst (vs.drop (n + 1))) hq6
      have t6 := Same.trans t5 c56
      refine ⟨q5, q6, _, _, rfl, rfl, c56 _ _ upd_same, upd_same, szb (by have := ld (n + 1); rw [List.length_append, List.length_take]; show _ + 2 + _ ≤ _; rw [List.length_drop]; omega), fun q7 hq7 => ?_⟩
      have c67 := Same.new (o := .lst (vs.take n ++ [.ref q2, .ref q3] ++ vs.drop (n + 1))) hq7
      have t7 := Same.trans t6 c67
      have cE := Same.trans c34 (Same.trans c45 (Same.trans c56 c67))
      refine hD _ _ (fin2 q7 (R.take n ++ [ws.take pp, ws.drop pp] ++ R.drop (n + 1)) _ _ _ _ _ _ _ _ t7 upd_same ?_ ?_ ?_)
      · refine paired_app (paired_app (kr t7 _ _ (paired_take pv9 n)) (.cons ⟨q2, rfl, Box.nin B9 f2, cE _ _ (c23 _ _ e2)⟩ (.cons ⟨q3, rfl, Box.nin B9 f3, cE _ _ upd_same⟩ .nil))) (kr t7 _ _ (paired_drop pv9 (n + 1)))
      · intro y hy
        rcases List.mem_append.mp hy with hy | hy
        · rcases List.mem_append.mp hy with hy | hy
          · exact hasc y (List.mem_of_mem_take hy)
          · rcases List.mem_cons.mp hy with rfl | hy
            · exact okt _
            · rw [List.mem_singleton.mp hy]; exact okd _
        · exact hasc y (List.mem_of_mem_drop hy)
      · unfold lenOf
        rw [wsum_app, wsum_app, List.length_append, List.length_append, List.length_take, List.length_drop]
        show wsum (R.take n) + (cw (ws.take pp) + (cw (ws.drop pp) + 0)) + wsum (R.drop (n + 1)) + (min n R.length + 2 + (R.length - (n + 1))) ≤ _
        omega
    · -- a row taken out, or told twice
      refine ⟨_, rfl, rl, _, rfl, .inl (SqL.of erl9), _, _, rfl, rfl, _, rfl, ?_⟩
      refine ite2 (fun _ => ?_) (fun _ => ?_)
      · refine ⟨_, rfl, _, rfl, _, rfl, rl, _, rfl, SqL.of erl9, fun q1 hq1 => ?_⟩
        rw [cut_to]
        have t1 := Same.new (o := .lst (vs.take n)) hq1
        refine ⟨_, rfl, _, rfl, _, _, rfl, rfl, _, rfl, rl, _, rfl, SqL.of (hrl9 t1), fun q2 hq2 => ?_⟩
        rw [ed, cut_from]
        have c2 := Same.new (o := .lst (vs.drop (n + 1))) hq2
        have t2 := Same.trans t1 c2
        refine ⟨q1, q2, _, _, rfl, rfl, c2 _ _ upd_same, upd_same, szb (by have := ld (n + 1); have := lt n; omega), fun q3 hq3 => ?_⟩
        have t3 := Same.trans t2 (Same.new (o := .lst (vs.take n ++ vs.drop (n + 1))) hq3)
        refine hD _ _ (fin2 q3 (R.take n ++ R.drop (n + 1)) _ _ _ _ _ _ _ _ t3 upd_same (paired_app (kr t3 _ _ (paired_take pv9 n)) (kr t3 _ _ (paired_drop pv9 (n + 1)))) (fun y hy => ?_) ?_)
        · rcases List.mem_append.mp hy with hy | hy
          · exact hasc y (List.mem_of_mem_take hy)
          · exact hasc y (List.mem_of_mem_drop hy)
        · unfold lenOf
          rw [wsum_app, List.length_append, List.length_take, List.length_drop]
          omega
      · refine ⟨_, rfl, _, rfl, (by show 1 ≤ sizeLine; decide), fun q1 hq1 => ?_⟩
        have t1 := Same.new (o := .lst [.ref ra]) hq1
        refine ⟨rl, q1, _, _, rfl, rfl, hrl9 t1, upd_same, szb (by show _ + 1 ≤ _; omega), fun q2 hq2 => ?_⟩
        have t2 := Same.trans t1 (Same.new (o := .lst (vs ++ [.ref ra])) hq2)
        refine hD _ _ (fin2 q2 (R ++ [ws]) _ _ _ _ _ _ _ _ t2 upd_same (paired_app (kr t2 _ _ pv9) (.cons ⟨ra, rfl, nra2, t2 _ _ era9⟩ .nil)) (fun y hy => ?_) ?_)
        · rcases List.mem_append.mp hy with hy | hy
          · exact hasc y hy
          · rw [List.mem_singleton.mp hy]; exact hws
        · unfold lenOf
          rw [wsum_app, List.length_append]
          show wsum R + (cw ws + 0) + (R.length + 1) ≤ _
          omega
end
end MS
end
section
set_option maxRecDepth 100000
set_option maxHeartbeats 4000000
namespace MS
open PySem L2
abbrev s_L_text : Stmt := topS 47
theorem sc_L_text : FnScope ["_law_scheme_here", "_law_kid", "_law_part"] ["_law_scheme_here"] (defScope s_L_text) := ⟨rfl, rfl, rfl, by decide +kernel, rfl, by decide +kernel, by decide +kernel⟩
/-! ### the words of a scheme, one by one, with their kinds -/
inductive Pt where
  | sch (d : Nat) (s : Sch)
  | schs (d : Nat) (ks : List Sch)
  | word (x : Str)
  | num (n : Int) (k : Str)
def nameOf : Sch → Str
  | .step _ _ => "step"
  | .all _ => "all"
  | .best _ => "best"
  | .most _ _ => "most"
  | .half _ => "half"
  | .seen _ _ => "seen"
  | .behind _ _ => "behind"
  | .carry _ => "carry"
  | .fin _ _ _ => "end"
  | .use _ => "use"
def partsP (d : Nat) : Sch → List Pt
  | .step x p => [.word x, .num p "points"]
  | .all k => [.schs d k]
  | .best k => [.schs d k]
  | .most n s => [.num n "limit", .sch d s]
  | .half s => [.sch d s]
  | .seen x s => [.word x, .sch d s]
  | .behind x s => [.word x, .sch d s]
  | .carry s => [.sch d s]
  | .fin x p s => [.word x, .num p "points", .sch d s]
  | .use n => [.num (n : Int) "later"]
def kd : Pt → Str
  | .sch _ _ => "scheme"
  | .schs _ _ => "schemes"
  | .word _ => "word"
  | .num _ k => k
def wd : Pt → Str
  | .sch _ s => nameOf s
  | .schs _ ks => tx ((ks.length : Nat) : Int)
  | .word x => x
  | .num n _ => tx n
def nextP : Pt → List Pt
  | .sch (d + 1) s => partsP d s
  | .sch 0 _ => []
  | .schs d ks => ks.map (.sch d)
  | _ => []
def nP (f : Sch → List Pt) : Pt → List Pt
  | .sch _ s => f s
  | .schs d ks => .schs d ks :: (ks.map f).flatten
  | p => [p]
def nS : Nat → Sch → List Pt
  | 0, _ => []
  | d + 1, s => .sch (d + 1) s :: ((partsP d s).map (nP (nS d))).flatten
/-- a part that can be -/
def OkP (i M : Nat) : Pt → Prop
  | .sch d s => OkS i M d s
  | .schs d ks => 0 < ks.length ∧ ks.length ≤ 4 ∧ ∀ s ∈ ks, OkS i M d s
  | .word x => IsW x
  | .num n k => 0 ≤ n ∧ n ≤ 30 ∧ (k = "points" ∨ k = "limit" ∨ k = "later")
theorem parts_ok {i M d : Nat} {s : Sch} (hM : M ≤ 5) (o : OkS i M (d + 1) s) : ∀ p ∈ partsP d s, OkP i M p := by
  intro p hp
  cases s with
  | step x q =>
    rcases List.mem_cons.mp hp with rfl | hp
    · exact o.1
    · rw [List.mem_singleton.mp hp]
      exact ⟨by have := o.2.1; omega, by have := o.2.2; omega, .inl rfl⟩
  | all k => rw [List.mem_singleton.mp hp]; exact o
  | best k => rw [List.mem_singleton.mp hp]; exact o
  | most n s =>
    rcases List.mem_cons.mp hp with rfl | hp
    · exact ⟨o.1.1, o.1.2, .inr (.inl rfl)⟩
    · rw [List.mem_singleton.mp hp]; exact o.2
  | half s => rw [List.mem_singleton.mp hp]; exact o
  | seen x s =>
    rcases List.mem_cons.mp hp with rfl | hp
    · exact o.1
    · rw [List.mem_singleton.mp hp]; exact o.2
  | behind x s =>
    rcases List.mem_cons.mp hp with rfl | hp
    · exact o.1
    · rw [List.mem_singleton.mp hp]; exact o.2
  | carry s => rw [List.mem_singleton.mp hp]; exact o
  | fin x q s =>
    rcases List.mem_cons.mp hp with rfl | hp
    · exact o.1.1
    · rcases List.mem_cons.mp hp with rfl | hp
      · exact ⟨by have := o.1.2.1; omega, by have := o.1.2.2; omega, .inl rfl⟩
      · rw [List.mem_singleton.mp hp]; exact o.2
  | use n =>
    rw [List.mem_singleton.mp hp]
    have h1 : i < n := o.1
    have h2 : n < M := o.2
    exact ⟨by omega, by omega, .inr (.inr rfl)⟩
theorem next_ok {i M : Nat} {p : Pt} (hM : M ≤ 5) (o : OkP i M p) : ∀ q ∈ nextP p, OkP i M q := by
  cases p with
  | sch d s =>
    cases d with
    | zero => exact fun q h => nomatch h
    | succ d => exact parts_ok hM o
  | schs d ks =>
    intro q hq
    obtain ⟨s, hs, rfl⟩ := List.mem_map.mp hq
    exact o.2.2 s hs
  | word x => exact fun q h => nomatch h
  | num n k => exact fun q h => nomatch h
/-! ### a stack of parts, run through -/
inductive Run : List Pt → List Pt → Prop where
  | nil : Run [] []
  | cons {p : Pt} {S L : List Pt} : Run (nextP p ++ S) L → Run (p :: S) (p :: L)
theorem run_list {f : Sch → List Pt} {d : Nat} : ∀ {ks : List Sch}, (∀ s ∈ ks, ∀ S L, Run S L → Run (.sch d s :: S) (f s ++ L)) → ∀ {S L : List Pt}, Run S L → Run (ks.map (.sch d) ++ S) ((ks.map f).flatten ++ L)
  | [], _, S, L, r => r
  | s :: ks, h, S, L, r => by
    have ih := run_list (ks := ks) (fun s' hs => h s' (List.mem_cons_of_mem _ hs)) r
    have := h s List.mem_cons_self _ _ ih
    rw [List.map_cons, List.map_cons, List.flatten_cons, List.append_assoc]
    exact this
theorem run_one {p : Pt} (h : nextP p = []) {S L : List Pt} (r : Run S L) : Run (p :: S) (p :: L) := .cons (by rw [h]; exact r)
theorem run_sch {i M : Nat} : ∀ {d : Nat} {s : Sch}, OkS i M d s → ∀ {S L : List Pt}, Run S L → Run (.sch d s :: S) (nS d s ++ L)
  | 0, _, o, _, _, _ => o.elim
  | d + 1, s, o, S, L, r => by
    refine .cons ?_
    show Run (partsP d s ++ S) (((partsP d s).map (nP (nS d))).flatten ++ L)
    have many : ∀ ks : List Sch, (∀ s ∈ ks, OkS i M d s) → Run (.schs d ks :: S) ((.schs d ks :: (ks.map (nS d)).flatten) ++ L) := fun ks hk => .cons (run_list (fun s hs S L r => run_sch (hk s hs) r) r)
    cases s with
    | step x q => exact run_one rfl (run_one rfl r)
    | all k => rw [show ((partsP d (.all k)).map (nP (nS d))).flatten = .schs d k :: (k.map (nS d)).flatten from List.append_nil _]; exact many k o.2.2
    | best k => rw [show ((partsP d (.best k)).map (nP (nS d))).flatten = .schs d k :: (k.map (nS d)).flatten from List.append_nil _]; exact many k o.2.2
    | most n s => rw [show ((partsP d (.most n s)).map (nP (nS d))).flatten = .num n "limit" :: nS d s from congrArg (List.cons _) (List.append_nil _)]; exact run_one rfl (run_sch o.2 r)
    | half s => rw [show ((partsP d (.half s)).map (nP (nS d))).flatten = nS d s from List.append_nil _]; exact run_sch (i := i) (M := M) (d := d) o r
    | seen x s => rw [show ((partsP d (.seen x s)).map (nP (nS d))).flatten = .word x :: nS d s from congrArg (List.cons _) (List.append_nil _)]; exact run_one rfl (run_sch o.2 r)
    | behind x s => rw [show ((partsP d (.behind x s)).map (nP (nS d))).flatten = .word x :: nS d s from congrArg (List.cons _) (List.append_nil _)]; exact run_one rfl (run_sch o.2 r)
    | carry s => rw [show ((partsP d (.carry s)).map (nP (nS d))).flatten = nS d s from List.append_nil _]; exact run_sch (i := i) (M := M) (d := d) o r
    | fin x q s => rw [show ((partsP d (.fin x q s)).map (nP (nS d))).flatten = .word x :: .num q "points" :: nS d s from congrArg (fun z => Pt.word x :: Pt.num q "points" :: z) (List.append_nil _)]; exact run_one rfl (run_one rfl (run_sch o.2 r))
    | use n => exact run_one rfl r
theorem run_len : ∀ {S L : List Pt}, Run S L → S.length ≤ L.length
  | _, _, .nil => Nat.le_refl _
  | _, _, .cons (S := S) r => by
    have := run_len r
    rw [List.length_append] at this
    rw [List.length_cons, List.length_cons]
    omega
theorem run_chain {i M : Nat} (hM : M ≤ 5) : ∀ {S L : List Pt}, Run S L → (∀ p ∈ S, OkP i M p) → ∃ f : Nat → List Pt, f 0 = S ∧ f L.length = [] ∧ ∀ (j : Nat) (p : Pt), L[j]? = some p → OkP i M p ∧ ∃ S', f j = p :: S' ∧ f (j + 1) = nextP p ++ S' ∧ (nextP p ++ S').length ≤ L.length
  | _, _, .nil, _ => ⟨fun _ => [], rfl, rfl, fun j p h => by simp at h⟩
  | _, _, .cons (p := p) (S := S) (L := L) r, o => by
    obtain ⟨g, g0, g1, g2⟩ := run_chain hM r fun q hq => by
      rcases List.mem_append.mp hq with hq | hq
      · exact next_ok hM (o p List.mem_cons_self) q hq
      · exact o q (List.mem_cons_of_mem _ hq)
    refine ⟨fun j => match j with | 0 => p :: S | j + 1 => g j, rfl, g1, fun j q h => ?_⟩
    cases j with
    | zero =>
      obtain rfl : p = q := by simpa using h
      exact ⟨o _ List.mem_cons_self, S, rfl, g0, Nat.le_succ_of_le (run_len r)⟩
    | succ j =>
      obtain ⟨h1, S', h2, h3, h4⟩ := g2 j q (by simpa using h)
      exact ⟨h1, S', h2, h3, Nat.le_succ_of_le h4⟩
/-! ### how many -/
def most : Nat → Nat
  | 0 => 0
  | 1 => 3
  | d + 1 => 2 + 4 * most d
theorem flat_le {f : Sch → List Pt} {m : Nat} : ∀ {ks : List Sch}, (∀ s ∈ ks, (f s).length ≤ m) → ((ks.map f).flatten).length ≤ ks.length * m
  | [], _ => by simp
  | s :: ks, h => by
    have h1 := h s List.mem_cons_self
    have h2 := flat_le (f := f) (m := m) (ks := ks) fun s' hs => h s' (List.mem_cons_of_mem _ hs)
    rw [List.map_cons, List.flatten_cons, List.length_append, List.length_cons, Nat.succ_mul]
    omega
theorem most_le {d : Nat} : most d + 3 ≤ most (d + 1) ∧ 2 + 4 * most d ≤ most (d + 1) ∨ d = 0 := by
  cases d with
  | zero => exact .inr rfl
  | succ d => exact .inl ⟨by
    have h1 : 1 ≤ most (d + 1) := by
      cases d with
      | zero => decide
      | succ e =>
        show 1 ≤ 2 + 4 * most (e + 1)
        omega
    show most (d + 1) + 3 ≤ 2 + 4 * most (d + 1)
    omega, Nat.le_refl _⟩
theorem nS_len {i M : Nat} : ∀ {d : Nat} {s : Sch}, OkS i M d s → (nS d s).length ≤ most d
  | 0, _, o => o.elim
  | d + 1, s, o => by
    have hl := most_le (d := d)
    have kid : ∀ s', OkS i M d s' → (nS d s').length ≤ most d ∧ most d + 3 ≤ most (d + 1) := fun s' o' => ⟨nS_len o', by
      rcases hl with ⟨h, _⟩ | h
      · exact h
      · subst h; exact o'.elim⟩
    have many : ∀ ks : List Sch, ks.length ≤ 4 → 0 < ks.length → (∀ s ∈ ks, OkS i M d s) → (nS (d + 1) (.all ks)).length ≤ most (d + 1) ∧ (nS (d + 1) (.best ks)).length ≤ most (d + 1) := fun ks h4 h0 hk => by
      have := flat_le (f := nS d) (m := most d) fun s hs => nS_len (hk s hs)
      have h5 : ks.length * most d ≤ 4 * most d := Nat.mul_le_mul_right _ h4
      have h6 : 2 + 4 * most d ≤ most (d + 1) := by
        rcases hl with ⟨_, h⟩ | h
        · exact h
        · subst h
          cases ks with
          | nil => exact absurd h0 (by decide)
          | cons s r => exact (hk s List.mem_cons_self).elim
      have e1 : nS (d + 1) (.all ks) = .sch (d + 1) (.all ks) :: ((.schs d ks :: (ks.map (nS d)).flatten) ++ []) := rfl
      have e2 : nS (d + 1) (.best ks) = .sch (d + 1) (.best ks) :: ((.schs d ks :: (ks.map (nS d)).flatten) ++ []) := rfl
      rw [e1, e2, List.append_nil]
      refine ⟨?_, ?_⟩ <;> (rw [List.length_cons, List.length_cons]; omega)
    have base3 : 3 ≤ most (d + 1) := by
      rcases hl with ⟨h, _⟩ | h
      · omega
      · subst h; decide
    cases s with
    | step x q => exact base3
    | all k => exact (many k o.2.1 o.1 o.2.2).1
    | best k => exact (many k o.2.1 o.1 o.2.2).2
    | most n s =>
      obtain ⟨h1, h2⟩ := kid s o.2
      show (nS d s ++ []).length + 1 + 1 ≤ _
      rw [List.append_nil]; omega
    | half s =>
      obtain ⟨h1, h2⟩ := kid s o
      show (nS d s ++ []).length + 1 ≤ _
      rw [List.append_nil]; omega
    | seen x s =>
      obtain ⟨h1, h2⟩ := kid s o.2
      show (nS d s ++ []).length + 1 + 1 ≤ _
      rw [List.append_nil]; omega
    | behind x s =>
      obtain ⟨h1, h2⟩ := kid s o.2
      show (nS d s ++ []).length + 1 + 1 ≤ _
      rw [List.append_nil]; omega
    | carry s =>
      obtain ⟨h1, h2⟩ := kid s o
      show (nS d s ++ []).length + 1 ≤ _
      rw [List.append_nil]; omega
    | fin x q s =>
      obtain ⟨h1, h2⟩ := kid s o.2
      show (nS d s ++ []).length + 1 + 1 + 1 ≤ _
      rw [List.append_nil]; omega
    | use n => exact Nat.le_trans (show 2 ≤ 3 by decide) base3
theorem most_mono {d : Nat} (h : d ≤ 5) : most d ≤ 938 := by
  have e : d = 0 ∨ d = 1 ∨ d = 2 ∨ d = 3 ∨ d = 4 ∨ d = 5 := by omega
  rcases e with rfl | rfl | rfl | rfl | rfl | rfl <;> decide
/-! ### where the parts stand -/
def PAt (H : Hp) : Pt → V → Prop
  | .sch d s, v => SAt H d s v
  | .schs d ks, v => ∃ b vs, v = .ref b ∧ H b = some (.tup vs) ∧ Paired (SAt H d) ks vs
  | .word x, v => v = .str x
  | .num n _, v => v = .int n
theorem PAt.keep {H H' : Hp} (k : TupK H H') : ∀ {p : Pt} {v : V}, PAt H p v → PAt H' p v
  | .sch d s, v, h => SAt.keep k d s v h
  | .schs d ks, v, ⟨b, vs, e1, e2, e3⟩ => ⟨b, vs, e1, k _ _ e2, paired_imp e3 fun s v => SAt.keep k d s v⟩
  | .word x, v, h => h
  | .num n _, v, h => h
theorem SAt.parts {H : Hp} {d : Nat} {sc : Sch} {v : V} (h : SAt H (d + 1) sc v) : ∃ a rest, v = .ref a ∧ H a = some (.tup (.str (nameOf sc) :: rest)) ∧ Paired (PAt H) (partsP d sc) rest ∧ (nameOf sc, (partsP d sc).map kd) ∈ shapesL := by
  cases sc with
  | step x p =>
    obtain ⟨a, e, h⟩ := h
    exact ⟨a, _, e, h, .cons rfl (.cons rfl .nil), (by decide +kernel : (("step", ["word", "points"]) : Str × List Str) ∈ shapesL)⟩
  | all k =>
    obtain ⟨a, b, vs, e, h, hb, hp⟩ := h
    exact ⟨a, _, e, h, .cons ⟨b, vs, rfl, hb, hp⟩ .nil, (by decide +kernel : (("all", ["schemes"]) : Str × List Str) ∈ shapesL)⟩
  | best k =>
    obtain ⟨a, b, vs, e, h, hb, hp⟩ := h
    exact ⟨a, _, e, h, .cons ⟨b, vs, rfl, hb, hp⟩ .nil, (by decide +kernel : (("best", ["schemes"]) : Str × List Str) ∈ shapesL)⟩
  | most n s =>
    obtain ⟨a, u, e, h, hs⟩ := h
    exact ⟨a, _, e, h, .cons rfl (.cons hs .nil), (by decide +kernel : (("most", ["limit", "scheme"]) : Str × List Str) ∈ shapesL)⟩
  | half s =>
    obtain ⟨a, u, e, h, hs⟩ := h
    exact ⟨a, _, e, h, .cons hs .nil, (by decide +kernel : (("half", ["scheme"]) : Str × List Str) ∈ shapesL)⟩
  | seen x s =>
    obtain ⟨a, u, e, h, hs⟩ := h
    exact ⟨a, _, e, h, .cons rfl (.cons hs .nil), (by decide +kernel : (("seen", ["word", "scheme"]) : Str × List Str) ∈ shapesL)⟩
  | behind x s =>
    obtain ⟨a, u, e, h, hs⟩ := h
    exact ⟨a, _, e, h, .cons rfl (.cons hs .nil), (by decide +kernel : (("behind", ["word", "scheme"]) : Str × List Str) ∈ shapesL)⟩
  | carry s =>
    obtain ⟨a, u, e, h, hs⟩ := h
    exact ⟨a, _, e, h, .cons hs .nil, (by decide +kernel : (("carry", ["scheme"]) : Str × List Str) ∈ shapesL)⟩
  | fin x p s =>
    obtain ⟨a, u, e, h, hs⟩ := h
    exact ⟨a, _, e, h, .cons rfl (.cons rfl (.cons hs .nil)), (by decide +kernel : (("end", ["word", "points", "scheme"]) : Str × List Str) ∈ shapesL)⟩
  | use n =>
    obtain ⟨a, e, h⟩ := h
    exact ⟨a, _, e, h, .cons rfl .nil, (by decide +kernel : (("use", ["later"]) : Str × List Str) ∈ shapesL)⟩
theorem shape_of {d : Nat} (sc : Sch) : (nameOf sc, (partsP d sc).map kd) ∈ shapesL := by
  cases sc <;> first
    | exact (by decide +kernel : (("step", ["word", "points"]) : Str × List Str) ∈ shapesL)
    | exact (by decide +kernel : (("all", ["schemes"]) : Str × List Str) ∈ shapesL)
    | exact (by decide +kernel : (("best", ["schemes"]) : Str × List Str) ∈ shapesL)
    | exact (by decide +kernel : (("most", ["limit", "scheme"]) : Str × List Str) ∈ shapesL)
    | exact (by decide +kernel : (("half", ["scheme"]) : Str × List Str) ∈ shapesL)
    | exact (by decide +kernel : (("seen", ["word", "scheme"]) : Str × List Str) ∈ shapesL)
    | exact (by decide +kernel : (("behind", ["word", "scheme"]) : Str × List Str) ∈ shapesL)
    | exact (by decide +kernel : (("carry", ["scheme"]) : Str × List Str) ∈ shapesL)
    | exact (by decide +kernel : (("end", ["word", "points", "scheme"]) : Str × List Str) ∈ shapesL)
    | exact (by decide +kernel : (("use", ["later"]) : Str × List Str) ∈ shapesL)
theorem parts_at {H : Hp} {d : Nat} {sc : Sch} {a : Addr} {rest : List V} (e : H a = some (.tup (.str (nameOf sc) :: rest))) (h : Paired (PAt H) (partsP d sc) rest) : SAt H (d + 1) sc (.ref a) := by
  cases sc with
  | step x p =>
    cases h with | cons h1 h => cases h with | cons h2 h => cases h; obtain rfl := h1; obtain rfl := h2; exact ⟨a, rfl, e⟩
  | all k =>
    cases h with | cons h1 h => cases h; obtain ⟨b, vs, rfl, hb, hp⟩ := h1; exact ⟨a, b, vs, rfl, e, hb, hp⟩
  | best k =>
    cases h with | cons h1 h => cases h; obtain ⟨b, vs, rfl, hb, hp⟩ := h1; exact ⟨a, b, vs, rfl, e, hb, hp⟩
  | most n s =>
    cases h with | cons h1 h => cases h with | cons h2 h => cases h; obtain rfl := h1; exact ⟨a, _, rfl, e, h2⟩
  | half s =>
    cases h with | cons h1 h => cases h; exact ⟨a, _, rfl, e, h1⟩
  | seen x s =>
    cases h with | cons h1 h => cases h with | cons h2 h => cases h; obtain rfl := h1; exact ⟨a, _, rfl, e, h2⟩
  | behind x s =>
    cases h with | cons h1 h => cases h with | cons h2 h => cases h; obtain rfl := h1; exact ⟨a, _, rfl, e, h2⟩
  | carry s =>
    cases h with | cons h1 h => cases h; exact ⟨a, _, rfl, e, h1⟩
  | fin x p s =>
    cases h with | cons h1 h => cases h with | cons h2 h => cases h with | cons h3 h => cases h; obtain rfl := h1; obtain rfl := h2; exact ⟨a, _, rfl, e, h3⟩
  | use n =>
    cases h with | cons h1 h => cases h; obtain rfl := h1; exact ⟨a, rfl, e⟩
end MS
end
section
set_option maxRecDepth 100000
set_option maxHeartbeats 4000000
namespace MS
open PySem L2
def rStrX : List V → Hp → VK → Prop := fun xs H Q => (∃ i, xs = [.int i] ∧ i.natAbs.log2 < 1920 ∧ Q (.str (tx i)) H) ∨ ∃ a, xs = [.str a] ∧ Q (.str a) H
theorem call_strX {X : Cx} : CallR X (.type "str") rStrX := by
  intro pins s σ H xs us Q I r h
  rcases h with h | h
  · exact call_str_int pins s σ H xs us Q I r h
  · exact SkE.call_str_str pins s σ H xs us Q I r h
theorem log_small {n : Int} (h0 : 0 ≤ n) (h1 : n ≤ 30) : n.natAbs.log2 < 1920 := by
  by_cases z : n.natAbs = 0
  · rw [z]; decide
  · exact Nat.lt_of_le_of_lt (Nat.log2_le_self _) (by omega)
def wordsV (L : List Pt) : List V := L.map fun p => V.str (wd p)
theorem wordsV_len (L : List Pt) : (wordsV L).length = L.length := List.length_map _
theorem wordsV_app (L M : List Pt) : wordsV (L ++ M) = wordsV L ++ wordsV M := List.map_append
theorem parts_d {d : Nat} {s : Sch} : ∀ p ∈ partsP d s, (∀ d' s', p = .sch d' s' → d' = d) ∧ ∀ d' ks, p = .schs d' ks → d' = d := by
  intro p hp
  cases s <;> simp only [partsP, List.mem_cons, List.not_mem_nil, or_false] at hp
  all_goals (first
    | (rcases hp with rfl | rfl | rfl <;> (refine ⟨fun d' s' e => ?_, fun d' ks e => ?_⟩ <;> (injection e <;> first | assumption | (subst_vars; rfl))))
    | (rcases hp with rfl | rfl <;> (refine ⟨fun d' s' e => ?_, fun d' ks e => ?_⟩ <;> (injection e <;> first | assumption | (subst_vars; rfl))))
    | (subst hp; refine ⟨fun d' s' e => ?_, fun d' ks e => ?_⟩ <;> (injection e <;> first | assumption | (subst_vars; rfl))))
/-! ### texts of words -/
theorem app_assoc (a b c : Str) : a ++ b ++ c = a ++ (b ++ c) := by
  obtain ⟨a⟩ := a; obtain ⟨b⟩ := b; obtain ⟨c⟩ := c
  show (⟨a ++ b ++ c⟩ : Str) = ⟨a ++ (b ++ c)⟩
  rw [Array.append_assoc]
theorem join_app {z : Str} : ∀ {xs ys : List Str}, xs ≠ [] → ys ≠ [] → Str.join z (xs ++ ys) = Str.join z xs ++ z ++ Str.join z ys
  | [], _, h, _ => absurd rfl h
  | [x], [], _, h => absurd rfl h
  | [x], y :: r, _, _ => rfl
  | x :: x' :: r, ys, _, h => by
    have ih := join_app (z := z) (xs := x' :: r) (ys := ys) (by simp) h
    show x ++ z ++ Str.join z (x' :: r ++ ys) = x ++ z ++ Str.join z (x' :: r) ++ z ++ Str.join z ys
    rw [ih]
    simp only [app_assoc]
theorem join_flat {z : Str} : ∀ {ls : List (List Str)}, (∀ l ∈ ls, l ≠ []) → Str.join z (ls.map (Str.join z)) = Str.join z ls.flatten
  | [], _ => rfl
  | [l], _ => by
    show Str.join z l = Str.join z (l ++ [])
    rw [List.append_nil]
  | l :: m :: r, h => by
    have ih := join_flat (z := z) (ls := m :: r) fun x hx => h x (List.mem_cons_of_mem _ hx)
    have hm : m ≠ [] := h m (by simp)
    show Str.join z l ++ z ++ Str.join z ((m :: r).map (Str.join z)) = Str.join z (l ++ (m :: r).flatten)
    rw [ih, join_app (h l List.mem_cons_self) (by rw [List.flatten_cons]; exact fun e => hm (List.append_eq_nil_iff.mp e).1)]
theorem join_len {z : Str} {m : Nat} (hz : z.length = 1) : ∀ {l : List Str}, (∀ x ∈ l, x.length ≤ m) → (Str.join z l).length ≤ (m + 1) * l.length
  | [], _ => Nat.zero_le _
  | [x], h => by
    have := h x List.mem_cons_self
    show x.length ≤ (m + 1) * 1
    omega
  | x :: y :: r, h => by
    have ih := join_len (z := z) (m := m) hz (l := y :: r) fun q hq => h q (List.mem_cons_of_mem _ hq)
    have h1 := h x List.mem_cons_self
    show (x ++ z ++ Str.join z (y :: r)).length ≤ (m + 1) * (r.length + 1 + 1)
    rw [Str.length_append, Str.length_append, hz]
    have e : (y :: r).length = r.length + 1 := rfl
    rw [e] at ih
    have e2 : (m + 1) * (r.length + 1 + 1) = (m + 1) * (r.length + 1) + (m + 1) := Nat.mul_succ _ _
    omega
def tS (d : Nat) (s : Sch) : Str := Str.join " " ((nS d s).map wd)
theorem tx_len : ∀ n : Int, 0 ≤ n → n ≤ 30 → (tx n).length ≤ 2 := by
  intro n h0 h1
  have key : ∀ k : Nat, k < 31 → (tx ((k : Nat) : Int)).length ≤ 2 := by decide +kernel
  obtain ⟨k, rfl⟩ : ∃ k : Nat, n = (k : Int) := ⟨n.toNat, by omega⟩
  exact key k (by omega)
theorem name_len : ∀ s : Sch, (nameOf s).length ≤ 6 := by
  intro s
  cases s <;> first
    | exact (by decide : ("step" : Str).length ≤ 6)
    | exact (by decide : ("all" : Str).length ≤ 6)
    | exact (by decide : ("best" : Str).length ≤ 6)
    | exact (by decide : ("most" : Str).length ≤ 6)
    | exact (by decide : ("half" : Str).length ≤ 6)
    | exact (by decide : ("seen" : Str).length ≤ 6)
    | exact (by decide : ("behind" : Str).length ≤ 6)
    | exact (by decide : ("carry" : Str).length ≤ 6)
    | exact (by decide : ("end" : Str).length ≤ 6)
    | exact (by decide : ("use" : Str).length ≤ 6)
theorem wd_len {i M : Nat} {p : Pt} (o : OkP i M p) : (wd p).length ≤ 6 := by
  cases p with
  | sch d s => exact name_len s
  | schs d ks =>
    have h := o.2.1
    exact Nat.le_trans (tx_len _ (by omega) (by omega)) (by decide)
  | word x => rw [show (wd (.word x)).length = 1 from IsW.len o]; decide
  | num n k => exact Nat.le_trans (tx_len n o.1 o.2.1) (by decide)
theorem nS_ok {i M : Nat} (hM : M ≤ 5) {d : Nat} {s : Sch} (o : OkS i M d s) : ∀ p ∈ nS d s, OkP i M p := fun p hp => by
  obtain ⟨f, _, _, h⟩ := run_chain (i := i) (M := M) hM (run_sch o .nil) (fun q hq => by rw [List.mem_singleton.mp hq]; exact o)
  rw [List.append_nil] at h
  obtain ⟨j, hj⟩ := List.mem_iff_getElem?.mp hp
  exact (h j p hj).1
theorem nS_ne {i M : Nat} {d : Nat} {s : Sch} (o : OkS i M d s) : nS d s ≠ [] := by
  cases d with
  | zero => exact o.elim
  | succ d => exact fun e => nomatch e
theorem words_ok {i M : Nat} (hM : M ≤ 5) {d : Nat} {s : Sch} (o : OkS i M d s) : ∀ x ∈ (nS d s).map wd, x.length ≤ 6 := fun x hx => by
  obtain ⟨p, hp, rfl⟩ := List.mem_map.mp hx
  exact wd_len (nS_ok hM o p hp)
theorem tS_len {i M : Nat} (hM : M ≤ 5) {d : Nat} {s : Sch} (hd : d ≤ 5) (o : OkS i M d s) : (tS d s).length ≤ 7 * 938 := by
  have h1 := join_len (z := " ") (m := 6) rfl (words_ok hM o)
  have h2 := nS_len o
  have h3 := most_mono hd
  rw [List.length_map] at h1
  unfold tS
  omega
/-- a part's own text -/
def tP (d : Nat) (p : Pt) : Str := Str.join " " ((nP (nS d) p).map wd)
theorem tS_of {i M d : Nat} {s : Sch} (hM : M ≤ 5) (o : OkS i M (d + 1) s) (na : ∀ p ∈ partsP d s, ∀ d' ks, p ≠ .schs d' ks) : tS (d + 1) s = Str.join " " (nameOf s :: (partsP d s).map (tP d)) := by
  have e : (nameOf s :: (partsP d s).map (tP d)) = ([nameOf s] :: (partsP d s).map fun p => (nP (nS d) p).map wd).map (Str.join " ") := by
    rw [List.map_cons, List.map_map]
    rfl
  rw [e, join_flat]
  · unfold tS
    show Str.join " " (nameOf s :: (((partsP d s).map (nP (nS d))).flatten).map wd) = Str.join " " ([nameOf s] ++ ((partsP d s).map fun p => (nP (nS d) p).map wd).flatten)
    rw [List.map_flatten, List.map_map]
    rfl
  · intro l hl
    rcases List.mem_cons.mp hl with rfl | hl
    · exact fun e => nomatch e
    · obtain ⟨p, hp, rfl⟩ := List.mem_map.mp hl
      have op := parts_ok hM o p hp
      cases p with
      | sch d' s' =>
        obtain rfl := (parts_d _ hp).1 _ _ rfl
        exact fun e => nS_ne op (List.map_eq_nil_iff.mp e)
      | schs d' ks => exact absurd rfl (na _ hp d' ks)
      | word x => exact fun e => nomatch e
      | num n k => exact fun e => nomatch e
theorem tS_many {i M d : Nat} {s : Sch} {ks : List Sch} (hs : s = .all ks ∨ s = .best ks) (o : ∀ s ∈ ks, OkS i M d s) : tS (d + 1) s = Str.join " " (nameOf s :: tx ((ks.length : Nat) : Int) :: ks.map (tS d)) := by
  have e : (nameOf s :: tx ((ks.length : Nat) : Int) :: ks.map (tS d)) = ([nameOf s] :: [tx ((ks.length : Nat) : Int)] :: ks.map fun s => (nS d s).map wd).map (Str.join " ") := by
    rw [List.map_cons, List.map_cons, List.map_map]
    rfl
  rw [e, join_flat]
  · unfold tS
    have e2 : nS (d + 1) s = .sch (d + 1) s :: .schs d ks :: (ks.map (nS d)).flatten := by
      rcases hs with rfl | rfl <;> exact congrArg (List.cons _) (List.append_nil _)
    rw [e2]
    show Str.join " " (nameOf s :: tx ((ks.length : Nat) : Int) :: ((ks.map (nS d)).flatten).map wd) = Str.join " " ([nameOf s] ++ ([tx ((ks.length : Nat) : Int)] ++ (ks.map fun s => (nS d s).map wd).flatten))
    rw [List.map_flatten, List.map_map]
    rfl
  · intro l hl
    rcases List.mem_cons.mp hl with rfl | hl
    · exact fun e => nomatch e
    · rcases List.mem_cons.mp hl with rfl | hl
      · exact fun e => nomatch e
      · obtain ⟨s', hs', rfl⟩ := List.mem_map.mp hl
        exact fun e => nS_ne (o s' hs') (List.map_eq_nil_iff.mp e)
/-! ### the law's text of a scheme; written; written_work -/
def spLT (i M d : Nat) : Sp := fun vs H Q _ => ∃ (v : V) (s : Sch), vs = [v] ∧ SAt H d s v ∧ OkS i M d s ∧ ∀ H', Same H H' → Q (.str (tS d s)) H'
abbrev nmLT : List Str := ["_law_scheme_here", "_law_kid", "_law_part"]
theorem sum_map_le {f : Str → Nat} {m : Nat} : ∀ {xs : List Str}, (∀ x ∈ xs, f x ≤ m) → (xs.map f).sum ≤ xs.length * m
  | [], _ => by simp
  | x :: r, h => by
    have h1 := h x List.mem_cons_self
    have h2 := sum_map_le (f := f) (m := m) (xs := r) fun y hy => h y (List.mem_cons_of_mem _ hy)
    rw [List.map_cons, List.sum_cons, List.length_cons, Nat.succ_mul]
    omega
theorem join_fits {xs : List Str} {n m : Nat} (hl : xs.length ≤ n) (h : ∀ x ∈ xs, x.length ≤ m) (hb : n * m + n ≤ 16777216) : (xs.map (·.length)).sum + xs.length * (" " : Str).length ≤ 16777216 := by
  have h1 := sum_map_le (f := fun x : Str => x.length) (m := m) h
  have h2 : xs.length * m ≤ n * m := Nat.mul_le_mul_right _ hl
  have e : (" " : Str).length = 1 := rfl
  rw [e]
  omega
section
variable {P : Program} {w : World} {K : PySem.W.Frag} {mg : Str → Option Value} {base : Heap}
theorem lt_turn {i M d : Nat} (hM : M ≤ 5) (hd : d + 1 ≤ 5) (T : PTx w K mg) (D : Def K mg "_law_text" s_L_text ["_law_scheme_here"]) (G : FnOk P w K mg base CX0 d D.f D.fd ["_law_scheme_here"] (spLT i M d)) : FnOk P w K mg base CX0 (d + 1) D.f D.fd ["_law_scheme_here"] (spLT i M (d + 1)) := by
  have nd := sc_L_text.nd
  refine D.ok sc_L_text (fun vs H Q E h => ?_) (fun cdv A outer s H vs Q E hr h => ?_)
  · obtain ⟨v, sc, rfl, _⟩ := h
    rfl
  obtain ⟨v, sc, rfl, hs, ho, q⟩ := h
  refine ⟨_, pss_cons (ps_if (pt_cmpR op_in_seq (pe_ix ix_tup (pv 0) pe_int (fun _ _ => rfl)) (pe_tup (pa_cons pe_str (pa_cons pe_str pa_nil))) (by rfl))
      (pss_one (ps_ret (pe_join pe_str (pe_op op_cat (pe_lst (pa_cons (pe_ix ix_tup (pv 0) pe_int (fun _ _ => rfl)) (pa_cons (pe_callTy call_strX rfl (T.free "str" (by decide +kernel)) (by decide +kernel) (pa_cons (pe_callB call_len_seq rfl (T.free "len" (by decide +kernel)) PySem.boot_len (pa_cons (pe_ix ix_tup (pv 0) pe_int (fun _ _ => rfl)) pa_nil)) pa_nil)) pa_nil)))
        (pe_lc (own := [("_law_kid", 1)]) (g := gName 1) (tt := tYes) rfl nd (pi_tup (pe_ix ix_tup (pv 0) pe_int (fun _ _ => rfl))) (blkOk_by (N := nmLT) (sc := defScope s_L_text) (by decide +kernel)) (fun _ _ _ _ _ => pg_name (i := 1) nd rfl (Or.inl rfl)) (fun _ _ _ _ _ => pts_nil) (fun _ _ _ _ _ => pcall D G hr (pa_cons (pv 1) pa_nil))))))) pss_nil)
    (pss_one (ps_ret (pe_join pe_str (pe_lc (own := [("_law_part", 2)]) (g := gName 2) (tt := tYes) (te := tIf (tB (tCB (rIsi K) (tCons (tVar 2) (tCons (tC (.ty "tuple")) tNil)))) (tCall (spLT i M d) [] E0 (tCons (tVar 2) tNil)) (tCB rStrX (tCons (tVar 2) tNil))) rfl nd (pi_tup (pv 0)) (blkOk_by (N := nmLT) (sc := defScope s_L_text) (by decide +kernel)) (fun _ _ _ _ _ => pg_name (i := 2) nd rfl (Or.inl rfl)) (fun _ _ _ _ _ => pts_nil)
      (fun _ _ _ _ _ => pe_ifExp (pt_val (pe_callB call_isi rfl (T.free "isinstance" (by decide +kernel)) (by decide +kernel) (pa_cons (pv 2) (pa_cons (pe_bltn rfl (T.free "tuple" (by decide +kernel)) (by decide +kernel) (v := .ty "tuple") rfl) pa_nil)))) (pcall D G hr (pa_cons (pv 2) pa_nil)) (pe_callTy call_strX rfl (T.free "str" (by decide +kernel)) (by decide +kernel) (pa_cons (pv 2) pa_nil))))))), ?_⟩
  obtain ⟨a, rest, rfl, ea, hpp, hshape⟩ := hs.parts
  have hpo := parts_ok hM ho
  have hpd := parts_d (d := d) (s := sc)
  have inn : ∀ {b : Bool} {σ : St} {H0 : Hp}, σ[0]? = some (some (.ref a)) → H0 a = some (.tup (.str (nameOf sc) :: rest)) → inV (.str (nameOf sc)) [.str "all", .str "best"] = b → ∀ Q : Bool → Hp → Prop, (∀ H', Same H0 H' → Q b H') →
      tTest (tOp (rIn K false) (tOp (rIxT K) (tVar 0) (tC (.int 0))) (tTup (tCons (tC (.str "all")) (tCons (tC (.str "best")) tNil)))) σ H0 Q := fun {b σ H0} s0 e0 e Q q =>
    ⟨_, s0, a, _, 0, _, rfl, rfl, SqT.of e0, at0, sz2, fun t ht => ⟨t, _, rfl, .inr (SqT.of upd_same), rfl, rfl, _, rfl, by
      show Q (inV (.str (nameOf sc)) [.str "all", .str "best"]) _
      rw [e]
      exact q _ (Same.new ht)⟩⟩
  by_cases hm : ∃ ks, sc = .all ks ∨ sc = .best ks
  · obtain ⟨ks, hks⟩ := hm
    have hat : ∃ b vs, rest = [.ref b] ∧ H b = some (.tup vs) ∧ Paired (SAt H d) ks vs := by
      rcases hks with rfl | rfl
      · cases hpp with | cons h1 h => cases h; obtain ⟨b, vs, rfl, hb, hp⟩ := h1; exact ⟨b, vs, rfl, hb, hp⟩
      · cases hpp with | cons h1 h => cases h; obtain ⟨b, vs, rfl, hb, hp⟩ := h1; exact ⟨b, vs, rfl, hb, hp⟩
    have hok : 0 < ks.length ∧ ks.length ≤ 4 ∧ ∀ s ∈ ks, OkS i M d s := by
      rcases hks with rfl | rfl
      · exact ho
      · exact ho
    have hin : inV (.str (nameOf sc)) [.str "all", .str "best"] = true := by
      rcases hks with rfl | rfl
      · show inV (.str "all") [.str "all", .str "best"] = true
        decide +kernel
      · show inV (.str "best") [.str "all", .str "best"] = true
        decide +kernel
    have htS := tS_many (i := i) (M := M) (d := d) hks hok.2.2
    obtain ⟨b, vs, rfl, eb, hk⟩ := hat
    have lk := Paired.length hk
    refine seq_new (b := true) (inn rfl ea hin) (fun _ H1 s1 => ?_) (fun z => nomatch z)
    have ea1 := s1 _ _ ea
    have eb1 := s1 _ _ eb
    refine ⟨⟨_, rfl⟩, _, rfl, a, _, 0, _, rfl, rfl, SqT.of ea1, at0, _, rfl, a, _, 1, .ref b, rfl, rfl, SqT.of ea1, at1, b, vs, rfl, .inr (SqT.of eb1), .inl ⟨_, rfl, log_small (by omega) (by omega), sz2, fun p1 hp1 => ?_⟩⟩
    have s2 := s1.trans (Same.new (o := .lst [.str (nameOf sc), .str (tx ((vs.length : Nat) : Int))]) hp1)
    have e1 : upd H1 p1 (.lst [.str (nameOf sc), .str (tx ((vs.length : Nat) : Int))]) p1 = some (.lst [.str (nameOf sc), .str (tx ((vs.length : Nat) : Int))]) := upd_same
    generalize upd H1 p1 (.lst [.str (nameOf sc), .str (tx ((vs.length : Nat) : Int))]) = H2 at s2 e1 ⊢
    refine ⟨_, rfl, a, _, 1, .ref b, rfl, rfl, SqT.of (s2 _ _ ea), at1, b, rfl, ⟨_, SqT.of (s2 _ _ eb)⟩, fun Dd hD => ?_⟩
    refine lc_it (walk_tup (K := K) (a := b) (xs := vs)) (fun k H'' => H'' Dd = some (.lst ((ks.take k).map fun s => V.str (tS d s))) ∧ Same H2 H'') ⟨upd_same, Same.new hD⟩ (fun k H'' _ ⟨_, s3⟩ => SqT.of (s3 _ _ (s2 _ _ eb))) ?_ ?_
    · rintro k y H3 H4 hkl ⟨eD, s3⟩ ⟨rfl, hy⟩
      have hk2 : k < ks.length := by omega
      have ek : ks[k]? = some (ks[k]'hk2) := List.getElem?_eq_getElem hk2
      obtain ⟨y', ey, hsy⟩ := paired_get2 hk ek
      rw [hy] at ey
      cases ey
      have ok' := hok.2.2 _ (List.getElem_mem hk2)
      have htk : ks.take (k + 1) = ks.take k ++ [ks[k]'hk2] := List.take_succ_eq_append_getElem hk2
      refine ⟨rfl, _, rfl, y, _, rfl, hsy.keep (Same.tupK (s2.trans s3)), ok', fun H5 s5 => ⟨_, s5 _ _ eD, ?_, ?_, Same.newer (s3.trans s5) hD⟩⟩
      · rw [List.length_map, List.length_take]
        exact small1000 (by omega)
      · rw [upd_same, htk, List.map_append]
        rfl
    · rintro H3 ⟨eD, s3⟩
      rw [← lk, List.take_length] at eD
      refine ⟨p1, Dd, _, _, rfl, rfl, s3 _ _ e1, eD, szN (by show 2 + _ ≤ 1000; rw [List.length_map]; omega), fun p3 hp3 => ?_⟩
      refine ⟨" ", p3, nameOf sc :: tx ((ks.length : Nat) : Int) :: ks.map (tS d), rfl, rfl, .inl (SqL.of ?_), ?_, ?_⟩
      · rw [upd_same, lk, List.map_cons, List.map_cons, List.map_map]
        rfl
      · refine join_fits (n := 6) (m := 6566) (by rw [List.length_cons, List.length_cons, List.length_map]; omega) (fun x hx => ?_) (by decide)
        rcases List.mem_cons.mp hx with rfl | hx
        · exact Nat.le_trans (name_len _) (by decide)
        · rcases List.mem_cons.mp hx with rfl | hx
          · exact Nat.le_trans (tx_len _ (by omega) (by omega)) (by decide)
          · obtain ⟨s', hs', rfl⟩ := List.mem_map.mp hx
            exact tS_len hM (by omega) (hok.2.2 s' hs')
      · rw [TL.join_eq, ← htS]
        exact q _ ((s2.trans s3).trans (Same.new hp3))
  · have hna : ∀ p ∈ partsP d sc, ∀ d' ks, p ≠ .schs d' ks := by
      intro p hp d' ks e
      subst e
      cases sc <;> simp [partsP] at hp
      · exact hm ⟨_, .inl rfl⟩
      · exact hm ⟨_, .inr rfl⟩
    have hin : inV (.str (nameOf sc)) [.str "all", .str "best"] = false := by
      cases sc with
      | all k => exact absurd ⟨_, .inl rfl⟩ hm
      | best k => exact absurd ⟨_, .inr rfl⟩ hm
      | step x p => show inV (.str "step") [.str "all", .str "best"] = false; decide +kernel
      | most n s => show inV (.str "most") [.str "all", .str "best"] = false; decide +kernel
      | half s => show inV (.str "half") [.str "all", .str "best"] = false; decide +kernel
      | seen x s => show inV (.str "seen") [.str "all", .str "best"] = false; decide +kernel
      | behind x s => show inV (.str "behind") [.str "all", .str "best"] = false; decide +kernel
      | carry s => show inV (.str "carry") [.str "all", .str "best"] = false; decide +kernel
      | fin x p s => show inV (.str "end") [.str "all", .str "best"] = false; decide +kernel
      | use n => show inV (.str "use") [.str "all", .str "best"] = false; decide +kernel
    have htS := tS_of hM ho hna
    have lps := Paired.length hpp
    have lp3 : (partsP d sc).length ≤ 3 := by
      have z : ∀ p ∈ shapesL, p.2.length ≤ 3 := by decide +kernel
      have := z _ hshape
      rw [List.length_map] at this
      exact this
    have hlen : ∀ x ∈ nameOf sc :: (partsP d sc).map (tP d), x.length ≤ 6566 := by
      intro x hx
      rcases List.mem_cons.mp hx with rfl | hx
      · exact Nat.le_trans (name_len _) (by decide)
      · obtain ⟨p, hp, rfl⟩ := List.mem_map.mp hx
        have op := hpo p hp
        cases p with
        | sch d' s' =>
          obtain rfl := (hpd _ hp).1 _ _ rfl
          exact tS_len hM (by omega) op
        | schs d' ks => exact absurd rfl (hna _ hp d' ks)
        | word x => show x.length ≤ 6566; rw [IsW.len op]; decide
        | num n k => exact Nat.le_trans (tx_len n op.1 op.2.1) (by decide)
    refine seq_new (b := false) (inn rfl ea hin) (fun z => nomatch z) (fun _ H1 s1 => ?_)
    refine ⟨⟨_, rfl⟩, _, rfl, a, rfl, ⟨_, SqT.of (s1 _ _ ea)⟩, fun Dd hD => ?_⟩
    have sz : (V.str (nameOf sc) :: rest).length = (nameOf sc :: (partsP d sc).map (tP d)).length := by
      rw [List.length_cons, List.length_cons, List.length_map, lps]
    refine lc_it (walk_tup (K := K) (a := a) (xs := V.str (nameOf sc) :: rest)) (fun k H'' => H'' Dd = some (.lst (((nameOf sc :: (partsP d sc).map (tP d)).take k).map V.str)) ∧ Same H1 H'') ⟨upd_same, Same.new hD⟩ (fun k H'' _ ⟨_, s3⟩ => SqT.of (s3 _ _ (s1 _ _ ea))) ?_ ?_
    · rintro k y H3 H4 hkl ⟨eD, s3⟩ ⟨rfl, hy⟩
      have fin : ∀ (z : Str) (H5 : Hp), (nameOf sc :: (partsP d sc).map (tP d))[k]? = some z → Same H4 H5 → ∃ acc, H5 Dd = some (.lst acc) ∧ acc.length < sizeLine ∧ (upd H5 Dd (.lst (acc ++ [V.str z])) Dd = some (.lst (((nameOf sc :: (partsP d sc).map (tP d)).take (k + 1)).map V.str)) ∧ Same H1 (upd H5 Dd (.lst (acc ++ [V.str z])))) := fun z H5 ez s5 =>
        ⟨_, s5 _ _ eD, by
          rw [List.length_map, List.length_take]
          rw [sz] at hkl
          rw [List.length_cons, List.length_map] at hkl ⊢
          exact small1000 (by omega), by rw [upd_same, List.take_succ, ez, List.map_append]; rfl, Same.newer (s3.trans s5) hD⟩
      cases k with
      | zero =>
        obtain rfl : V.str (nameOf sc) = y := by simpa using hy
        refine ⟨rfl, _, rfl, _, .ty "tuple", .type "str", .type "tuple", false, rfl, .ty _, .base (.str _), kit_ty (by decide +kernel), _, rfl, iteF ?_⟩
        exact ⟨_, rfl, .inr ⟨_, rfl, fin _ _ rfl (Same.refl _)⟩⟩
      | succ j =>
        have hy : rest[j]? = some y := by simpa using hy
        obtain ⟨p, ep, hat⟩ := paired_get' hpp hy
        have hmem := List.mem_of_getElem? ep
        have op := hpo p hmem
        have ez : (nameOf sc :: (partsP d sc).map (tP d))[j + 1]? = some (tP d p) := by
          rw [List.getElem?_cons_succ, List.getElem?_map, ep]
          rfl
        cases p with
        | schs d' ks => exact absurd rfl (hna _ hmem d' ks)
        | sch d' s' =>
          obtain rfl := (hpd _ hmem).1 _ _ rfl
          have hat4 : SAt H4 d' s' y := SAt.keep (Same.tupK (s1.trans s3)) _ _ _ hat
          have htag : ∃ a' xs', y = .ref a' ∧ H4 a' = some (.tup xs') := by
            cases d' with
            | zero => exact hat4.elim
            | succ e =>
              obtain ⟨a', rest', e1, e2, _⟩ := hat4.parts
              exact ⟨a', _, e1, e2⟩
          obtain ⟨a', xs', rfl, ea'⟩ := htag
          refine ⟨rfl, _, rfl, _, .ty "tuple", .type "tuple", .type "tuple", true, rfl, .ty _, .base (.tup ea'), kit_ty (by decide +kernel), _, rfl, iteT ?_⟩
          exact ⟨_, rfl, _, s', rfl, hat4, op, fun H5 s5 => fin _ _ ez s5⟩
        | word x =>
          obtain rfl : y = .str x := hat
          refine ⟨rfl, _, rfl, _, .ty "tuple", .type "str", .type "tuple", false, rfl, .ty _, .base (.str _), kit_ty (by decide +kernel), _, rfl, iteF ?_⟩
          exact ⟨_, rfl, .inr ⟨_, rfl, fin _ _ ez (Same.refl _)⟩⟩
        | num n k =>
          obtain rfl : y = .int n := hat
          refine ⟨rfl, _, rfl, _, .ty "tuple", .type "int", .type "tuple", false, rfl, .ty _, .base (.int _), kit_ty (by decide +kernel), _, rfl, iteF ?_⟩
          exact ⟨_, rfl, .inl ⟨_, rfl, log_small op.1 op.2.1, fin _ _ ez (Same.refl _)⟩⟩
    · rintro H3 ⟨eD, s3⟩
      rw [sz, List.take_length] at eD
      refine ⟨" ", Dd, _, rfl, rfl, .inl (SqL.of eD), join_fits (n := 6) (m := 6566) (by rw [List.length_cons, List.length_map]; omega) hlen (by decide), ?_⟩
      rw [TL.join_eq, ← htS]
      exact q _ (s1.trans s3)
theorem ok_lt {i M : Nat} (hM : M ≤ 5) (T : PTx w K mg) (D : Def K mg "_law_text" s_L_text ["_law_scheme_here"]) : ∀ d : Nat, d ≤ 5 → FnOk P w K mg base CX0 d D.f D.fd ["_law_scheme_here"] (spLT i M d)
  | 0, _ => by
    have e : spLT i M 0 = fun _ _ _ _ => False := by
      funext vs H Q E
      refine propext ⟨fun h => ?_, fun h => h.elim⟩
      obtain ⟨_, _, _, h, _⟩ := h
      exact h
    rw [e]
    exact no_sp
  | d + 1, h => lt_turn hM h T D (ok_lt hM T D d (by omega))
end
end MS
end
section
set_option maxRecDepth 100000
set_option maxHeartbeats 4000000
namespace MS
open PySem L2
/-! ### what is told of a call -/
abbrev s_L_told : Stmt := topS 42
abbrev nmTold : List Str := ["_law_work", "e", "_law_kinds", "_law_word"]
theorem sc_L_told : FnScope nmTold ["_law_work"] (defScope s_L_told) := ⟨rfl, rfl, rfl, by decide +kernel, rfl, by decide +kernel, by decide +kernel⟩
def errNames : List Str := ["BadPaper", "BadWork", "BadStep", "BadCount", "NoWork", "BadText"]
def errNm (i : Nat) : Str := errNames.getD i ""
structure ErrF (K : PySem.W.Frag) (mg : Str → Option Value) where
  A : Nat → Addr
  CM : Addr
  gP : mg "BadPaper" = some (.ref (A 0))
  gW : mg "BadWork" = some (.ref (A 1))
  gS : mg "BadStep" = some (.ref (A 2))
  gC : mg "BadCount" = some (.ref (A 3))
  gN : mg "NoWork" = some (.ref (A 4))
  gT : mg "BadText" = some (.ref (A 5))
  gM : mg "MarkError" = some (.ref CM)
  ve : mg "ValueError" = none
  isi : mg "isinstance" = none
  ex : ∀ i, i < 6 → ExcC K (A i)
  kit : ∀ i j, i < 6 → j < 6 → PySem.W.kitOne K (.ref (A i)) (.ref (A j)) = some (decide (i = j))
  kv : ∀ i, i < 6 → PySem.W.kitOne K (.ref (A i)) (.type "ValueError") = some true
  exm : ∀ i, i < 6 → PySem.W.exmOne K (.ref (A i)) (.ref CM) = some true
  xf : ∀ i, i < 6 → XfC K (A i)
  no0 : PySem.W.findIn K (.ref (A 0)) "scheme" = some none
  no1 : PySem.W.findIn K (.ref (A 0)) "place" = some none
  no2 : PySem.W.findIn K (.ref (A 1)) "number" = some none
  no3 : PySem.W.findIn K (.ref (A 5)) "place" = some none
/-- what stands in the error -/
def Pay (i : Nat) (d : Option Addr) (H : Hp) (vals : List V) : Prop := match i with
  | 0 => ∃ dd fs v1 v2, d = some dd ∧ H dd = some (.xd fs) ∧ fs.lookup ("scheme" : Str) = some v1 ∧ fs.lookup ("place" : Str) = some v2 ∧ vals = [v1, v2]
  | 1 => ∃ dd fs v, d = some dd ∧ H dd = some (.xd fs) ∧ fs.lookup ("number" : Str) = some v ∧ vals = [v]
  | 5 => ∃ dd fs v, d = some dd ∧ H dd = some (.xd fs) ∧ fs.lookup ("place" : Str) = some v ∧ vals = [v]
  | _ => XEU.DictAt d H ∧ vals = [.int 0]
theorem Pay.dict {i : Nat} {d : Option Addr} {H : Hp} {vals : List V} (h : Pay i d H vals) : XEU.DictAt d H := by
  unfold Pay at h
  split at h
  · obtain ⟨dd, fs, v1, v2, e1, e2, _⟩ := h
    exact .inr ⟨dd, fs, e1, e2⟩
  · obtain ⟨dd, fs, v, e1, e2, _⟩ := h
    exact .inr ⟨dd, fs, e1, e2⟩
  · obtain ⟨dd, fs, v, e1, e2, _⟩ := h
    exact .inr ⟨dd, fs, e1, e2⟩
  · exact h.1
theorem dict_keep {d : Option Addr} {H H' : Hp} (h : XEU.DictAt d H) (s : Same H H') : XEU.DictAt d H' := by
  rcases h with h | ⟨dd, fs, e1, e2⟩
  · exact .inl h
  · exact .inr ⟨dd, fs, e1, s _ _ e2⟩
theorem Pay.keep {i : Nat} {d : Option Addr} {H H' : Hp} {vals : List V} (h : Pay i d H vals) (s : Same H H') : Pay i d H' vals := by
  unfold Pay at h ⊢
  split at h
  · obtain ⟨dd, fs, v1, v2, e1, e2, h⟩ := h
    exact ⟨dd, fs, v1, v2, e1, s _ _ e2, h⟩
  · obtain ⟨dd, fs, v, e1, e2, h⟩ := h
    exact ⟨dd, fs, v, e1, s _ _ e2, h⟩
  · obtain ⟨dd, fs, v, e1, e2, h⟩ := h
    exact ⟨dd, fs, v, e1, s _ _ e2, h⟩
  · exact ⟨dict_keep h.1 s, h.2⟩
section
variable {K : PySem.W.Frag} {mg : Str → Option Value}
def ToldE (F : ErrF K mg) (Q : VK) : XK := fun cls d H => ∃ (i : Nat) (vals : List V), i < 6 ∧ cls = .ref (F.A i) ∧ Pay i d H vals ∧ ∀ (t : Addr) (H' : Hp), Same H H' → H t = none → H' t = some (.tup (.str (errNm i) :: vals)) → Q (.ref t) H'
def TTd (F : ErrF K mg) : (XK → Hp → VK → Prop) → Hp → VK → Prop := fun tl H Q => tl (ToldE F Q) H Q
theorem cnt1 : ∀ i : Nat, i < 6 → (([decide (i = 0), decide (i = 1), decide (i = 2), decide (i = 3), decide (i = 4), decide (i = 5)].map V.bl).countP fun z => eqV z (.bl true)) = 1 := by decide
theorem idx1 : ∀ i : Nat, i < 6 → ([decide (i = 0), decide (i = 1), decide (i = 2), decide (i = 3), decide (i = 4), decide (i = 5)].map V.bl)[i]? = some (.bl true) ∧ ∀ m : Nat, m < i → ∀ z, ([decide (i = 0), decide (i = 1), decide (i = 2), decide (i = 3), decide (i = 4), decide (i = 5)].map V.bl)[m]? = some z → eqV z (.bl true) = false := by
  intro i hi
  have e : i = 0 ∨ i = 1 ∨ i = 2 ∨ i = 3 ∨ i = 4 ∨ i = 5 := by omega
  rcases e with rfl | rfl | rfl | rfl | rfl | rfl <;> refine ⟨rfl, fun m hm z hz => ?_⟩
  · omega
  · obtain rfl : m = 0 := by omega
    cases hz; rfl
  · have e : m = 0 ∨ m = 1 := by omega
    rcases e with rfl | rfl <;> (cases hz; rfl)
  · have e : m = 0 ∨ m = 1 ∨ m = 2 := by omega
    rcases e with rfl | rfl | rfl <;> (cases hz; rfl)
  · have e : m = 0 ∨ m = 1 ∨ m = 2 ∨ m = 3 := by omega
    rcases e with rfl | rfl | rfl | rfl <;> (cases hz; rfl)
  · have e : m = 0 ∨ m = 1 ∨ m = 2 ∨ m = 3 ∨ m = 4 := by omega
    rcases e with rfl | rfl | rfl | rfl | rfl <;> (cases hz; rfl)
theorem told_gives {X : Cx} {q : Str} {g : Addr} {cdg : Value} (F : ErrF X.K X.mg) : LamX.GivesTo X nmTold "_law_told" (defScope s_L_told) g cdg (defBody s_L_told) "_law_work" q (TTd F) := by
  intro f c' s H Q tl act hc h
  have nd := sc_L_told.nd
  let Z : Cx := (cxOf C8.CX0 X.prog X.w X.K X.mg X.base nmTold "_law_told" (defScope s_L_told) g cdg X.A X.stack s H C8.E0).nox
  refine ⟨_, pss_one (L2.ps_try_as (X := Z) (c := .ref F.CM) (i := 1) (Wout := fun _ _ _ _ => False)
      (tb := fun W D σ H => ∃ Ech : XK, (∀ cls d σ' H', σ'.length = 4 → Ech cls d H' → W cls d σ' H') ∧ σ[0]? = some (some (.ref f)) ∧ H c' = some (LamX.CodeO c' q) ∧ tl Ech H D.rt)
      rfl rfl nd rfl rfl ⟨rfl, by decide, .inl F.gM⟩ LamX.takes0 (fun W pn xe tk _ => ?_) (fun a oe cls d pn hz hf =>
        pss_cons (ps_set (i := 2) nd rfl (Or.inl rfl) (pe_lst (pa_cons (pe_callB (XEU.call_isE hz hf) rfl F.isi (by decide +kernel) (pa_cons (pv 1) (pa_cons (pe_glob rfl F.gP (v := .ref (F.A 0)) rfl) pa_nil))) (pa_cons (pe_callB (XEU.call_isE hz hf) rfl F.isi (by decide +kernel) (pa_cons (pv 1) (pa_cons (pe_glob rfl F.gW (v := .ref (F.A 1)) rfl) pa_nil)))
            (pa_cons (pe_callB (XEU.call_isE hz hf) rfl F.isi (by decide +kernel) (pa_cons (pv 1) (pa_cons (pe_glob rfl F.gS (v := .ref (F.A 2)) rfl) pa_nil))) (pa_cons (pe_callB (XEU.call_isE hz hf) rfl F.isi (by decide +kernel) (pa_cons (pv 1) (pa_cons (pe_glob rfl F.gC (v := .ref (F.A 3)) rfl) pa_nil))) pa_nil))))))
        (pss_cons (ps_set (i := 2) nd rfl (Or.inl rfl) (pe_op op_cat (pv 2) (pe_lst (pa_cons (pe_callB (XEU.call_isE hz hf) rfl F.isi (by decide +kernel) (pa_cons (pv 1) (pa_cons (pe_glob rfl F.gN (v := .ref (F.A 4)) rfl) pa_nil))) (pa_cons (pe_callB (XEU.call_isE hz hf) rfl F.isi (by decide +kernel) (pa_cons (pv 1) (pa_cons (pe_glob rfl F.gT (v := .ref (F.A 5)) rfl) pa_nil))) pa_nil)))))
        (pss_cons (ps_if (PW.pt (pw_or (pt_cmpR op_ne (show PE (Z.suite a ((a, oe) :: pn)) _ (tBM X.K "list" (XEU.rCountF X.K) (tVar 2) (tCons (tC (.bl true)) tNil)) from pe_bm PySem.F.plainAttrs_list PySem.F.slot_list_count PySem.F.type_list_count XEU.mt_countF (pv 2) (pa_cons pe_bl pa_nil)) pe_int (nomark _)) (pw_or1 (pt_not (pt_val (pe_callB (XEU.call_isE hz hf) rfl F.isi (by decide +kernel) (pa_cons (pv 1) (pa_cons (pe_bltn rfl F.ve (by decide +kernel) (v := .ty "ValueError") rfl) pa_nil)))))))) (pss_one (ps_ret (pe_tup (pa_cons pe_str (pa_cons pe_int pa_nil))))) pss_nil)
        (pss_cons (ps_set (i := 3) nd rfl (Or.inl rfl) (pe_ix (r := rIxL X.K) ix_list (pe_lst (pa_cons pe_str (pa_cons pe_str (pa_cons pe_str (pa_cons pe_str (pa_cons pe_str (pa_cons pe_str pa_nil))))))) (show PE (Z.suite a ((a, oe) :: pn)) _ (tBM X.K "list" (rIndex X.K) (tVar 2) (tCons (tC (.bl true)) tNil)) from pe_bm PySem.F.plainAttrs_list PySem.F.slot_list_index PySem.F.type_list_index mt_index (pv 2) (pa_cons pe_bl pa_nil)) (fun _ _ => rfl)))
        (pss_cons (ps_if (pt_cmpR op_eq (pv 3) pe_str (nomark _)) (pss_one (ps_ret (pe_tup (pa_cons (pv 3) (pa_cons (pe_xf (F.xf 0 (by decide)) F.no0 hz hf (pv 1)) (pa_cons (pe_xf (F.xf 0 (by decide)) F.no1 hz hf (pv 1)) pa_nil)))))) pss_nil)
        (pss_one (ps_ret (pe_tup (pa_cons (pv 3) (pa_cons (pe_ifExp (pt_cmpR op_eq (pv 3) pe_str (nomark _)) (pe_xf (F.xf 1 (by decide)) F.no2 hz hf (pv 1)) (pe_ifExp (pt_cmpR op_eq (pv 3) pe_str (nomark _)) (pe_xf (F.xf 5 (by decide)) F.no3 hz hf (pv 1)) pe_int)) pa_nil))))))))))), ?_⟩
  · refine ⟨fun pins s' σ H' D I h' => ?_⟩
    obtain ⟨Ech, hW, h1, h2, h3⟩ := h'
    have tk2 : L2.Takes (Z.tr pn xe) (fun cls d σ' H' => σ'.length = 4 → W cls d σ' H') := fun u s' ⟨a, B, sI, pins, σ, H, cls, d, e, I, nb, up, sky, na, os, ag, w⟩ => tk u s' ⟨a, B, sI, pins, σ, H, cls, d, e, I, nb, up, sky, na, os, ag, w I.len⟩
    exact (pss_one (ps_ret (act _ pn xe Ech _ _ tk2 (fun cls d σ' H' hE hl => hW cls d σ' H' hl hE)))).run pins s' σ H' D I ⟨h1, h2, h3⟩
  · refine ⟨ToldE F Q, fun cls d σ' H1 hl hE => ?_, rfl, hc, h⟩
    obtain ⟨i, vals, hi, rfl, hp, hq⟩ := hE
    refine ⟨true, F.exm i hi, fun _ a ha => ?_, fun z => nomatch z⟩
    obtain ⟨s0, s1, s2, s3, rfl⟩ : ∃ s0 s1 s2 s3, σ' = [s0, s1, s2, s3] := by
      match σ', hl with
      | [s0, s1, s2, s3], _ => exact ⟨s0, s1, s2, s3, rfl⟩
    have isE : ∀ {x2 x3 : Option V} {j : Nat} {H2 : Hp} {Q2 : VK}, j < 6 → Same H1 H2 → Q2 (.bl (decide (i = j))) H2 → tCB (XEU.rIsE X.K (.ref (F.A i)) d a) (tCons (tVar 1) (tCons (tC (.ref (F.A j))) tNil)) [s0, some (.ref a), x2, x3] H2 Q2 := fun {x2 x3 j H2 Q2} hj s2 q2 =>
      ⟨_, rfl, F.A i, .ref (F.A j), .ref (F.A j), _, rfl, F.ex i hi, rfl, fun u hu => hu, F.kit i j hi hj, dict_keep hp.dict s2, q2⟩
    refine isE (by decide) (Same.refl _) (isE (by decide) (Same.refl _) (isE (by decide) (Same.refl _) (isE (by decide) (Same.refl _) ⟨(by show 4 ≤ sizeLine; decide), fun L1 h1 => ?_⟩)))
    have k1 : Same H1 (upd H1 L1 (.lst [.bl (decide (i = 0)), .bl (decide (i = 1)), .bl (decide (i = 2)), .bl (decide (i = 3))])) := Same.new h1
    dsimp only [gName]
    refine ⟨_, rfl, isE (by decide) k1 (isE (by decide) k1 ⟨(by show 2 ≤ sizeLine; decide), fun L2 h2 => ?_⟩)⟩
    have k2 := k1.trans (Same.new (o := .lst [.bl (decide (i = 4)), .bl (decide (i = 5))]) h2)
    refine ⟨L1, L2, _, _, rfl, rfl, Same.new h2 _ _ upd_same, upd_same, (by show 6 ≤ sizeLine; decide), fun L3 h3 => ?_⟩
    let ks : List V := [decide (i = 0), decide (i = 1), decide (i = 2), decide (i = 3), decide (i = 4), decide (i = 5)].map V.bl
    have k3 := k2.trans (Same.new (o := .lst ks) h3)
    dsimp only [gName]
    have hflat : ks.all flatV = true := rfl
    refine seq_if (b := false || false) (ev_or (b := false) (c := false) (fun Q q => ⟨_, rfl, .inl ⟨rfl, _, SqL.of upd_same⟩, L3, ks, .bl true, rfl, rfl, SqL.of upd_same, rfl, hflat, rfl, _, rfl, ?_⟩) (fun Q q => ⟨_, rfl, F.A i, .ty "ValueError", .type "ValueError", true, rfl, F.ex i hi, rfl, fun u hu => hu, F.kv i hi, dict_keep hp.dict k3, _, rfl, q⟩)) (fun z => nomatch z) (fun _ => ?_)
    · have e : (ks.countP fun z => eqV z (.bl true)) = 1 := cnt1 i hi
      rw [e]
      exact q
    have p3 := hp.keep k3
    have hidx := idx1 i hi
    have hnm : atI (errNames.map V.str) (i : Int) = some (.str (errNm i)) := by
      have h1 : i < errNames.length := hi
      refine atI_nat ?_
      rw [List.getElem?_map, List.getElem?_eq_getElem h1]
      unfold errNm
      rw [List.getD_eq_getElem?_getD, List.getElem?_eq_getElem h1]
      rfl
    refine ⟨(by show 6 ≤ sizeLine; decide), fun L4 h4 => ?_⟩
    have k4 := k3.trans (Same.new (o := .lst (errNames.map V.str)) h4)
    refine ⟨_, rfl, .inl ⟨rfl, _, SqL.of (Same.new h4 _ _ upd_same)⟩, L3, ks, .bl true, i, .bl true, rfl, rfl, SqL.of (Same.new h4 _ _ upd_same), rfl, hflat, hidx.1, rfl, (fun m z h1 h2 => hidx.2 m h1 z h2), ?_⟩
    refine ⟨L4, _, _, _, rfl, rfl, SqL.of upd_same, hnm, ?_⟩
    dsimp only [gName]
    let H4 : Hp := upd (upd (upd (upd H1 L1 (.lst [.bl (decide (i = 0)), .bl (decide (i = 1)), .bl (decide (i = 2)), .bl (decide (i = 3))])) L2 (.lst [.bl (decide (i = 4)), .bl (decide (i = 5))])) L3 (.lst ks)) L4 (.lst (errNames.map V.str))
    have k4 : Same H1 H4 := k4
    have p4 : Pay i d H4 vals := hp.keep k4
    have fin : ∀ (t : Addr) (o : HO), H4 t = none → o = .tup (.str (errNm i) :: vals) → Q (.ref t) (upd H4 t o) := fun t o ht e => hq t _ (k4.trans (Same.new ht)) (k4.free ht) (by rw [upd_same, e])
    have ite : i = 0 ∨ i = 1 ∨ i = 5 ∨ (i = 2 ∨ i = 3 ∨ i = 4) := by omega
    rcases ite with rfl | rfl | rfl | i3
    · obtain ⟨dd, fs, v1, v2, rfl, e2, e3, e4, rfl⟩ := p4
      refine seq_if (b := true) (fun Q q => ⟨_, rfl, rfl, _, rfl, by rw [dec_str]; exact q⟩) (fun _ => ?_) (fun z => nomatch z)
      exact ⟨_, rfl, _, rfl, rfl, rfl, dd, fs, v1, rfl, e2, e3, _, rfl, rfl, rfl, dd, fs, v2, rfl, e2, e4, (by show 3 ≤ sizeLine; decide), fun t ht => fin t _ ht rfl⟩
    · obtain ⟨dd, fs, v, rfl, e2, e3, rfl⟩ := p4
      refine seq_if (b := false) (fun Q q => ⟨_, rfl, rfl, _, rfl, by rw [dec_str]; exact q⟩) (fun z => nomatch z) (fun _ => ?_)
      refine ⟨_, rfl, _, rfl, rfl, _, rfl, ?_⟩
      exact iteT ⟨_, rfl, rfl, rfl, dd, fs, v, rfl, e2, e3, (by show 2 ≤ sizeLine; decide), fun t ht => fin t _ ht rfl⟩
    · obtain ⟨dd, fs, v, rfl, e2, e3, rfl⟩ := p4
      refine seq_if (b := false) (fun Q q => ⟨_, rfl, rfl, _, rfl, by rw [dec_str]; exact q⟩) (fun z => nomatch z) (fun _ => ?_)
      refine ⟨_, rfl, _, rfl, rfl, _, rfl, ?_⟩
      refine iteF ⟨_, rfl, rfl, _, rfl, ?_⟩
      exact iteT ⟨_, rfl, rfl, rfl, dd, fs, v, rfl, e2, e3, (by show 2 ≤ sizeLine; decide), fun t ht => fin t _ ht rfl⟩
    · have hv : vals = [.int 0] := by
        rcases i3 with rfl | rfl | rfl <;> exact p4.2
      subst hv
      have n1 : (errNm i == "BadPaper") = false ∧ (errNm i == "BadWork") = false ∧ (errNm i == "BadText") = false := by
        rcases i3 with rfl | rfl | rfl <;> decide +kernel
      refine seq_if (b := false) (fun Q q => ⟨_, rfl, rfl, _, rfl, by rw [dec_str, n1.1]; exact q⟩) (fun z => nomatch z) (fun _ => ?_)
      refine ⟨_, rfl, _, rfl, rfl, _, rfl, ?_⟩
      rw [dec_str, n1.2.1]
      refine iteF ⟨_, rfl, rfl, _, rfl, ?_⟩
      rw [dec_str, n1.2.2]
      exact iteF ⟨(by show 2 ≤ sizeLine; decide), fun t ht => fin t _ ht rfl⟩
end
end MS
end
section
set_option maxRecDepth 100000
set_option maxHeartbeats 4000000
namespace MS
open PySem L2
theorem alk_le {H : Hp} {n : Nat} {x y : V} (h : Alk H n x y) : ∀ m, Alk H (n + m) x y
  | 0 => h
  | m + 1 => (alk_le h m).up
theorem alk_lt {H : Hp} {n m : Nat} {x y : V} (h : Alk H n x y) (e : n ≤ m) : Alk H m x y := by
  have := alk_le h (m - n)
  rw [show n + (m - n) = m by omega] at this
  exact this
theorem paired2 {α : Type} {R S : α → V → Prop} {T : V → V → Prop} : ∀ {xs : List α} {us vs : List V}, Paired R xs us → Paired S xs vs → (∀ x ∈ xs, ∀ u v, R x u → S x v → T u v) → Paired T us vs
  | _, _, _, .nil, .nil, _ => .nil
  | _, _, _, .cons r t, .cons r' t', h => .cons (h _ List.mem_cons_self _ _ r r') (paired2 t t' fun x hx => h x (List.mem_cons_of_mem _ hx))
theorem alk_sch {H : Hp} {i M : Nat} : ∀ {d : Nat} {s : Sch} {v v' : V}, OkS i M d s → SAt H d s v → SAt H d s v' → Alk H (2 * d) v v'
  | 0, _, _, _, o, _, _ => o.elim
  | d + 1, s, v, v', o, h, h' => by
    obtain ⟨a, rest, rfl, ea, hp, hsh⟩ := h.parts
    obtain ⟨a', rest', rfl, ea', hp', _⟩ := h'.parts
    have lp := Paired.length hp
    have lp3 : (partsP d s).length ≤ 3 := by
      have z : ∀ p ∈ shapesL, p.2.length ≤ 3 := by decide +kernel
      have := z _ hsh
      rw [List.length_map] at this
      exact this
    have kid : ∀ s', OkS i M d s' → ∀ u u', SAt H d s' u → SAt H d s' u' → Alk H (2 * d) u u' := fun s' o' u u' h1 h2 => alk_sch o' h1 h2
    have ok : ∀ s' , (.sch d s' ∈ partsP d s → OkS i M d s') := fun s' hm => by
      cases s <;> simp only [partsP, List.mem_cons, List.not_mem_nil, or_false, reduceCtorEq, false_or, Pt.sch.injEq, true_and] at hm
      all_goals first | (subst hm; first | exact o.2 | exact o) | exact hm.elim
    have oks : ∀ ks, (.schs d ks ∈ partsP d s → ks.length ≤ 4 ∧ ∀ s' ∈ ks, OkS i M d s') := fun ks hm => by
      cases s <;> simp only [partsP, List.mem_cons, List.not_mem_nil, or_false, reduceCtorEq, false_or, Pt.schs.injEq, true_and] at hm
      all_goals first | (subst hm; exact o.2) | exact hm.elim
    show Alk H (2 * d + 1 + 1) (.ref a) (.ref a')
    refine .inr ⟨a, a', _, _, rfl, rfl, .inr ⟨ea, ea'⟩, by rw [List.length_cons]; omega, .cons (alk_lt (n := 0) (.inr ⟨_, rfl, rfl⟩) (Nat.zero_le _)) (paired2 hp hp' fun p hm u u' h1 h2 => ?_)⟩
    cases p with
    | sch d' s' =>
      obtain rfl := (parts_d _ hm).1 _ _ rfl
      exact (kid s' (ok s' hm) u u' h1 h2).up
    | schs d' ks =>
      obtain rfl := (parts_d _ hm).2 _ _ rfl
      obtain ⟨b, vs, rfl, eb, hk⟩ := h1
      obtain ⟨b', vs', rfl, eb', hk'⟩ := h2
      have lk := Paired.length hk
      obtain ⟨o4, o5⟩ := oks ks hm
      exact .inr ⟨b, b', _, _, rfl, rfl, .inr ⟨eb, eb'⟩, by omega, paired2 hk hk' fun s' hs' x y h1 h2 => kid s' (o5 s' hs') x y h1 h2⟩
    | word x =>
      obtain rfl := h1
      obtain rfl := h2
      exact alk_lt (n := 0) (.inr ⟨_, rfl, rfl⟩) (Nat.zero_le _)
    | num n k =>
      obtain rfl := h1
      obtain rfl := h2
      exact alk_lt (n := 0) (.inl ⟨_, rfl, rfl⟩) (Nat.zero_le _)
/-! ### texts of papers -/
theorem name_asc (s : Sch) : asc (nameOf s) := by
  have key : ∀ x ∈ (["step", "all", "best", "most", "half", "seen", "behind", "carry", "end", "use"] : List Str), ∀ c ∈ x.cps.toList, c < 128 := by decide +kernel
  refine key _ ?_
  cases s <;> simp [nameOf]
theorem tx_asc {n : Int} (h0 : 0 ≤ n) (h1 : n ≤ 30) : asc (tx n) := by
  have key : ∀ k : Nat, k < 31 → ∀ c ∈ (tx ((k : Nat) : Int)).cps.toList, c < 128 := by decide +kernel
  obtain ⟨k, rfl⟩ : ∃ k : Nat, n = (k : Int) := ⟨n.toNat, by omega⟩
  exact key k (by omega)
theorem word_asc {x : Str} (h : IsW x) : asc x := by
  have key : ∀ x ∈ wordsL, ∀ c ∈ x.cps.toList, c < 128 := by decide +kernel
  exact key x h
theorem wd_asc {i M : Nat} {p : Pt} (o : OkP i M p) : asc (wd p) := by
  cases p with
  | sch d s => exact name_asc s
  | schs d ks =>
    have h := o.2.1
    exact tx_asc (by omega) (by omega)
  | word x => exact word_asc o
  | num n k => exact tx_asc o.1 o.2.1
theorem tS_asc {i M : Nat} (hM : M ≤ 5) {d : Nat} {s : Sch} (o : OkS i M d s) : asc (tS d s) := join_asc sp_asc fun x hx => by
  obtain ⟨p, hp, rfl⟩ := List.mem_map.mp hx
  exact wd_asc (nS_ok hM o p hp)
def tPp (ps : List Sch) : Str := Str.join "\n" (ps.map (tS 5))
theorem tPp_ok {ps : List Sch} (hP : PaperOk ps) : asc (tPp ps) ∧ (tPp ps).length ≤ 40000 := by
  obtain ⟨ce, hf, _, _⟩ := hP.facts
  have hM := hP.2.1
  refine ⟨join_asc nl_asc fun x hx => ?_, ?_⟩
  · obtain ⟨s, hs, rfl⟩ := List.mem_map.mp hx
    obtain ⟨j, hj⟩ := List.mem_iff_getElem?.mp hs
    exact tS_asc hM (hf j s hj).1
  · have := join_len (z := "\n") (m := 6566) (by decide) (l := ps.map (tS 5)) fun x hx => by
      obtain ⟨s, hs, rfl⟩ := List.mem_map.mp hx
      obtain ⟨j, hj⟩ := List.mem_iff_getElem?.mp hs
      exact tS_len hM (by decide) (hf j s hj).1
    rw [List.length_map] at this
    unfold tPp
    omega
theorem app_asc {x y : Str} (hx : asc x) (hy : asc y) : asc (x ++ y) := fun c hc => by
  have hc : c ∈ TL.tl (x ++ y) := hc
  rw [TL.tl_append] at hc
  exact (List.mem_append.mp hc).elim (hx c) (hy c)
theorem rep_asc {z : Str} (hz : asc z) (n : Nat) : asc (XMu.repS z n) := fun c hc => by
  rw [XMu.tl_rep] at hc
  obtain ⟨l, hl, hc⟩ := List.mem_flatten.mp hc
  rw [(List.mem_replicate.mp hl).2] at hc
  exact hz c hc
def cutT (x : Str) : Str := cutS x none (some 1000)
theorem cutT_asc {x : Str} (h : asc x) : asc (cutT x) := fun c hc => h c (by
  unfold cutT cutS at hc
  have hc : c ∈ ((x.cps.toList.drop (HT.sIx x.length 0 none)).take (HT.sIx x.length x.length (some 1000) - HT.sIx x.length 0 none)) := by simpa using hc
  exact List.mem_of_mem_drop (List.mem_of_mem_take hc))
theorem cutT_len (x : Str) : (cutT x).length ≤ 1000 := by
  have e : (cutT x).length = ((x.cps.toList.drop (HT.sIx x.length 0 none)).take (HT.sIx x.length x.length (some 1000) - HT.sIx x.length 0 none)).length := by
    unfold cutT cutS
    simp [Str.length]
  rw [e, List.length_take, HT.sIx_none]
  have e2 : HT.sIx x.length x.length (some ((1000 : Nat) : Int)) = min 1000 x.length := HT.sIx_nat _ _ _
  have e3 : HT.sIx x.length x.length (some 1000) = min 1000 x.length := e2
  rw [e3]
  omega
/-- two papers that are the same, told twice -/
theorem badP_none {ps : List Sch} (h : badP ps = none) : fbL ps.length 0 ps = none := by
  cases e : fbL ps.length 0 ps with
  | none => rfl
  | some x => rw [badP_of e] at h; cases h
theorem paper_alk {H : Hp} {ps : List Sch} {pv pv' : List V} (h : badP ps = none) (p : Paired (FrmR H) ps pv) (p' : Paired (FrmR H) ps pv') : pv.length ≤ 1000 ∧ Paired (Alk H 10) pv pv' := by
  obtain ⟨h5, hok⟩ := fbL_ok (Nat.zero_le _) (frm_all p) (badP_none h)
  have lp := Paired.length p
  refine ⟨by omega, paired2 p p' fun s hs u v h1 h2 => ?_⟩
  obtain ⟨j, hj⟩ := List.mem_iff_getElem?.mp hs
  obtain ⟨o, _⟩ := hok j s hj
  obtain ⟨d1, a1, _⟩ := h1
  obtain ⟨d2, a2, _⟩ := h2
  exact alk_sch o (at_ok _ _ _ _ o a1) (at_ok _ _ _ _ o a2)
theorem places_alk {H : Hp} : ∀ wh : List Nat, Paired (Alk H 0) (natV wh) (natV wh)
  | [] => .nil
  | n :: r => .cons (.inl ⟨_, rfl, rfl⟩) (places_alk r)
def IMx : Type := { x : Nat × Nat // x.2 ≤ 5 }
def spLTA : Sp := fun vs H Q E => ∃ x : IMx, spLT x.1.1 x.1.2 5 vs H Q E
/-- what is due, as it stands -/
def DueAt (H : Hp) (x : Str) (v : V) : Prop := (∀ m, rdL 0 (rowsOf x) = .inl m → ∃ t, v = .ref t ∧ H t = some (.tup [.str "BadText", .int ((m : Nat) : Int)])) ∧
  ∀ ps, rdL 0 (rowsOf x) = .inr ps → (∀ n wh, badP ps = some (n, wh) → ∃ t q, v = .ref t ∧ H t = some (.tup [.str "BadPaper", .int ((n : Nat) : Int), .ref q]) ∧ H q = some (.tup (natV wh))) ∧
    (badP ps = none → ∃ p pv, v = .ref p ∧ H p = some (.tup pv) ∧ Paired (FrmR H) ps pv)
theorem DueAt.tup {H H' : Hp} {x : Str} {v : V} (h : DueAt H x v) (k : TupK H H') : DueAt H' x v := by
  refine ⟨fun m hm => ?_, fun ps hp => ⟨fun n wh hb => ?_, fun hb => ?_⟩⟩
  · obtain ⟨t, e, h1⟩ := h.1 m hm
    exact ⟨t, e, k _ _ h1⟩
  · obtain ⟨t, q, e, h1, h2⟩ := (h.2 ps hp).1 n wh hb
    exact ⟨t, q, e, k _ _ h1, k _ _ h2⟩
  · obtain ⟨p, pv, e, h1, h2⟩ := (h.2 ps hp).2 hb
    exact ⟨p, pv, e, k _ _ h1, paired_imp h2 fun _ _ z => z.keep k⟩
def spDueD : Sp := fun vs H Q _ => ∃ x : Str, vs = [.str x] ∧ asc x ∧ x.length ≤ 1000 ∧ ∀ (v : V) (H' : Hp), Same H H' → DueAt H' x v → Q v H'
theorem due_imp : ∀ vs H Q E, spDueD vs H Q E → spDueX vs H Q E := fun vs H Q E h => by
  obtain ⟨x, rfl, ha, hl, q⟩ := h
  refine ⟨x, rfl, ha, hl, fun m hm t H' s e => ?_, fun ps hp => ⟨fun n wh hb t q' H' s e e2 => ?_, fun hb p pv H' s e pp => ?_⟩⟩
  · exact q _ _ s ⟨fun m' hm' => by
      rw [hm] at hm'
      obtain rfl := Sum.inl.inj hm'
      exact ⟨t, rfl, e⟩, fun ps hp => by rw [hm] at hp; cases hp⟩
  · exact q _ _ s ⟨(fun m hm => by rw [hp] at hm; cases hm), fun ps' hp' => by
      rw [hp] at hp'
      obtain rfl := Sum.inr.inj hp'
      refine ⟨fun n' wh' hb' => ?_, fun hb' => by rw [hb] at hb'; cases hb'⟩
      rw [hb] at hb'
      cases hb'
      exact ⟨t, q', rfl, e, e2⟩⟩
  · exact q _ _ s ⟨(fun m hm => by rw [hp] at hm; cases hm), fun ps' hp' => by
      rw [hp] at hp'
      obtain rfl := Sum.inr.inj hp'
      exact ⟨fun n' wh' hb' => (by rw [hb] at hb'; cases hb'), fun _ => ⟨p, pv, rfl, e, pp⟩⟩⟩
end MS
end
section
set_option maxRecDepth 100000
set_option maxHeartbeats 4000000
namespace MS
open PySem L2
open HeY LamX
/-! ### the law -/
abbrev s_law : Stmt := topS 54
abbrev nmLaw : List Str := ["_law_script", "_law_box", "_law_turn", "_law_paper_here", "_law_text_here", "_law_change", "_law_due_here", "_law_again", "_law_scheme_here"]
theorem sc_law : FnScope nmLaw ["_law_script"] (defScope s_law) := ⟨rfl, rfl, rfl, by decide +kernel, rfl, by decide +kernel, by decide +kernel⟩
/-- what the def's code object is -/
def CodeAt (K : PySem.W.Frag) (f c : Addr) : Prop := ∀ oc od fd osl c', K.lookup f = some ⟨oc, od, .func fd, osl⟩ → fd.code = .ref c' → c' = c
section
variable {P : Program} {w : World} {K : PySem.W.Frag} {mg : Str → Option Value} {base : Heap}
theorem Def.okC {x : Str} {st : Stmt} {ps N : List Str} {k : Nat} {sp : Sp} {c : Addr} (D : Def K mg x st ps) (hc : CodeAt K D.f c) (S : FnScope N ps (defScope st)) (len : ∀ vs H Q E, sp vs H Q E → vs.length = ps.length)
    (hbody : ∀ (A : Around) (outer : List Env) (s : Shared) (H : Hp) (vs : List V) (Q : VK) (E : XK), Room k (A.deeper (PyProof.Rows.envOfC x (defScope st) s.heap.objs.size D.f (.ref c))) → sp vs H Q E →
      ∃ t, PSs (cxOf CX0 P w K mg base N x (defScope st) D.f (.ref c) A outer s H E).nox (defBody st) t ∧ t { nx := fun _ H' => Q .non H', rt := Q } (start N vs) H) : FnOk P w K mg base CX0 (k + 1) D.f D.fd ps sp := by
  obtain ⟨f, fd, F, g, b⟩ := D
  obtain ⟨oc, od, dV, kV, doc, pm, an, cdv, ct, osl, rfl, lk, hcd, _, _⟩ := F.ex
  obtain ⟨c', rfl⟩ := He.codeIn_ref hcd
  obtain rfl : c' = c := hc _ _ _ _ _ lk rfl
  exact fn_of lk hcd S len fun A outer s H vs Q E hr hsp => by
    obtain ⟨t, h, q⟩ := hbody A outer s H vs Q E hr hsp
    exact ⟨t, h.nox, q⟩
/-- told(lambda: body) -/
theorem pe_told {X : Cx} {T : List (Addr × Str)} {c P : Addr} {k : Nat} {params : Arguments} {body : Expr} {scope : Scope} {t : XK → TE} {p lpos pos : Pos} (F : ErrF X.K X.mg) (D : Def X.K X.mg "_law_told" s_L_told ["_law_work"]) (hg : Gl X "_law_told")
    (TB : TabB X.base X.mg c P) (hcode : X.env.code = .ref c) (hmT : (P, X.env.qual ++ "<lambda>") ∈ T) (hu : ∀ p ∈ T, p.1 = P → p.2 = X.env.qual ++ "<lambda>") (hr : Room (k + 2) X.A) (L : LamS X.env.scope scope) (hdef : defaultsOf params X.env = ([], []))
    (hbind : ∀ (q : Str) (cl : List (Str × Addr)) (pm cv ctv : Value), bindArgs (PySem.W.kla_fn "<lambda>" q params body scope cl pm cv ctv) ⟨[], []⟩ = pure [])
    (hbody : ∀ (A : Around) (outer : List Env) (s : Shared) (H : Hp) (E : XK) (f c' : Addr), Room k (A.deeper (lamEnv X scope s.heap.objs.size f c')) → PE (lamCx X A outer s H E scope f c') body (t E)) :
    PE X (.Call (.Name "_law_told" p) [.Lambda params body scope lpos] [] pos) (tLam T (TTd F) t) := by
  obtain ⟨f, fd, FD, g, b⟩ := D
  obtain ⟨oc, od, dV, kV, doc, pm, an, cdv, ct, osl, rfl, lk, hcd, _, _⟩ := FD.ex
  exact pe_lamcall hg g FD.kp lk hcd b sc_L_told rfl (Or.inl rfl) (told_gives F) TB hcode hmT hu hr L hdef hbind hbody
end
theorem lam_passes {X : Cx} {A : Around} {outer : List Env} {s : Shared} {H : Hp} {E : XK} {scope : Scope} {f c' : Addr} : Passes (L2.CX X.prog X.w) (lamCx X A outer s H E scope f c') E := L2.passes_call (L2.takes_of (X := lamCx X A outer s H E scope f c') rfl rfl rfl rfl) (fun _ _ _ _ h => h)
theorem pcall_lam {X : Cx} {A : Around} {outer : List Env} {s : Shared} {H : Hp} {E : XK} {scope : Scope} {f c' : Addr} {x : Str} {st : Stmt} {ps : List Str} {k : Nat} {sp : Sp} {e : Expr} {es : List Expr} {t : TA} {p pos : Pos} (D : Def X.K X.mg x st ps) (G : FnOk X.prog X.w X.K X.mg X.base (L2.CX X.prog X.w) k D.f D.fd ps sp)
    (hr : Room k (A.deeper (lamEnv X scope s.heap.objs.size f c'))) (ha : PA (lamCx X A outer s H E scope f c') (e :: es) t) (hg : scope.names.lookup x = some .globalImplicit) (hdb : (x == ("__debug__" : Str)) = false)
    (he : starEach (e :: es) (lamEnv X scope s.heap.objs.size f c') = (false, eval e (lamEnv X scope s.heap.objs.size f c')) :: starEach es (lamEnv X scope s.heap.objs.size f c')) (hpl : (backTo pos (starEach es (lamEnv X scope s.heap.objs.size f c'))).any (·.1) = false) :
    PE (lamCx X A outer s H E scope f c') (.Call (.Name x p) (e :: es) [] pos) (tCall sp [] E t) := pcallX (X := lamCx X A outer s H E scope f c') (E := E) D G hr (lam_passes (X := X) (A := A) (outer := outer) (s := s) (H := H) (E := E) (scope := scope) (f := f) (c' := c')) ha hg hdb he hpl
theorem pv_lam {X : Cx} {A : Around} {outer : List Env} {s : Shared} {H : Hp} {E : XK} {scope : Scope} {f c' : Addr} {x : Str} {i : Nat} {p : Pos} (hN : X.N[i]? = some x) (hv : scope.names.lookup x = some .free) (hd : (x == ("__debug__" : Str)) = false) (hcd : (x == ("__classdict__" : Str)) = false) : PE (lamCx X A outer s H E scope f c') (.Name x p) (tVar i) := pe_var (X := lamCx X A outer s H E scope f c') hN (.inr (.inr hv)) hd hcd
theorem tabs_keep {T : List (Addr × Str)} {H H' : Hp} {b l : Addr} (t : Tabs T H) (B : Box H b l) (k : Keep [b, l] H H') : Tabs T H' := fun p hp => by
  obtain ⟨_, ⟨n, e1⟩, ns, e2⟩ := B
  obtain ⟨ps, h1, h2, h3⟩ := t p hp
  have go : ∀ {a : Addr} {o : HO}, H a = some o → (∀ xs, o ≠ .lst xs) → H' a = some o := fun {a o} ha hn => k a o ha fun hm => by
    rcases List.mem_cons.mp hm with rfl | hm
    · rw [e1] at ha
      exact hn _ (Option.some.inj ha).symm
    · rw [List.mem_singleton.mp hm, e2] at ha
      exact hn _ (Option.some.inj ha).symm
  refine ⟨ps, go h1 (fun xs z => nomatch z), h2, fun pos cv hc => ?_⟩
  obtain ⟨c, e, h⟩ := h3 pos cv hc
  exact ⟨c, e, go h fun xs z => by unfold CodeO at z; cases z⟩
theorem box_ext {H H' : Hp} {b l : Addr} (B : Box H b l) (e : ExtN H H') : Box H' b l := by
  obtain ⟨ne, ⟨n, e1⟩, ns, e2⟩ := B
  exact ⟨ne, ⟨n, e _ _ e1 fun ps z => nomatch z⟩, ns, e _ _ e2 fun ps z => nomatch z⟩

/-- places are short -/
theorem fbW_len {i M : Nat} : ∀ (n : Nat) (L : List (List Nat × Sch)) (wh : List Nat), (∀ x ∈ L, x.1.length ≤ 5) → fbW i M n L = some wh → wh.length ≤ 5
  | n, [], wh, _, h => by rw [fbW_nil] at h; cases h
  | 0, x :: L, wh, f, h => by
    rw [fbW_zero] at h
    rw [← Option.some.inj h]
    exact f x List.mem_cons_self
  | n + 1, x :: L, wh, f, h => by
    rw [fbW_succ] at h
    by_cases c : x.1.length ≤ 4 ∧ okOwn i M x.2 = true
    · rw [if_pos c] at h
      refine fbW_len n _ wh (fun y hy => ?_) h
      rcases List.mem_append.mp hy with hy | hy
      · have := (waits_mem hy).1
        have := c.1
        omega
      · exact f y (List.mem_cons_of_mem _ hy)
    · rw [if_neg c] at h
      rw [← Option.some.inj h]
      exact f x List.mem_cons_self
theorem fbL_len {M : Nat} : ∀ {i : Nat} {r : List Sch} {n : Nat} {wh : List Nat}, fbL M i r = some (n, wh) → wh.length ≤ 5
  | i, [], n, wh, h => by cases h
  | i, s :: r, n, wh, h => by
    rw [fbL_cons] at h
    by_cases c : i = 5
    · rw [if_pos c] at h
      cases h
      exact Nat.zero_le _
    · rw [if_neg c] at h
      cases e : fbW i M 12 [([], s)] with
      | some p =>
        rw [e] at h
        cases h
        exact fbW_len 12 _ _ (fun x hx => by rw [List.mem_singleton.mp hx]; exact Nat.zero_le _) e
      | none =>
        rw [e] at h
        exact fbL_len h
theorem badP_len {ps : List Sch} {n : Nat} {wh : List Nat} (h : badP ps = some (n, wh)) : wh.length ≤ 5 := by
  cases e : fbL ps.length 0 ps with
  | some x =>
    rw [badP_of e] at h
    cases h
    exact fbL_len e
  | none =>
    rw [badP_cnt e] at h
    split at h
    · cases h
      exact Nat.zero_le _
    · cases h
structure D13 (K : PySem.W.Frag) (mg : Str → Option Value) where
  DBg : Def K mg "_law_begun" s_L_begun ["_law_script"]
  DT : Def K mg "_law_take" s_L_take ["_law_box", "_law_many"]
  DAl : Def K mg "_law_alike" s_L_alike psAlike
  DTo : Def K mg "_law_told" s_L_told ["_law_work"]
  DLe : Def K mg "_law_letters" s_L_letters ["_law_box"]
  DSc : Def K mg "_law_scheme" s_L_scheme psScheme
  DCo : Def K mg "_law_counted" s_L_counted psCounted
  DPa : Def K mg "_law_paper" s_L_paper ["_law_box", "_law_letters_here"]
  DTe : Def K mg "_law_text" s_L_text ["_law_scheme_here"]
  DSp : Def K mg "_law_spoilt" s_L_spoilt ["_law_box", "_law_text_here"]
  DNu : Def K mg "_law_number" s_L_number ["_law_word"]
  DGr : Def K mg "_law_grown" s_L_grown ["_law_words", "_law_at"]
  DFb : Def K mg "_law_first_bad" s_L_first_bad ["_law_paper_here"]
  DTa : Def K mg "_law_tally" s_L_tally ["_law_scheme_here", "_law_tallies"]
  DDu : Def K mg "_law_due" s_L_due ["_law_text_here"]
  DFi : Def K mg "is_figures" s_is_figures ["word"]
  DCs : Def K mg "can_stand" s_can_stand ["word", "kind"]
  DCm : Def K mg "coming" s_coming ["word", "kind"]
  DKi : Def K mg "kinds_in" s_kinds_in ["words", "start"]
  DTk : Def K mg "taken" s_taken ["parts", "many"]
  DSo : Def K mg "scheme_of" s_scheme_of ["words", "kinds"]
  DRd : Def K mg "read" s_read ["text"]
def spLaw (K : PySem.W.Frag) (P : Addr) : Sp := fun vs H Q _ => ∃ (a : Addr) (ns : List Int), vs = [.ref a] ∧ SqL K H a (ns.map V.int) ∧ ns.length ≤ 63 ∧ H P = some (.tbl #[]) ∧ ∀ H', Q (.bl true) H'
theorem seq_ifB {tc : TT} {t r : TS} {D : Ends} {σ : St} {H : Hp} (Pre : Hp → Prop) (RR : St → Hp → Prop) (h : ∀ Q : Bool → Hp → Prop, (∀ b H', Pre H' → Q b H') → tc σ H Q) (rest : ∀ σ' H', RR σ' H' → r D σ' H') (k1 : ∀ H', Pre H' → ∀ D' : Ends, (∀ σ' H', RR σ' H' → D'.nx σ' H') → t D' σ H') (k2 : ∀ H', Pre H' → RR σ H') :
    tSeq (tIfS tc t tNext) r D σ H := h _ fun b H' p => by
  cases b with
  | true => exact iteT (k1 H' p _ rest)
  | false => exact iteF (rest _ _ (k2 H' p))
theorem nums_ok : ∀ x ∈ (["99", "14", "13"] : List Str), asc x ∧ x.length ≤ 2 := by
  have key : ∀ x ∈ (["99", "14", "13"] : List Str), (∀ c ∈ x.cps.toList, c < 128) ∧ x.length ≤ 2 := by decide +kernel
  exact key
section
variable {P : Program} {w : World} {K : PySem.W.Frag} {mg : Str → Option Value} {base : Heap}
theorem ok_law (T : PTx w K mg) (U : PTe w K mg) (F : ErrF K mg) (RT : Tr P w K mg base) (RP : Rsr2 P w K mg base) (DP : DPaper K mg) (D : D13 K mg) {c Pt : Addr} (TB : TabB base mg c Pt) (DW : Def K mg "law" s_law ["_law_script"]) (hc : CodeAt K DW.f c) : FnOk P w K mg base CX0 205 DW.f DW.fd ["_law_script"] (spLaw K Pt) := by
  have ml : mg "len" = none := T.free "len" (by decide +kernel)
  have mli : mg "list" = none := T.free "list" (by decide +kernel)
  have mi : mg "int" = none := T.free "int" (by decide +kernel)
  have mr : mg "range" = none := T.free "range" (by decide +kernel)
  have mt : mg "tuple" = none := T.free "tuple" (by decide +kernel)
  have mis : mg "isinstance" = none := T.free "isinstance" (by decide +kernel)
  have ms : mg "str" = none := T.free "str" (by decide +kernel)
  have mb : mg "bool" = none := T.free "bool" (by decide +kernel)
  have mmin : mg "min" = none := T.free "min" (by decide +kernel)
  have GBg : FnOk P w K mg base CX0 1 D.DBg.f D.DBg.fd ["_law_script"] (spBegun K) := ok_begun D.DBg ml mli mi
  have GT : FnOk P w K mg base CX0 1 D.DT.f D.DT.fd ["_law_box", "_law_many"] spTake := ok_take D.DT
  have GLe : FnOk P w K mg base CX0 2 D.DLe.f D.DLe.fd ["_law_box"] spLetters := ok_letters D.DLe D.DT ml mli mr
  have GPa : FnOk P w K mg base CX0 7 D.DPa.f D.DPa.fd ["_law_box", "_law_letters_here"] spPaper := ok_paper D.DPa D.DT D.DSc D.DCo ml mr mt mi mis mli
  have GA : FnOk P w K mg base CX0 12 D.DAl.f D.DAl.fd psAlike (spAlike 11) := ok_alike D.DAl mis mb mi ms mt mli ml mr 11
  have GTe : FnOk P w K mg base CX0 5 D.DTe.f D.DTe.fd ["_law_scheme_here"] spLTA := fn_any fun x : IMx => ok_lt x.2 T D.DTe 5 (by decide)
  have GSp : FnOk P w K mg base CX0 2 D.DSp.f D.DSp.fd ["_law_box", "_law_text_here"] spSpoilt := ok_spoilt T D.DSp D.DT
  have GD : FnOk P w K mg base CX0 204 D.DDu.f D.DDu.fd ["_law_text_here"] spDueD := (ok_L_due T mmin D.DDu D.DGr D.DNu D.DFb D.DTa).imp due_imp
  have GR : FnOk P w K mg base (L2.CX P w) 6 D.DRd.f D.DRd.fd ["text"] (spReadX RT.C RP.C) := ok_readX T U RT RP DP D.DRd D.DKi D.DSo D.DTk D.DCs D.DFi D.DCm
  have nd := sc_law.nd
  refine DW.okC hc sc_law (fun vs H Q E h => ?_) (fun A outer s H vs Q E hr h => ?_)
  · obtain ⟨a, ns, rfl, _⟩ := h
    rfl
  obtain ⟨a, ns, rfl, hS, hlen, hP, q⟩ := h
  have r1 : Room 1 _ := hr.mono (by decide)
  have r2 : Room 2 _ := hr.mono (by decide)
  have r5 : Room 5 _ := hr.mono (by decide)
  have r7 : Room 7 _ := hr.mono (by decide)
  have r8 : Room 8 _ := hr.mono (by decide)
  have r12 : Room 12 _ := hr.mono (by decide)
  refine ⟨_, pss_cons (ps_set (i := 1) nd rfl (Or.inl rfl) (pcall D.DBg GBg r1 (pa_cons (pv 0) pa_nil)))
    (pss_cons (ps_for PassesOwn.never rfl (pi_range1 rfl mr (pa_cons pe_int pa_nil)) (pg_name (i := 2) nd rfl (Or.inl rfl))
      (pss_cons (ps_set (i := 3) nd rfl (Or.inl rfl) (pcall D.DPa GPa r7 (pa_cons (pv 1) (pa_cons (pcall D.DLe GLe r2 (pa_cons (pv 1) pa_nil)) pa_nil))))
      (pss_cons (ps_set (i := 4) nd rfl (Or.inr rfl) (pe_join pe_str (pe_lc (own := [("_law_scheme_here", 8)]) (g := gName 8) (tt := tYes) (te := tCall spLTA [] E0 (tCons (tVar 8) tNil)) rfl nd (pi_tup (pv 3)) (blkOk_by (N := nmLaw) (sc := defScope s_law) (by decide +kernel)) (fun _ _ _ _ _ => pg_name (i := 8) nd rfl (Or.inl rfl)) (fun _ _ _ _ _ => pts_nil) (fun _ _ _ _ _ => pcall D.DTe GTe r5 (pa_cons (pv 8) pa_nil)))))
      (pss_cons (ps_for PassesOwn.never rfl (pi_range1 rfl mr (pa_cons (pcall D.DT GT r1 (pa_cons (pv 1) (pa_cons pe_int pa_nil))) pa_nil)) (pg_name (i := 5) nd rfl (Or.inl rfl))
        (pss_one (ps_set (i := 4) nd rfl (Or.inr rfl) (pcall D.DSp GSp r2 (pa_cons (pv 1) (pa_cons (pv 4) pa_nil))))))
      (pss_cons (ps_if (pt_cmpR op_eq (pcall D.DT GT r1 (pa_cons (pv 1) (pa_cons pe_int pa_nil))) pe_int (nomark _))
        (pss_one (ps_set (i := 4) nd rfl (Or.inr rfl) (pe_op op_add_str (pe_op op_add_str pe_str (pe_ix ix_list (pe_lst (pa_cons pe_str (pa_cons pe_str (pa_cons pe_str pa_nil)))) (pcall D.DT GT r1 (pa_cons (pv 1) (pa_cons pe_int pa_nil))) (fun _ _ => rfl))) (pe_op XMu.op_mulS pe_str (pe_op op_add pe_int (pcall D.DT GT r1 (pa_cons (pv 1) (pa_cons pe_int pa_nil)))))))) pss_nil)
      (pss_cons (ps_set (i := 6) nd rfl (Or.inl rfl) (pcall D.DDu GD hr (pa_cons (pe_slice sl_str (pv 4) po_none (po_some pe_int)) pa_nil)))
      (pss_one (ps_for PassesOwn.never rfl (pi_range1 rfl mr (pa_cons pe_int pa_nil)) (pg_name (i := 7) nd rfl (Or.inl rfl))
        (pss_one (ps_if (pt_not (pt_val (pcall D.DAl GA r12 (pa_cons
            (pe_told (T := [(Pt, "law.<locals>.<lambda>")]) (k := 6) (c := c) (P := Pt) (t := fun E => tCall (spReadX RT.C RP.C) [] E (tCons (tSl rSlS (tVar 4) tNoPart (tPart (tC (.int 1000)))) tNil)) F D.DTo rfl TB rfl List.mem_cons_self (fun p hp _ => by rw [List.mem_singleton.mp hp]; rfl) r8 (show LamS (defScope s_law) _ from lamS_by (by decide +kernel)) rfl (fun _ _ _ _ _ => rfl)
              (fun A outer s H E f c' hr2 => pcall_lam D.DRd GR hr2 (pa_cons (pe_slice sl_str (pv_lam (i := 4) rfl rfl (by decide) (by decide)) po_none (po_some pe_int)) pa_nil) rfl (by decide) rfl rfl))
            (pa_cons (pv 6) pa_nil))))) (pss_one (ps_ret pe_bl)) pss_nil))))))))))
    (pss_one (ps_ret pe_bl))), ?_⟩
  refine ⟨_, rfl, a, ns, rfl, hS, hlen, fun b l H1 hb hl B1 s1 => ?_⟩
  dsimp only [gName]
  have T1 : Tabs [(Pt, "law.<locals>.<lambda>")] H1 := fun p hp => by
    obtain rfl := List.mem_singleton.mp hp
    exact TabS.nil (s1 _ _ hP)
  have toB : ∀ {H H' : Hp}, Box H b l → Same H H' → Box H' b l := fun B k => B.keep (Same.keep (S := []) k) (by simp) (by simp)
  refine ⟨4, rfl, by decide, by decide, ?_⟩
  refine for_range (lo := 0) (n := 4) (fun i σ H' => ∃ v2 v3 v4 v5 v6 v7 : Option V, σ = [some (.ref a), some (.ref b), v2, v3, v4, v5, v6, v7, none] ∧ Box H' b l ∧ Tabs [(Pt, "law.<locals>.<lambda>")] H')
    ⟨none, none, none, none, none, none, rfl, B1, T1⟩ ?_ ?_
  · rintro i σ H2 hi ⟨v2, v3, v4, v5, v6, v7, rfl, B2, T2⟩
    dsimp only [gName]
    refine ⟨_, rfl, _, rfl, b, l, rfl, B2, fun L FL H3 hL eL w1 l0 l1 B3 k3 => ?_⟩
    have nL := B2.ne_new hL
    have T3 := tabs_keep T2 B2 k3
    refine ⟨b, l, L, FL, rfl, B3, nL.1, nL.2, eL, w1, l0, l1, fun v ps H4 hp hPO B4 k4 => ?_⟩
    have T4 := tabs_keep T3 B3 k4
    dsimp only [gName]
    obtain ⟨pa, pv0, rfl, epv, pp⟩ := hp
    obtain ⟨ce, hfacts, _, _⟩ := hPO.facts
    have hM := hPO.2.1
    have lp := Paired.length pp
    -- the paper's text
    refine ⟨⟨_, rfl⟩, _, rfl, pa, rfl, ⟨_, SqT.of epv⟩, fun Dd hD => ?_⟩
    refine lc_it (walk_tup (K := K) (a := pa) (xs := pv0)) (fun k H'' => H'' Dd = some (.lst ((ps.take k).map fun s => V.str (tS 5 s))) ∧ Same H4 H'') ⟨upd_same, Same.new hD⟩ (fun k H'' _ ⟨_, s3⟩ => SqT.of (s3 _ _ epv)) ?_ ?_
    · rintro k y H5 H6 hkl ⟨eD, s3⟩ ⟨rfl, hy⟩
      have hk2 : k < ps.length := by omega
      have ek : ps[k]? = some (ps[k]'hk2) := List.getElem?_eq_getElem hk2
      obtain ⟨y', ey, hsy⟩ := paired_get2 pp ek
      rw [hy] at ey
      cases ey
      have o := (hfacts k _ ek).1
      have htk : ps.take (k + 1) = ps.take k ++ [ps[k]'hk2] := List.take_succ_eq_append_getElem hk2
      generalize ps[k]'hk2 = sc at hsy o htk
      let x : IMx := ⟨(k, ps.length), hM⟩
      refine ⟨rfl, _, rfl, x, y, sc, rfl, SAt.keep (Same.tupK s3) _ _ _ hsy, o, fun H7 s7 => ⟨_, s7 _ _ eD, ?_, ?_, Same.newer (s3.trans s7) hD⟩⟩
      · rw [List.length_map, List.length_take]
        exact small1000 (by omega)
      · rw [upd_same, htk, List.map_append]
        rfl
    rintro H5 ⟨eD, s5⟩
    rw [← lp, List.take_length] at eD
    refine ⟨"\n", Dd, ps.map (tS 5), rfl, rfl, .inl (SqL.of (by rw [eD, List.map_map]; rfl)), ?_, ?_⟩
    · refine join_fits (n := 5) (m := 6566) (by rw [List.length_map]; omega) (fun x hx => ?_) (by decide)
      obtain ⟨s', hs', rfl⟩ := List.mem_map.mp hx
      obtain ⟨j, hj⟩ := List.mem_iff_getElem?.mp hs'
      exact tS_len hM (by decide) (hfacts j s' hj).1
    rw [TL.join_eq]
    obtain ⟨hta, htl⟩ := tPp_ok hPO
    show gName 4 (.str (tPp ps)) _ H5 _
    dsimp only [gName]
    have B5 := toB B4 s5
    have T5 := T4.ext s5
    generalize tPp ps = x0 at hta htl ⊢
    -- how often it is spoilt
    refine ⟨_, rfl, b, l, 5, rfl, by decide, by decide, B5, fun r H6 c0 c1 B6 k6 => ?_⟩
    have T6 := tabs_keep T5 B5 k6
    refine ⟨r, rfl, by omega, by omega, ?_⟩
    have hr4 : r.toNat ≤ 4 := by omega
    refine for_range (lo := 0) (n := r.toNat) (fun j σ H' => ∃ (x : Str) (v5 : Option V), σ = [some (.ref a), some (.ref b), some (.int (0 + (i : Int))), some (.ref pa), some (.str x), v5, v6, v7, none] ∧ asc x ∧ x.length + 7 ≤ 4 ^ j * 40007 ∧ Box H' b l ∧ Tabs [(Pt, "law.<locals>.<lambda>")] H')
      ⟨x0, v5, rfl, hta, by omega, B6, T6⟩ ?_ ?_
    · rintro j σ H7 hj ⟨x, v5', rfl, hxa, hxl, B7, T7⟩
      dsimp only [gName]
      have hp4 : 4 ^ j * 40007 ≤ 64 * 40007 := by
        have h3 : j = 0 ∨ j = 1 ∨ j = 2 ∨ j = 3 := by omega
        rcases h3 with rfl | rfl | rfl | rfl <;> decide
      refine ⟨_, rfl, _, rfl, b, l, x, rfl, B7, hxa, by omega, fun y H8 hya hyl B8 k8 => ?_⟩
      dsimp only [gName]
      refine ⟨y, _, rfl, hya, ?_, B8, tabs_keep T7 B7 k8⟩
      rw [Nat.pow_succ, Nat.mul_assoc, Nat.mul_comm 4 40007, ← Nat.mul_assoc]
      omega
    rintro σ H7 ⟨x, v5', rfl, hxa, hxl, B7, T7⟩
    have hxl : x.length ≤ 10300000 := by
      have hp4 : 4 ^ r.toNat * 40007 ≤ 256 * 40007 := by
        have h3 : r.toNat = 0 ∨ r.toNat = 1 ∨ r.toNat = 2 ∨ r.toNat = 3 ∨ r.toNat = 4 := by omega
        rcases h3 with h | h | h | h | h <;> rw [h] <;> decide
      omega
    dsimp only
    -- or another text
    refine seq_ifB (fun H' => Box H' b l ∧ Tabs [(Pt, "law.<locals>.<lambda>")] H') (fun σ' H' => ∃ x : Str, σ' = [some (.ref a), some (.ref b), some (.int (0 + (i : Int))), some (.ref pa), some (.str x), v5', v6, v7, none] ∧ asc x ∧ x.length ≤ 10300000 ∧ Box H' b l ∧ Tabs [(Pt, "law.<locals>.<lambda>")] H')
      (fun Q q => ⟨_, rfl, b, l, 8, rfl, by decide, by decide, B7, fun r H8 c0 c1 B8 k8 => ⟨rfl, _, rfl, q _ H8 ⟨B8, tabs_keep T7 B7 k8⟩⟩⟩) ?_ (fun H8 ⟨B8, T8⟩ D' hD => ?_) (fun H8 ⟨B8, T8⟩ => ⟨x, rfl, hxa, hxl, B8, T8⟩)
    · rintro σ H8 ⟨x, rfl, hxa, hxl, B8, T8⟩
      have hxz : x.length ≤ sizeLine := by rw [sizeLine_eq]; omega
      have hca := cutT_asc hxa
      have hcl := cutT_len x
      refine ⟨_, rfl, _, rfl, x, rfl, hxz, cutT x, rfl, hca, hcl, fun v H9 s9 hd => ?_⟩
      dsimp only [gName]
      refine ⟨2, rfl, by decide, by decide, ?_⟩
      refine for_range (lo := 0) (n := 2) (fun j σ H' => ∃ v7 : Option V, σ = [some (.ref a), some (.ref b), some (.int (0 + (i : Int))), some (.ref pa), some (.str x), v5', some v, v7, none] ∧ Box H' b l ∧ Tabs [(Pt, "law.<locals>.<lambda>")] H' ∧ DueAt H' (cutT x) v)
        ⟨v7, rfl, toB B8 s9, T8.ext s9, hd⟩ ?_ ?_
      · clear hd
        rintro j σ H10 hj ⟨v7, rfl, B10, T10, hd⟩
        dsimp only [gName]
        refine ⟨T10, fun H11 eN T11 => ?_⟩
        have B11 := box_ext B10 eN
        have hd11 := hd.tup (H' := H11) fun a xs e => eN _ _ e fun ps z => nomatch z
        have eT : RT.C = F.A 5 := by
          have z := RT.g.symm.trans F.gT
          exact V.ref.inj (by simpa using z)
        have eP : RP.C = F.A 0 := by
          have z := RP.g.symm.trans F.gP
          exact V.ref.inj (by simpa using z)
        -- what is behind the comparison
        have fin : ∀ Hx, Same H11 Hx → ∃ v7' : Option V, ([some (.ref a), some (.ref b), some (.int (0 + (i : Int))), some (.ref pa), some (.str x), v5', some v, some (.int (0 + (j : Int))), none] : St) = [some (.ref a), some (.ref b), some (.int (0 + (i : Int))), some (.ref pa), some (.str x), v5', some v, v7', none] ∧ Box Hx b l ∧ Tabs [(Pt, "law.<locals>.<lambda>")] Hx ∧ DueAt Hx (cutT x) v := fun Hx sx =>
          ⟨_, rfl, toB B11 sx, T11.ext sx, hd11.tup (Same.tupK sx)⟩
        refine ⟨_, rfl, _, rfl, x, rfl, hxz, cutT x, rfl, hca, hcl, fun m hm d H12 hd' s12 ed => ?_, fun ps' hps => ⟨fun n wh hb' d qa H12 hd' s12 ed eq => ?_, fun hb' p pv H12 s12 hp ep pp' => ?_⟩⟩
        · refine ⟨5, [.int ((m : Nat) : Int)], by decide, by rw [eT], ⟨d, _, _, rfl, ed, rfl, rfl⟩, fun tt Hb sb htt ett => ?_⟩
          obtain ⟨t', rfl, et'⟩ := hd11.1 m hm
          have sx := Same.trans s12 sb
          refine ⟨_, rfl, _, _, rfl, alk_lt (n := 1) (.inr ⟨tt, t', _, _, rfl, rfl, .inr ⟨ett, sx _ _ et'⟩, (by show 2 ≤ 1000; decide), .cons (.inr ⟨_, rfl, rfl⟩) (.cons (.inl ⟨_, rfl, rfl⟩) .nil)⟩) (by decide), fun H'' s'' => ⟨_, rfl, iteF (fin H'' (Same.trans sx s''))⟩⟩
        · refine ⟨0, [.int ((n : Nat) : Int), .ref qa], by decide, by rw [eP], ⟨d, _, _, _, rfl, ed, rfl, rfl, rfl⟩, fun tt Hb sb htt ett => ?_⟩
          obtain ⟨t', q', rfl, et', eq'⟩ := (hd11.2 ps' hps).1 n wh hb'
          have sx := Same.trans s12 sb
          have hwl := badP_len hb'
          refine ⟨_, rfl, _, _, rfl, alk_lt (n := 2) (.inr ⟨tt, t', _, _, rfl, rfl, .inr ⟨ett, sx _ _ et'⟩, (by show 3 ≤ 1000; decide), .cons (.inl (.inr ⟨_, rfl, rfl⟩)) (.cons (.inl (.inl ⟨_, rfl, rfl⟩)) (.cons (.inr ⟨qa, q', _, _, rfl, rfl, .inr ⟨sb _ _ eq, sx _ _ eq'⟩, by rw [natV_len]; omega, places_alk wh⟩) .nil))⟩) (by decide), fun H'' s'' => ⟨_, rfl, iteF (fin H'' (Same.trans sx s''))⟩⟩
        · obtain ⟨p', pv', rfl, ep', pp2⟩ := (hd11.2 ps' hps).2 hb'
          have pp3 := paired_imp pp2 fun _ _ z => FrmR.keep z (Same.tupK s12)
          obtain ⟨hl1, hA⟩ := paper_alk hb' pp' pp3
          refine ⟨_, rfl, _, _, rfl, .inr ⟨p, p', pv, pv', rfl, rfl, .inr ⟨ep, s12 _ _ ep'⟩, hl1, hA⟩, fun H'' s'' => ⟨_, rfl, iteF (fin H'' (Same.trans s12 s''))⟩⟩
      · rintro σ H10 ⟨v7, rfl, B10, T10, _⟩
        exact ⟨_, _, _, _, _, _, rfl, B10, T10⟩
    · refine ⟨(by show 3 ≤ sizeLine; decide), fun p1 hp1 => ?_⟩
      have B9 := B8.new (o := .lst [.str "99", .str "14", .str "13"]) hp1
      have T9 : Tabs [(Pt, "law.<locals>.<lambda>")] (upd H8 p1 (.lst [.str "99", .str "14", .str "13"])) := T8.ext (Same.new hp1)
      refine ⟨_, rfl, b, l, 3, rfl, by decide, by decide, B9, fun r1 H10 d0 d1 B10 k10 => ?_⟩
      have T10 := tabs_keep T9 B9 k10
      have e10 := k10 _ _ (show upd H8 p1 (.lst [.str "99", .str "14", .str "13"]) p1 = _ from upd_same) (B8.nin hp1)
      obtain ⟨n1, rfl⟩ : ∃ n1 : Nat, r1 = (n1 : Int) := ⟨r1.toNat, by omega⟩
      have hn1 : n1 < (["99", "14", "13"] : List Str).length := by show n1 < 3; omega
      obtain ⟨hna, hnl⟩ := nums_ok _ (List.getElem_mem hn1)
      refine ⟨p1, _, _, .str ((["99", "14", "13"] : List Str)[n1]'hn1), rfl, rfl, SqL.of e10, atI_nat (get_map V.str (["99", "14", "13"] : List Str) hn1), ?_⟩
      generalize (["99", "14", "13"] : List Str)[n1]'hn1 = nn at hna hnl
      have e4 : ("all " : Str).length = 4 := by decide +kernel
      have e9 : (" step a 1" : Str).length = 9 := by decide +kernel
      refine ⟨_, _, rfl, rfl, szN (by omega), _, rfl, b, l, 5, rfl, by decide, by decide, B10, fun r2 H11 f0 f1 B11 k11 => ?_⟩
      have lrep := XMu.len_rep " step a 1" (11 + r2).toNat
      have lapp : ("all " ++ nn : Str).length = 4 + nn.length := by rw [Str.length_append, e4]
      rw [e9] at lrep
      refine ⟨_, _, rfl, rfl, _, _, rfl, rfl, by omega, by omega, by decide, by decide, _, _, rfl, rfl, szN (by omega), hD _ _ ⟨_, rfl, app_asc (app_asc ?_ hna) (rep_asc ?_ _), ?_, B11, tabs_keep T10 B10 k11⟩⟩
      · unfold asc; decide +kernel
      · unfold asc; decide +kernel
      · rw [Str.length_append]
        omega
  · rintro σ H2 ⟨v2, v3, v4, v5, v6, v7, rfl, B2, T2⟩
    exact q H2
end
end MS
end
section
set_option maxRecDepth 100000
set_option maxHeartbeats 4000000
namespace HeY
open PySem PySem.Spec PyProof.Rows L2 He
/-! the same facts, looked up at addresses that are written down -/
def obsZ (as : List Addr) (fa : List Fa) (fn : List DefD) (ts : List Tab) (tf : List Defn) (xs : List InD) (ex : PySem.W.Frag → Bool) (g : Addr → Option Obj) : AlY :=
  ((obsT fa fn ts (frT g as), ex (frT g as) && tabsB g tf (frT g as)), xs.map fun d => fnY (frT g as) d.cls)
theorem saysZ_of {as : List Addr} {fa : List Fa} {fn : List DefD} {ts : List Tab} {tf : List Defn} {xs : List InD} {ex : PySem.W.Frag → Bool} {w : World} {h : Heap} (e : obsZ as fa fn ts tf xs ex h.get? = valY fn ts xs w) : SaysY fa fn ts tf xs ex w h (frT h.get? as) := by
  have e0 : (obsT fa fn ts (frT h.get? as), ex (frT h.get? as) && tabsB h.get? tf (frT h.get? as)) = valX fn ts w := congrArg (fun z : AlY => z.1) e
  have e3 : xs.map (fun d => fnY (frT h.get? as) d.cls) = xs.map InD.val := congrArg (fun z : AlY => z.2) e
  obtain ⟨m1, m2⟩ := ba (show (ex (frT h.get? as) && tabsB h.get? tf (frT h.get? as)) = true from congrArg (fun z : AlX => z.2) e0)
  have at_ : ∀ p ∈ tf, PySem.W.codeHdIn (frT h.get? as) (cT (frT h.get? as) p).1 (cT (frT h.get? as) p).2 = true ∧ ∃ o, h.get? (cT (frT h.get? as) p).2 = some o ∧ emptyTab o = true := fun p hp => by
    have b := ba (List.all_eq_true.mp m2 p hp)
    refine ⟨b.1, ?_⟩
    have b2 := b.2
    cases q : h.get? (cT (frT h.get? as) p).2 with
    | none => rw [q] at b2; cases b2
    | some o => rw [q] at b2; exact ⟨o, rfl, b2⟩
  refine ⟨⟨congrArg (fun z : AlX => z.1) e0, m1, fun p hp => (at_ p hp).1, fun p hp => ?_, fun p hp => ?_⟩, e3⟩
  · obtain ⟨o, q, z⟩ := (at_ p hp).2
    exact frT_none q z
  · obtain ⟨o, q, z⟩ := (at_ p hp).2
    rw [q, emptyTab_eq z]
abbrev hookZ (as : List Addr) (fa : List Fa) (fn : List DefD) (ts : List Tab) (tf : List Defn) (xs : List InD) (ex : PySem.W.Frag → Bool) : PySem.W.Hook := {
  α := AlY
  obs := fun s => obsZ as fa fn ts tf xs ex s.heap.get?
  val := fun w => valY fn ts xs w
  says := fun w h => ∃ K : PySem.W.Frag, K.In h ∧ SaysY fa fn ts tf xs ex w h K
  of := fun _ _ e => ⟨_, frT_in, saysZ_of e⟩
  keeps := fun _ _ _ ⟨K, hK, c⟩ k => ⟨K, PySem.W.Frag.In.keeps hK k, ⟨⟨c.x.t, c.x.more, c.x.hd, c.x.out, fun p hp => k _ _ (c.x.empty p hp)⟩, c.inits⟩⟩ }
theorem obsZ_eq {as : List Addr} {fa : List Fa} {fn : List DefD} {ts : List Tab} {tf : List Defn} {xs : List InD} {ex : PySem.W.Frag → Bool} {g : Addr → Option Obj} {s : Shared} (h : ∀ a, g a = s.heap.get? a) : obsZ as fa fn ts tf xs ex g = (hookZ as fa fn ts tf xs ex).obs s := by
  have e : g = s.heap.get? := funext h
  rw [e] <;> rfl
end HeY
end
section
set_option maxRecDepth 100000
set_option maxHeartbeats 0
namespace K3H
open PySem PySem.W PySem.Calls PyProof.Rows
abbrev R : OpenRow := OpenLaw.row PySem.Challenge.rw_markscript_k13_texts_refused
abbrev qv : Program := view R.prog [54]
def names0 : List PySem.Str := ["MarkError", "BadPaper", "BadWork", "BadStep", "BadCount", "NoWork", "BadText", "WORDS", "SHAPES", "BOUNDS", "MOST_WITHIN", "is_number", "fits", "can_be", "within", "MOST_IN_PAPER", "MOST_IN_SCHEME", "LONGEST_PLACE", "EARNERS", "MOST_EARNERS", "WATCHERS", "MOST_WATCHERS", "placed", "schemes_in", "many_of", "check_paper", "MOST_FIGURES"]
def names1 : List PySem.Str := ["is_figures", "can_stand", "coming", "kinds_in", "taken", "scheme_of", "read", "_law_begun", "_law_take", "_law_alike", "_law_told", "_law_letters", "_law_scheme", "_law_counted", "_law_paper", "_law_text", "_law_spoilt", "_law_number", "_law_grown", "_law_first_bad", "_law_tally", "_law_due"]
def names : List PySem.Str := names0 ++ names1
/-- a def of the top -/
def dG (x : PySem.Str) (st : Stmt) : He.DefD := ⟨(x, none), x, x, L2.defArgs st, L2.defBody st, L2.defScope st, [], []⟩
def fn0 : List He.DefD := [dG "is_number" MS.s_is_number, dG "fits" MS.s_fits, dG "can_be" MS.s_can_be, dG "within" MS.s_within, dG "placed" MS.s_placed, dG "schemes_in" MS.s_schemes_in, dG "many_of" MS.s_many_of, dG "check_paper" MS.s_check_paper, dG "is_figures" MS.s_is_figures, dG "can_stand" MS.s_can_stand, dG "coming" MS.s_coming, dG "kinds_in" MS.s_kinds_in, dG "taken" MS.s_taken, dG "scheme_of" MS.s_scheme_of, dG "read" MS.s_read, dG "_law_begun" MS.s_L_begun, dG "_law_take" MS.s_L_take, dG "_law_alike" MS.s_L_alike]
def fn1 : List He.DefD := [dG "_law_told" MS.s_L_told, dG "_law_letters" MS.s_L_letters, dG "_law_scheme" MS.s_L_scheme, dG "_law_counted" MS.s_L_counted, dG "_law_paper" MS.s_L_paper, dG "_law_text" MS.s_L_text, dG "_law_spoilt" MS.s_L_spoilt, dG "_law_number" MS.s_L_number, dG "_law_grown" MS.s_L_grown, dG "_law_first_bad" MS.s_L_first_bad, dG "_law_tally" MS.s_L_tally, dG "_law_due" MS.s_L_due, dG "law" MS.s_law]
def fn : List He.DefD := fn0 ++ (fn1)
def glo0 : List PySem.Str := ["MarkError", "BadPaper", "BadWork", "BadStep", "BadCount", "NoWork", "BadText", "WORDS", "SHAPES", "BOUNDS", "is_number", "fits", "can_be", "within", "EARNERS", "WATCHERS", "placed", "schemes_in", "many_of", "check_paper", "is_figures", "can_stand"]
def glo1 : List PySem.Str := ["coming", "kinds_in", "taken", "scheme_of", "read", "_law_begun", "_law_take", "_law_alike", "_law_told", "_law_letters", "_law_scheme", "_law_counted", "_law_paper", "_law_text", "_law_spoilt", "_law_number", "_law_grown", "_law_first_bad", "_law_tally", "_law_due", "law"]
def gloL : List PySem.Str := glo0 ++ glo1
def freeL : List PySem.Str := ["len", "list", "range", "tuple", "int", "isinstance", "any", "all", "zip", "enumerate", "str", "bool", "min", "max", "sum", "sorted", "set", "reversed", "super", "ValueError"]
def errL : List PySem.Str := ["BadPaper", "BadWork", "BadStep", "BadCount", "NoWork", "BadText"]
def restF : List He.Fa := [.int "MOST_WITHIN" 4, .int "MOST_IN_PAPER" 5, .int "MOST_IN_SCHEME" 12, .int "LONGEST_PLACE" 4, .int "MOST_EARNERS" 7, .int "MOST_WATCHERS" 3, .int "MOST_FIGURES" 2, .noat "BadPaper" "scheme", .noat "BadPaper" "place", .noat "BadWork" "number", .noat "BadText" "place"]
def fa : List He.Fa := gloL.map .glo ++ (freeL.map .free ++ (restF ++ errL.map fun x => .exm x "MarkError" true))
/-- what stands at a key of a dict of the top, if it is an object -/
def inD (x k : PySem.Str) (K : Frag) : Addr := match nsIn K (He.ga K x) k with
  | some (some (.ref a)) => a
  | _ => 0
/-- a tuple of these stands there -/
def tupAt (K : Frag) (a : Addr) (vs : List L2.V) : Bool := match K.lookup a with
  | some ⟨.type c, _, .seq its _, _⟩ => decide (c = "tuple") && (decide (its.size ≤ sizeLine) && He.relAll vs its.toList)
  | _ => false
def entB (x : PySem.Str) (k : PySem.Str) (vs : List L2.V) (K : Frag) : Bool := He.eqO (nsIn K (He.ga K x) k) (some (some (.ref (inD x k K)))) && tupAt K (inD x k K) vs
def shapesV : List (PySem.Str × List L2.V) := [("step", [.str "word", .str "points"]), ("all", [.str "schemes"]), ("best", [.str "schemes"]), ("most", [.str "limit", .str "scheme"]), ("half", [.str "scheme"]), ("seen", [.str "word", .str "scheme"]), ("behind", [.str "word", .str "scheme"]), ("carry", [.str "scheme"]), ("end", [.str "word", .str "points", .str "scheme"]), ("use", [.str "later"])]
def boundsV : List (PySem.Str × List L2.V) := [("points", [.int 1, .int 9]), ("limit", [.int 0, .int 30])]
def wordsD : List He.Dv := [.str "a", .str "b", .str "c", .str "d", .str "e", .str "f", .str "g", .str "h"]
/-- what is asked of an error caught -/
def excCB (K : Frag) (D : Addr) : Bool := He.eqO (findIn K (.ref D) "__getattribute__") (some (some (.builtin "BaseException.__getattribute__"))) && (He.eqO (findIn K (.ref D) "__getattr__") (some none) && (decide (subIn K (.ref D) (.type "BaseException") = some true) && (hasDictIn K D &&
  (He.eqO (findIn K (.ref D) "__class__") (some (some (.builtin "object.__class__"))) && (He.eqO (specialIn K (.builtin "object.__class__") "__get__") (some (some (.builtin "getset_descriptor.__get__"))) && (decide (takesIn K (.builtin "object.__class__") = some true) && decide (mroIn K D (.type "object") = some true)))))))
def kitB (K : Frag) (i : Nat) : Bool := (List.range 6).all fun j => decide (kitOne K (.ref (He.ga K (errL.getD i ""))) (.ref (He.ga K (errL.getD j ""))) = some (decide (i = j)))
def errB (K : Frag) (i : Nat) : Bool := excCB K (He.ga K (errL.getD i "")) && (kitB K i && (decide (kitOne K (.ref (He.ga K (errL.getD i ""))) (.type "ValueError") = some true) && L2.xfB K (He.ga K (errL.getD i ""))))
def noDfl (K : Frag) (f : Addr) : Bool := match K.lookup f with
  | some ⟨_, _, .func fd, _⟩ => decide (fd.defaults = .none)
  | _ => false
def file : PySem.Str := R.prog.main.file
def initB (K : Frag) (x qn : PySem.Str) : Bool := HeY.supB K file x qn && noDfl K (He.ma K (He.ga K x) "__init__")
def exT (K : Frag) : Bool := He.tupB K "WORDS" wordsD && (He.tupB K "EARNERS" [.str "step", .str "end"] && (He.tupB K "WATCHERS" [.str "seen", .str "behind"] && (shapesV.all (fun p => entB "SHAPES" p.1 p.2 K) && boundsV.all (fun p => entB "BOUNDS" p.1 p.2 K))))
def ex (K : Frag) : Bool := exT K && ((List.range 6).all (errB K) && (initB K "BadPaper" "BadPaper.__init__" && initB K "BadText" "BadText.__init__"))
def ts : List He.Tab := [(fun K => He.ga K "SHAPES", shapesV.map (·.1)), (fun K => He.ga K "BOUNDS", boundsV.map (·.1))]
def tf : List He.Defn := [("law", none)]
def xs : List HeY.InD := [MS.dPaper, MS.dText]
/-- where the top's names, their classes' methods and the code of these stand, when the top has run -/
def asL : List Addr := [3, 2, 24, 46, 67, 79, 91, 103, 124, 0, 1, 6, 17, 23, 30, 45, 51, 66, 72, 78, 84, 90, 96, 102, 108, 123, 128, 139, 43, 42, 64, 63, 121, 120, 148, 147, 155, 154, 160, 159, 167, 166, 174, 173, 181, 180, 188, 187, 195, 194, 202, 201, 209, 208, 216, 215, 223, 222, 230, 229, 237, 236, 244, 243, 251, 250, 258, 257, 265, 264, 272, 271, 279, 278, 284, 283, 289, 288, 294, 293, 299, 298, 304, 303, 311, 310, 318, 317, 323, 322, 330, 329, 337, 336, 342, 341, 9, 12, 13, 16, 20, 25, 26, 27, 29, 31, 33, 34, 47, 48, 50, 52, 54, 55, 68, 69, 71, 75, 80, 81, 83, 87, 92, 93, 95, 99, 104, 105, 107, 109, 111, 112, 125, 126, 127, 129, 130, 131, 132, 133, 134, 135, 136, 137, 138, 140, 141, 168, 169]
abbrev hk : Hook := HeY.hookZ asL fa fn ts tf xs ex
def ob (s : SharedT) : HeY.AlY := HeY.obsZ asL fa fn ts tf xs ex (HandSHeadRun.getT s)
theorem ob_eq (s : SharedT) : ob s = hk.obs s.abs := HeY.obsZ_eq (HandSHeadRun.getT_eq s)
theorem run (w : World) : HandSHeadRun.RunEq R qv hk ob 4000 names w :=
  byRow2 "special-get-raises" (P := fun w => HandSHeadRun.RunEq R qv hk ob 4000 names w) (fun w os => by kernel_rfl) (fun w os => by kernel_rfl) w
end K3H
end
section
set_option maxRecDepth 100000
set_option maxHeartbeats 4000000
namespace MS
open PySem L2
/-! ### the head: what the top has left -/
section
variable {w : World} {K : PySem.W.Frag} {h : Heap} {mg : Str → Option Value}
theorem fa_glo (c : He.SaysD K3H.fa K3H.fn K) {x : Str} (hx : x ∈ K3H.gloL) : (He.Fa.glo x).ok K = true := c.facts (List.mem_append_left _ (List.mem_map_of_mem hx))
theorem fa_free (c : He.SaysD K3H.fa K3H.fn K) {x : Str} (hx : x ∈ K3H.freeL) : (He.Fa.free x).ok K = true := c.facts (List.mem_append_right _ (List.mem_append_left _ (List.mem_map_of_mem hx)))
theorem fa_rest (c : He.SaysD K3H.fa K3H.fn K) (i : Nat) {f : He.Fa} (hi : K3H.restF[i]? = some f := by rfl) : f.ok K = true := c.facts (List.mem_append_right _ (List.mem_append_right _ (List.mem_append_left _ (List.mem_of_getElem? hi))))
theorem fa_err (c : He.SaysD K3H.fa K3H.fn K) {x : Str} (hx : x ∈ K3H.errL) : (He.Fa.exm x "MarkError" true).ok K = true := c.facts (List.mem_append_right _ (List.mem_append_right _ (List.mem_append_right _ (List.mem_map_of_mem (f := fun x => He.Fa.exm x "MarkError" true) hx))))
theorem fn_0 (c : He.SaysD K3H.fa K3H.fn K) (i : Nat) {d : He.DefD} (hi : K3H.fn0[i]? = some d := by rfl) : ∃ fd, FunD K d.name d.qual d.params d.body d.scope (d.dvs K) (d.kws K) (He.fAd K d.at_) fd := c.defs (List.mem_append_left _ (List.mem_of_getElem? hi))
theorem fn_1 (c : He.SaysD K3H.fa K3H.fn K) (i : Nat) {d : He.DefD} (hi : K3H.fn1[i]? = some d := by rfl) : ∃ fd, FunD K d.name d.qual d.params d.body d.scope (d.dvs K) (d.kws K) (He.fAd K d.at_) fd := c.defs (List.mem_append_right _ (List.mem_of_getElem? hi))
noncomputable def mkDef (X : K.In h) (G : h.Ns mainGlobals mg) (x : Str) (st : Stmt) (ps : List Str) (hg : (He.Fa.glo x).ok K = true) (hd : ∃ fd, FnP K x st (He.ga K x) fd) (hb : ∀ fd, FnP K x st (He.ga K x) fd → Binds K fd ps []) : Def K mg x st ps :=
  ⟨He.ga K x, hd.choose, hd.choose_spec, He.glo_ok X G hg, hb _ hd.choose_spec⟩
end
theorem tupAt_ok {K : PySem.W.Frag} {a : Addr} {vs : List V} (h : K3H.tupAt K a vs = true) (H : Hp) : SqT K H a vs := by
  unfold K3H.tupAt at h
  cases q : K.lookup a with
  | none =>
    rw [q] at h
    cases h
  | some o =>
    obtain ⟨oc, od, dt, osl⟩ := o
    rw [q] at h
    cases oc with
    | type c =>
      cases dt with
      | seq its n =>
        obtain ⟨g1, g2⟩ := He.ba (show (decide (c = "tuple") && (decide (its.size ≤ sizeLine) && He.relAll vs its.toList)) = true from h)
        obtain ⟨g3, g4⟩ := He.ba g2
        exact .inr ⟨_, its, n, q, congrArg Value.type (of_decide_eq_true g1), rfl, of_decide_eq_true g3, He.relAll_ok g4⟩
      | _ => cases h
    | _ => cases dt <;> cases h
theorem ent_ok {w : World} {K : PySem.W.Frag} {x k : Str} {vs : List V} (hd : ∃ es n, KDict K w (He.ga K x) es n) (h : K3H.entB x k vs K = true) : ∃ t, KDct K w (He.ga K x) k (.ref t) ∧ ∀ H, SqT K H t vs := by
  obtain ⟨h1, h2⟩ := He.ba h
  obtain ⟨es, n, l, kl, _⟩ := hd
  exact ⟨K3H.inD x k K, ⟨es, n, _, l, kl, He.eqO_ok h1, rfl⟩, fun H => tupAt_ok h2 H⟩
theorem key_not {P : Params} {x : Str} : ∀ {l : List DictEntry} {ks : List Str}, l.map He.keyOf = He.keysIn P ks → x ∉ ks → l.find? (·.key.isStr x) = none ∧ l.any (·.refKey) = false
  | [], _, _, _ => ⟨rfl, rfl⟩
  | e :: r, [], h, _ => by cases h
  | e :: r, k :: ks, h, hx => by
    have h1 : He.keyOf e :: r.map He.keyOf = some (k, PyData.keyHash P k) :: He.keysIn P ks := h
    injection h1 with h2 h3
    obtain ⟨i1, i2⟩ := key_not h3 (fun z => hx (List.mem_cons_of_mem _ z))
    unfold He.keyOf at h2
    split at h2
    · rename_i y t q
      have h4 := Option.some.inj h2
      obtain ⟨h5, h6⟩ := Prod.mk.inj h4
      subst h5
      have hne : (y == x) = false := beq_eq_false_iff_ne.mpr fun z => hx (by rw [← z]; exact List.mem_cons_self)
      have n1 : e.key.isStr x = false := by rw [q]; exact hne
      have n2 : e.refKey = false := by unfold DictEntry.refKey; rw [q]
      rw [List.find?_cons, n1, List.any_cons, n2]
      exact ⟨i1, i2⟩
    · cases h2
theorem dic_miss {w : World} {K : PySem.W.Frag} {a : Addr} {ks : List Str} (h : He.dicW K a = some (He.keysIn w.params ks)) {x : Str} (hx : x ∉ ks) : PySem.W.nsIn K a x = some none := by
  unfold He.dicW at h
  unfold PySem.W.nsIn
  split at h
  · rename_i c es n sl q
    rw [q]
    split at h
    · obtain ⟨h1, h2⟩ := key_not (Option.some.inj h) hx
      dsimp only
      rw [h1]
      dsimp only
      rw [h2]
      rfl
    · cases h
  · cases h
section
variable {w : World} {K : PySem.W.Frag} {h : Heap} {mg : Str → Option Value}
theorem excCB_ok {D : Addr} (h : K3H.excCB K D = true) : ExcC K D := by
  obtain ⟨h1, h⟩ := He.ba h
  obtain ⟨h2, h⟩ := He.ba h
  obtain ⟨h3, h⟩ := He.ba h
  obtain ⟨h4, h⟩ := He.ba h
  obtain ⟨h5, h⟩ := He.ba h
  obtain ⟨h6, h⟩ := He.ba h
  obtain ⟨h7, h8⟩ := He.ba h
  exact ⟨He.eqO_ok h1, He.eqO_ok h2, of_decide_eq_true h3, h4, He.eqO_ok h5, He.eqO_ok h6, of_decide_eq_true h7, of_decide_eq_true h8⟩
theorem ptx (X : K.In h) (G : h.Ns mainGlobals mg) (c : He.SaysT K3H.fa K3H.fn K3H.ts w K) (e : K3H.exT K = true) : PTx w K mg := by
  have d := c.d
  obtain ⟨e1, e⟩ := He.ba e
  obtain ⟨e2, e⟩ := He.ba e
  obtain ⟨e3, e⟩ := He.ba e
  obtain ⟨e4, e5⟩ := He.ba e
  have tS := c.tab 0 (t := (fun K => He.ga K "SHAPES", K3H.shapesV.map (·.1))) rfl
  have tB := c.tab 1 (t := (fun K => He.ga K "BOUNDS", K3H.boundsV.map (·.1))) rfl
  have bS : ∀ p ∈ K3H.boundsV, ∃ t, KDct K w (He.ga K "BOUNDS") p.1 (.ref t) ∧ ∀ H, SqT K H t p.2 := fun p hp => ent_ok tB (List.all_eq_true.mp e5 p hp)
  obtain ⟨t1, k1, q1⟩ := bS ("points", [.int 1, .int 9]) List.mem_cons_self
  obtain ⟨t2, k2, q2⟩ := bS ("limit", [.int 0, .int 30]) (List.mem_cons_of_mem _ List.mem_cons_self)
  have hSh : ∀ p ∈ shapesL, ∃ t, KDct K w (He.ga K "SHAPES") p.1 (.ref t) ∧ ∀ H, SqT K H t (p.2.map V.str) := fun p hp => by
    have hm : (p.1, p.2.map V.str) ∈ K3H.shapesV := by
      have hp' : (p.1, p.2.map V.str) ∈ shapesL.map fun p => (p.1, p.2.map V.str) := List.mem_map_of_mem (f := fun p : Str × List Str => (p.1, p.2.map V.str)) hp
      exact hp'
    exact ent_ok (x := "SHAPES") (k := p.1) (vs := p.2.map V.str) tS (List.all_eq_true.mp e4 _ hm)
  exact {
    words := ⟨_, He.glo_ok X G (fa_glo d (x := "WORDS") (by decide +kernel)), fun H => He.tupB_ok e1 H⟩
    mostWithin := He.int_ok X G (fa_rest d 0)
    mostInPaper := He.int_ok X G (fa_rest d 1)
    mostInScheme := He.int_ok X G (fa_rest d 2)
    longest := He.int_ok X G (fa_rest d 3)
    mostE := He.int_ok X G (fa_rest d 4)
    mostW := He.int_ok X G (fa_rest d 5)
    earners := ⟨_, He.glo_ok X G (fa_glo d (x := "EARNERS") (by decide +kernel)), fun H => He.tupB_ok e2 H⟩
    watchers := ⟨_, He.glo_ok X G (fa_glo d (x := "WATCHERS") (by decide +kernel)), fun H => He.tupB_ok e3 H⟩
    shapes := ⟨_, He.glo_ok X G (fa_glo d (x := "SHAPES") (by decide +kernel)), by
      obtain ⟨_, _, _, _, z⟩ := tS
      exact z, hSh⟩
    bounds := ⟨_, He.glo_ok X G (fa_glo d (x := "BOUNDS") (by decide +kernel)), t1, t2, k1, q1, k2, q2⟩
    free := fun x hx => He.free_ok X G (fa_free d (show x ∈ K3H.freeL from (List.mem_append_left (["super", "ValueError"] : List Str) hx : x ∈ freeL ++ (["super", "ValueError"] : List Str)))) }
theorem pte (X : K.In h) (G : h.Ns mainGlobals mg) (c : He.SaysT K3H.fa K3H.fn K3H.ts w K) : PTe w K mg := by
  have d := c.d
  have e : K3H.ts.map (fun t => He.dicW K (t.1 K)) = K3H.ts.map fun t => some (He.keysIn w.params t.2) := congrArg (fun z : He.AlT => z.2) c
  have e2 : (K3H.ts.map fun t => He.dicW K (t.1 K))[0]? = (K3H.ts.map fun t => some (He.keysIn w.params t.2))[0]? := by rw [e]
  have e3 : He.dicW K (He.ga K "SHAPES") = some (He.keysIn w.params (K3H.shapesV.map (·.1))) := Option.some.inj e2
  refine ⟨He.int_ok X G (fa_rest d 6), fun a ha x hx => ?_⟩
  have e4 := He.glo_ok X G (fa_glo d (x := "SHAPES") (by decide +kernel))
  rw [ha] at e4
  obtain rfl : a = He.ga K "SHAPES" := by
    injection e4 with e4
    injection e4
  exact dic_miss e3 hx
noncomputable def errF (X : K.In h) (G : h.Ns mainGlobals mg) (d : He.SaysD K3H.fa K3H.fn K) (e : K3H.ex K = true) : ErrF K mg := 
  have e1 := (He.ba (He.ba e).2).1
  have er : ∀ i, i < 6 → K3H.errB K i = true := fun i hi => List.all_eq_true.mp e1 i (List.mem_range.mpr hi)
  have parts : ∀ i, i < 6 → K3H.excCB K (He.ga K (errNm i)) = true ∧ K3H.kitB K i = true ∧ PySem.W.kitOne K (.ref (He.ga K (errNm i))) (.type "ValueError") = some true ∧ xfB K (He.ga K (errNm i)) = true := fun i hi => by
    obtain ⟨h1, h⟩ := He.ba (er i hi)
    obtain ⟨h2, h⟩ := He.ba h
    obtain ⟨h3, h4⟩ := He.ba h
    exact ⟨h1, h2, of_decide_eq_true h3, h4⟩
  { A := fun i => He.ga K (errNm i)
    CM := He.ga K "MarkError"
    gP := He.glo_ok X G (fa_glo d (x := "BadPaper") (by decide +kernel))
    gW := He.glo_ok X G (fa_glo d (x := "BadWork") (by decide +kernel))
    gS := He.glo_ok X G (fa_glo d (x := "BadStep") (by decide +kernel))
    gC := He.glo_ok X G (fa_glo d (x := "BadCount") (by decide +kernel))
    gN := He.glo_ok X G (fa_glo d (x := "NoWork") (by decide +kernel))
    gT := He.glo_ok X G (fa_glo d (x := "BadText") (by decide +kernel))
    gM := He.glo_ok X G (fa_glo d (x := "MarkError") (by decide +kernel))
    ve := He.free_ok X G (fa_free d (x := "ValueError") (by decide +kernel))
    isi := He.free_ok X G (fa_free d (x := "isinstance") (by decide +kernel))
    ex := fun i hi => excCB_ok (parts i hi).1
    kit := fun i j hi hj => of_decide_eq_true (List.all_eq_true.mp (parts i hi).2.1 j (List.mem_range.mpr hj))
    kv := fun i hi => (parts i hi).2.2.1
    exm := fun i hi => by
      have hm : errNm i ∈ K3H.errL := by
        have key : ∀ i, i < 6 → errNm i ∈ K3H.errL := by decide +kernel
        exact key i hi
      exact He.exm_ok (fa_err d hm)
    xf := fun i hi => xfB_ok (parts i hi).2.2.2
    no0 := He.noat_ok (fa_rest d 7)
    no1 := He.noat_ok (fa_rest d 8)
    no2 := He.noat_ok (fa_rest d 9)
    no3 := He.noat_ok (fa_rest d 10) }
theorem init_fd {P : Program} {dd : HeY.InD} (Y : HeY.SupX P K dd) (hn : K3H.noDfl K (He.ma K (He.ga K dd.cls) "__init__") = true) : ∃ (oc : Value) (od : Option Addr) (osl : Array (Option Value)) (kV doc pm : Value) (an : Option Addr) (ct : Value), K.lookup (He.ma K (He.ga K dd.cls) "__init__") = some ⟨oc, od, .func (PySem.W.ksFn "__init__" dd.qual dd.params dd.body dd.scope .none kV doc pm an (.ref (HeY.cdOf K (He.ma K (He.ga K dd.cls) "__init__"))) ct (HeY.ccOf K (He.ma K (He.ga K dd.cls) "__init__"))), osl⟩ := by
  obtain ⟨oc, od, osl, dV, kV, doc, pm, an, ct, lk⟩ := Y.c.fn
  unfold K3H.noDfl at hn
  rw [lk] at hn
  obtain rfl : dV = .none := of_decide_eq_true hn
  exact ⟨oc, od, osl, kV, doc, pm, an, ct, lk⟩
end
end MS
end
section
set_option maxRecDepth 100000
set_option maxHeartbeats 4000000
namespace MS
open PySem L2
section
set_option maxHeartbeats 0
theorem facts {P : Program} {w : World} {K : PySem.W.Frag} {h : Heap} {mg : Str → Option Value} {f : Addr} (hfile : P.main.file = K3H.file) (hsup : (P.main.scope.names.lookup ("super" : Str)).isSome = false) (X : K.In h) (G : h.Ns mainGlobals mg) (hfa : mg ("law" : Str) = some (.ref f)) (c : HeY.SaysY K3H.fa K3H.fn K3H.ts K3H.tf K3H.xs K3H.ex w h K) :
    ∃ fd : FuncData, (∀ (s : Shared) (v : Value), BindsTo s fd ⟨[v], []⟩ [("_law_script", v)]) ∧ ∀ base : Heap, K.In base → base.Ns mainGlobals mg → LamX.TabB base mg (He.cT K ("law", none)).1 (He.cT K ("law", none)).2 → FnOk P w K mg base CX0 205 f fd ["_law_script"] (spLaw K (He.cT K ("law", none)).2) := by
  have d := c.x.t.d
  obtain ⟨e1, e⟩ := He.ba c.x.more
  have T := ptx (w := w) X G c.x.t e1
  have U := pte (w := w) X G c.x.t
  let F := errF X G d c.x.more
  obtain ⟨e2, e⟩ := He.ba e
  obtain ⟨e3, e4⟩ := He.ba e
  obtain ⟨e3a, e3b⟩ := He.ba e3
  obtain ⟨e4a, e4b⟩ := He.ba e4
  have i0 : HeY.fnY K dPaper.cls = dPaper.val := by
    have := c.inits
    exact (List.cons.inj this).1
  have i1 : HeY.fnY K dText.cls = dText.val := by
    have := c.inits
    exact (List.cons.inj (List.cons.inj this).2).1
  have YP : HeY.SupX P K dPaper := HeY.supB_ok i0 e3a hfile
  have YT : HeY.SupX P K dText := HeY.supB_ok i1 e4a hfile
  have msu : mg "super" = none := He.free_ok X G (fa_free d (x := "super") (by decide +kernel))
  obtain ⟨oc1, od1, osl1, kV1, doc1, pm1, an1, ct1, lk1⟩ := init_fd YP e3b
  obtain ⟨oc2, od2, osl2, kV2, doc2, pm2, an2, ct2, lk2⟩ := init_fd YT e4b
  let DP : DPaper K mg := {
    DN := (mkDef X G "is_number" s_is_number ["thing"] (fa_glo d (by decide +kernel)) (fn_0 d 0 (d := K3H.dG "is_number" s_is_number)) fun fd F => F.bindsN fun _ _ _ _ _ _ us hl => match us, hl with | [_], _ => rfl)
    DF := (mkDef X G "fits" s_fits ["part", "kind", "number", "many"] (fa_glo d (by decide +kernel)) (fn_0 d 1 (d := K3H.dG "fits" s_fits)) fun fd F => F.bindsN fun _ _ _ _ _ _ us hl => match us, hl with | [_, _, _, _], _ => rfl)
    DB := (mkDef X G "can_be" s_can_be ["thing", "number", "many"] (fa_glo d (by decide +kernel)) (fn_0 d 2 (d := K3H.dG "can_be" s_can_be)) fun fd F => F.bindsN fun _ _ _ _ _ _ us hl => match us, hl with | [_, _, _], _ => rfl)
    DI := (mkDef X G "within" s_within ["scheme"] (fa_glo d (by decide +kernel)) (fn_0 d 3 (d := K3H.dG "within" s_within)) fun fd F => F.bindsN fun _ _ _ _ _ _ us hl => match us, hl with | [_], _ => rfl)
    DP := (mkDef X G "placed" s_placed ["schemes", "place"] (fa_glo d (by decide +kernel)) (fn_0 d 4 (d := K3H.dG "placed" s_placed)) fun fd F => F.bindsN fun _ _ _ _ _ _ us hl => match us, hl with | [_, _], _ => rfl)
    DS := (mkDef X G "schemes_in" s_schemes_in ["paper", "number"] (fa_glo d (by decide +kernel)) (fn_0 d 5 (d := K3H.dG "schemes_in" s_schemes_in)) fun fd F => F.bindsN fun _ _ _ _ _ _ us hl => match us, hl with | [_, _], _ => rfl)
    DM := (mkDef X G "many_of" s_many_of ["names", "parts"] (fa_glo d (by decide +kernel)) (fn_0 d 6 (d := K3H.dG "many_of" s_many_of)) fun fd F => F.bindsN fun _ _ _ _ _ _ us hl => match us, hl with | [_, _], _ => rfl)
    DC := (mkDef X G "check_paper" s_check_paper ["paper"] (fa_glo d (by decide +kernel)) (fn_0 d 7 (d := K3H.dG "check_paper" s_check_paper)) fun fd F => F.bindsN fun _ _ _ _ _ _ us hl => match us, hl with | [_], _ => rfl) }
  let D : D13 K mg := {
    DBg := (mkDef X G "_law_begun" s_L_begun ["_law_script"] (fa_glo d (by decide +kernel)) (fn_0 d 15 (d := K3H.dG "_law_begun" s_L_begun)) fun fd F => F.bindsN fun _ _ _ _ _ _ us hl => match us, hl with | [_], _ => rfl)
    DT := (mkDef X G "_law_take" s_L_take ["_law_box", "_law_many"] (fa_glo d (by decide +kernel)) (fn_0 d 16 (d := K3H.dG "_law_take" s_L_take)) fun fd F => F.bindsN fun _ _ _ _ _ _ us hl => match us, hl with | [_, _], _ => rfl)
    DAl := (mkDef X G "_law_alike" s_L_alike ["_law_found", "_law_due_here"] (fa_glo d (by decide +kernel)) (fn_0 d 17 (d := K3H.dG "_law_alike" s_L_alike)) fun fd F => F.bindsN fun _ _ _ _ _ _ us hl => match us, hl with | [_, _], _ => rfl)
    DTo := (mkDef X G "_law_told" s_L_told ["_law_work"] (fa_glo d (by decide +kernel)) (fn_1 d 0 (d := K3H.dG "_law_told" s_L_told)) fun fd F => F.bindsN fun _ _ _ _ _ _ us hl => match us, hl with | [_], _ => rfl)
    DLe := (mkDef X G "_law_letters" s_L_letters ["_law_box"] (fa_glo d (by decide +kernel)) (fn_1 d 1 (d := K3H.dG "_law_letters" s_L_letters)) fun fd F => F.bindsN fun _ _ _ _ _ _ us hl => match us, hl with | [_], _ => rfl)
    DSc := (mkDef X G "_law_scheme" s_L_scheme ["_law_box", "_law_letters_here", "_law_left", "_law_deep", "_law_uses"] (fa_glo d (by decide +kernel)) (fn_1 d 2 (d := K3H.dG "_law_scheme" s_L_scheme)) fun fd F => F.bindsN fun _ _ _ _ _ _ us hl => match us, hl with | [_, _, _, _, _], _ => rfl)
    DCo := (mkDef X G "_law_counted" s_L_counted ["_law_scheme_here", "_law_uses"] (fa_glo d (by decide +kernel)) (fn_1 d 3 (d := K3H.dG "_law_counted" s_L_counted)) fun fd F => F.bindsN fun _ _ _ _ _ _ us hl => match us, hl with | [_, _], _ => rfl)
    DPa := (mkDef X G "_law_paper" s_L_paper ["_law_box", "_law_letters_here"] (fa_glo d (by decide +kernel)) (fn_1 d 4 (d := K3H.dG "_law_paper" s_L_paper)) fun fd F => F.bindsN fun _ _ _ _ _ _ us hl => match us, hl with | [_, _], _ => rfl)
    DTe := (mkDef X G "_law_text" s_L_text ["_law_scheme_here"] (fa_glo d (by decide +kernel)) (fn_1 d 5 (d := K3H.dG "_law_text" s_L_text)) fun fd F => F.bindsN fun _ _ _ _ _ _ us hl => match us, hl with | [_], _ => rfl)
    DSp := (mkDef X G "_law_spoilt" s_L_spoilt ["_law_box", "_law_text_here"] (fa_glo d (by decide +kernel)) (fn_1 d 6 (d := K3H.dG "_law_spoilt" s_L_spoilt)) fun fd F => F.bindsN fun _ _ _ _ _ _ us hl => match us, hl with | [_, _], _ => rfl)
    DNu := (mkDef X G "_law_number" s_L_number ["_law_word"] (fa_glo d (by decide +kernel)) (fn_1 d 7 (d := K3H.dG "_law_number" s_L_number)) fun fd F => F.bindsN fun _ _ _ _ _ _ us hl => match us, hl with | [_], _ => rfl)
    DGr := (mkDef X G "_law_grown" s_L_grown ["_law_words", "_law_at"] (fa_glo d (by decide +kernel)) (fn_1 d 8 (d := K3H.dG "_law_grown" s_L_grown)) fun fd F => F.bindsN fun _ _ _ _ _ _ us hl => match us, hl with | [_, _], _ => rfl)
    DFb := (mkDef X G "_law_first_bad" s_L_first_bad ["_law_paper_here"] (fa_glo d (by decide +kernel)) (fn_1 d 9 (d := K3H.dG "_law_first_bad" s_L_first_bad)) fun fd F => F.bindsN fun _ _ _ _ _ _ us hl => match us, hl with | [_], _ => rfl)
    DTa := (mkDef X G "_law_tally" s_L_tally ["_law_scheme_here", "_law_tallies"] (fa_glo d (by decide +kernel)) (fn_1 d 10 (d := K3H.dG "_law_tally" s_L_tally)) fun fd F => F.bindsN fun _ _ _ _ _ _ us hl => match us, hl with | [_, _], _ => rfl)
    DDu := (mkDef X G "_law_due" s_L_due ["_law_text_here"] (fa_glo d (by decide +kernel)) (fn_1 d 11 (d := K3H.dG "_law_due" s_L_due)) fun fd F => F.bindsN fun _ _ _ _ _ _ us hl => match us, hl with | [_], _ => rfl)
    DFi := (mkDef X G "is_figures" s_is_figures ["word"] (fa_glo d (by decide +kernel)) (fn_0 d 8 (d := K3H.dG "is_figures" s_is_figures)) fun fd F => F.bindsN fun _ _ _ _ _ _ us hl => match us, hl with | [_], _ => rfl)
    DCs := (mkDef X G "can_stand" s_can_stand ["word", "kind"] (fa_glo d (by decide +kernel)) (fn_0 d 9 (d := K3H.dG "can_stand" s_can_stand)) fun fd F => F.bindsN fun _ _ _ _ _ _ us hl => match us, hl with | [_, _], _ => rfl)
    DCm := (mkDef X G "coming" s_coming ["word", "kind"] (fa_glo d (by decide +kernel)) (fn_0 d 10 (d := K3H.dG "coming" s_coming)) fun fd F => F.bindsN fun _ _ _ _ _ _ us hl => match us, hl with | [_, _], _ => rfl)
    DKi := (mkDef X G "kinds_in" s_kinds_in ["words", "start"] (fa_glo d (by decide +kernel)) (fn_0 d 11 (d := K3H.dG "kinds_in" s_kinds_in)) fun fd F => F.bindsN fun _ _ _ _ _ _ us hl => match us, hl with | [_, _], _ => rfl)
    DTk := (mkDef X G "taken" s_taken ["parts", "many"] (fa_glo d (by decide +kernel)) (fn_0 d 12 (d := K3H.dG "taken" s_taken)) fun fd F => F.bindsN fun _ _ _ _ _ _ us hl => match us, hl with | [_, _], _ => rfl)
    DSo := (mkDef X G "scheme_of" s_scheme_of ["words", "kinds"] (fa_glo d (by decide +kernel)) (fn_0 d 13 (d := K3H.dG "scheme_of" s_scheme_of)) fun fd F => F.bindsN fun _ _ _ _ _ _ us hl => match us, hl with | [_, _], _ => rfl)
    DRd := (mkDef X G "read" s_read ["text"] (fa_glo d (by decide +kernel)) (fn_0 d 14 (d := K3H.dG "read" s_read)) fun fd F => F.bindsN fun _ _ _ _ _ _ us hl => match us, hl with | [_], _ => rfl) }
  let DW : Def K mg "law" s_law ["_law_script"] := (mkDef X G "law" s_law ["_law_script"] (fa_glo d (by decide +kernel)) (fn_1 d 12 (d := K3H.dG "law" s_law)) fun fd F => F.bindsN fun _ _ _ _ _ _ us hl => match us, hl with | [_], _ => rfl)
  have e : f = DW.f := by
    have e := hfa.symm.trans DW.g
    cases e
    rfl
  subst e
  have hc : CodeAt K DW.f (He.cT K ("law", none)).1 := fun oc od fd osl c' lk ec => (He.codeOf_eq (p := ("law", none)) lk ec).symm
  refine ⟨DW.fd, fun s v => FunD.bindsA (ps := ["_law_script"]) DW.F (fun _ _ _ _ _ _ us hl => match us, hl with | [_], _ => rfl) s [v] rfl, fun base _ _ TB => ?_⟩
  let RP : Rsr2 P w K mg base := ⟨He.ga K "BadPaper", _, _, YP.c.T, YP.init, YP.ty, init_paper YP hsup msu (He.noat_ok (fa_rest d 7)) (He.noat_ok (fa_rest d 8)) ⟨oc1, od1, osl1, lk1⟩, .all fun us hl => (match us, hl with | [_, _, _], _ => rfl), He.glo_ok X G (fa_glo d (x := "BadPaper") (by decide +kernel))⟩
  let RT : Tr P w K mg base := ⟨He.ga K "BadText", _, _, YT.c.T, YT.init, YT.ty, init_text YT hsup msu (He.noat_ok (fa_rest d 10)) ⟨oc2, od2, osl2, lk2⟩, .all fun us hl => (match us, hl with | [_, _], _ => rfl), He.glo_ok X G (fa_glo d (x := "BadText") (by decide +kernel))⟩
  exact ok_law T U F RT RP DP D TB DW hc
end
end MS
end
set_option Elab.async false
open PySem PySem.W PySem.Calls PyProof.Rows
set_option maxRecDepth 100000 in
set_option maxHeartbeats 0 in
theorem PySem.Challenge.cw_markscript_k13_texts_refused_holds : PySem.Challenge.rw_markscript_k13_texts_refused.Holds := by
  w_on; o_law
  refine HandSHeadRun.head_any (r := OpenLaw.row PySem.Challenge.rw_markscript_k13_texts_refused) (q := view (OpenLaw.row PySem.Challenge.rw_markscript_k13_texts_refused).prog [54]) (H := K3H.hk) (ob := K3H.ob) (M := 4000) (loose := K3H.names) (d := HandSHeadRun.topDef (OpenLaw.row PySem.Challenge.rw_markscript_k13_texts_refused).prog 54) (kwd := []) K3H.ob_eq
    (by kernel_rfl) (fun s => by kernel_rfl) K3H.run (by kernel_rfl) (by kernel_rfl) (by kernel_rfl) (by rfl) (by first | assumption | decide +kernel) (by decide +kernel) ⟨rfl, rfl, rfl, rfl, rfl, by decide +kernel⟩ ?hw ?hc
  case hw => w_witness2
  case hc =>
    refine LamX.walk_ofTsE (l := PySem.Challenge.rw_markscript_k13_texts_refused) (n := 63) (k := 205) (x := "_law_script") (CX := fun _ => L2.CX0) rfl (by decide) (by kernel_rfl) ⟨rfl, by decide, by decide⟩ ?F (fun _ _ _ _ _ z => z)
    intro w mg fa h Y G hmg0
    obtain ⟨K, KX, c⟩ := Y
    have hmg : mg ("law" : PySem.Str) = some (.ref fa) := by
      have e : (HandSHeadRun.topDef (OpenLaw.row PySem.Challenge.rw_markscript_k13_texts_refused).prog 54).name = ("law" : PySem.Str) := by kernel_rfl
      rw [← e]
      exact hmg0
    obtain ⟨fd, hb, hF⟩ := MS.facts (P := (PySem.Challenge.rw_markscript_k13_texts_refused).prog) (w := w) (by kernel_rfl) (by kernel_rfl) KX G hmg c
    have hm : (("law", none) : He.Defn) ∈ K3H.tf := List.mem_cons_self
    have one : ∀ p ∈ [He.cT K ("law", none)], p = He.cT K ("law", none) := fun p hp => List.mem_singleton.mp hp
    exact ⟨K, KX, fd, [He.cT K ("law", none)], MS.spLaw K (He.cT K ("law", none)).2, fun p hp => by rw [one p hp]; exact c.x.empty _ hm, fun p hp => by rw [one p hp]; exact c.x.out _ hm, fun p hp => by rw [one p hp]; exact PySem.W.codeHd_of_K KX (c.x.hd _ hm), hb,
      fun H a ns hl _ hT hS => ⟨a, ns, rfl, hS, hl, hT _ List.mem_cons_self, fun _ => rfl⟩, fun base KB GB hTB => hF base KB GB (hTB _ List.mem_cons_self)⟩
#print axioms PySem.Challenge.cw_markscript_k13_texts_refused_holds
